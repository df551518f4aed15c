import Derived.Test.YtkficnallnpjnaaGreatM15
set_option maxHeartbeats 1000000
namespace Go.Proofs.YtkficnallnpjnaaGreat
open Go.RowKit
theorem zmc (x:Value)(w:World):(method 414 238 x "loop.example/wharfgate/impl.bare").run Tryz.prog w=.ok (252,x) w:=by kernel_rfl
theorem zkU (x:Value)(w:World):(method 414 238 x "loop.example/wharfgate/impl.sound").run Tryz.prog w=.ok (254,x) w:=by kernel_rfl
theorem zlE (x:Value)(w:World):(method 414 240 x "loop.example/wharfgate/impl.bare").run Tryz.prog w=.ok (255,x) w:=by kernel_rfl
theorem zkB (x:Value)(w:World):(method 414 240 x "loop.example/wharfgate/impl.sound").run Tryz.prog w=.ok (257,x) w:=by kernel_rfl
theorem zlK (x:Value)(w:World):(method 414 241 x "loop.example/wharfgate/impl.bare").run Tryz.prog w=.ok (260,x) w:=by kernel_rfl
theorem zkv (x:Value)(w:World):(method 414 241 x "loop.example/wharfgate/impl.sound").run Tryz.prog w=.ok (262,x) w:=by kernel_rfl
theorem zlZ (x:Value)(w:World):(method 414 242 x "loop.example/wharfgate/impl.bare").run Tryz.prog w=.ok (263,x) w:=by kernel_rfl
theorem zkI (x:Value)(w:World):(method 414 242 x "loop.example/wharfgate/impl.sound").run Tryz.prog w=.ok (265,x) w:=by kernel_rfl
theorem zpq (r:Nat)(nm:ByteArray)(ls ms:Int)(a:Option Addr)(cap:Nat)(ws:List ByteArray)(to:ByteArray)(rl:Int)(mu fx:Bool)(df wg:ByteArray)(a0:Option Addr)(cap0:Nat)(ss:List Shp)(w:World)(hr:w.heap[r]?=some (.map yN 4))(hdf:df.size<=maxLen)(hwg:wg.size<=maxLen) :
 Calls Tryz.prog 211 #[.map (some r),.slice a0 ss.length cap0,.agg #[.string nm,.int .i64 1,.int .i64 ls,.int .i64 ms,.slice a ws.length cap,.string to,.int .i64 rl,.bool mu,.bool fx,.string df,.string wg]] w
  fun e w'=>e=.returned (.bool (yF ss ⟨nm,1,ls,ms,ws,to,rl,mu,fx,df,wg⟩))/\Below w.heap.size w w':=by
 have HO:Hid (yF ss ⟨nm,1,ls,ms,ws,to,rl,mu,fx,df,wg⟩=(yL 1 ls ms ws.length to rl wg&&zW ss ⟨nm,1,ls,ms,ws,to,rl,mu,fx,df,wg⟩&&(df.toList.isEmpty||fits 1 ls ms ws df))):=rfl;have hlt:=(gES hr).1
 have hlk:∀o,(Instr.lookup 201 (.map (some r)) (.int .i64 1) true).run Tryz.prog (w.alloc o)=.ok (.tuple #[.func (.func 186) #[] #[],.bool true]) (w.alloc o):=
  fun o=>yQ Tryz.underlying201 Tryz.underlying3 (.int .i64 1) _ rfl yN 4 0 rfl (w.alloc o) r ((Below.heap_alloc w o r hlt).trans hr)
 clear hr;have hm1:=zmc;have hm2:=zkU;have hm3:=zfZ
 by_cases hbare:yL 1 ls ms ws.length to rl wg=true
 rotate_left
 ·have HBare:Hid (yL 1 ls ms ws.length to rl wg=false):=by simpa[Hid] using hbare
  clear hbare hm2 hm3;go_enter Tryz.func211,Tryz.ntmps211;go_wp2_with fail
  refine(zdu _ _ _ _ _ _ _ _ _ _ _ _ _ _).mono ?_;rintro e w1⟨rfl,hb1⟩;have hX1:=za (zl w _ _) (by simp) hb1;have hz1:w.heap.size<w1.heap.size:=by have:=hb1.size;simp at this;omega
  have hB1:=(bAl _ _).trans (hb1.mono (by simp));clear hb1 hlk;go_wp2_with fail
  refine(zf HBare.out (zbB _ _ _ _ _ _ _ _ _ _ _ _ _ _)).mono ?_;rintro e w2⟨rfl,hb2⟩;have hX2:=za hX1 hz1 hb2;have hz2:w.heap.size<w2.heap.size:=by have:=hb2.size;omega
  have hB2:=hB1.trans (hb2.mono (by omega));clear hb2 hX1 hz1 hB1;go_wp2_with fail
  go_ret;exact⟨ze (by rw[HO.out,HBare.out];rfl),hB2⟩
 have HBare:=hid hbare;clear hbare
 by_cases hsnd:zW ss ⟨nm,1,ls,ms,ws,to,rl,mu,fx,df,wg⟩=true
 rotate_left
 ·have HSnd:Hid (zW ss ⟨nm,1,ls,ms,ws,to,rl,mu,fx,df,wg⟩=false):=by simpa[Hid] using hsnd
  clear hsnd hm3;go_enter Tryz.func211,Tryz.ntmps211;go_wp2_with fail
  refine(zdu _ _ _ _ _ _ _ _ _ _ _ _ _ _).mono ?_;rintro e w1⟨rfl,hb1⟩;have hX1:=za (zl w _ _) (by simp) hb1;have hz1:w.heap.size<w1.heap.size:=by have:=hb1.size;simp at this;omega
  have hB1:=(bAl _ _).trans (hb1.mono (by simp));clear hb1 hlk;go_wp2_with fail
  refine(zf HBare.out (zbB _ _ _ _ _ _ _ _ _ _ _ _ _ _)).mono ?_;rintro e w2⟨rfl,hb2⟩;have hX2:=za hX1 hz1 hb2;have hz2:w.heap.size<w2.heap.size:=by have:=hb2.size;omega
  have hB2:=hB1.trans (hb2.mono (by omega));clear hb2 hX1 hz1 hB1;go_wp2_with fail
  refine(zf HSnd.out (zcm _ _ _ _ _ _ _ _ _ _ _ _ _ _ _ _ hwg)).mono ?_;rintro e w3⟨rfl,hb3⟩;have hX3:=za hX2 hz2 hb3;have hz3:w.heap.size<w3.heap.size:=by have:=hb3.size;omega
  have hB3:=hB2.trans (hb3.mono (by omega));clear hb3 hX2 hz2 hB2;go_wp2_with fail
  go_ret;exact⟨ze (by rw[HO.out,HBare.out,HSnd.out];rfl),hB3⟩
 have HSnd:=hid hsnd;clear hsnd
 by_cases hd:df.toList.isEmpty=true
 ·have HD:=hid hd
  go_enter Tryz.func211,Tryz.ntmps211;go_wp2_with fail
  refine(zdu _ _ _ _ _ _ _ _ _ _ _ _ _ _).mono ?_;rintro e w1⟨rfl,hb1⟩;have hX1:=za (zl w _ _) (by simp) hb1;have hz1:w.heap.size<w1.heap.size:=by have:=hb1.size;simp at this;omega
  have hB1:=(bAl _ _).trans (hb1.mono (by simp));clear hb1 hlk;go_wp2_with fail
  refine(zf HBare.out (zbB _ _ _ _ _ _ _ _ _ _ _ _ _ _)).mono ?_;rintro e w2⟨rfl,hb2⟩;have hX2:=za hX1 hz1 hb2;have hz2:w.heap.size<w2.heap.size:=by have:=hb2.size;omega
  have hB2:=hB1.trans (hb2.mono (by omega));clear hb2 hX1 hz1 hB1;go_wp2_with fail
  refine(zf HSnd.out (zcm _ _ _ _ _ _ _ _ _ _ _ _ _ _ _ _ hwg)).mono ?_;rintro e w3⟨rfl,hb3⟩;have hX3:=za hX2 hz2 hb3;have hz3:w.heap.size<w3.heap.size:=by have:=hb3.size;omega
  have hB3:=hB2.trans (hb3.mono (by omega));clear hb3 hX2 hz2 hB2;go_wp2_with fail
  go_ret;exact⟨ze (by rw[HO.out,HBare.out,HSnd.out,HD.out];rfl),hB3⟩
 ·have hd':df.toList.isEmpty=false:=by simpa using hd
  have HD:=hid hd';have HZ:=hid (znY ls ms ws df (by intro h;rw[zx]at hd';simp[h]at hd'));clear hd;go_enter Tryz.func211,Tryz.ntmps211;go_wp2_with fail
  refine(zdu _ _ _ _ _ _ _ _ _ _ _ _ _ _).mono ?_;rintro e w1⟨rfl,hb1⟩;have hX1:=za (zl w _ _) (by simp) hb1;have hz1:w.heap.size<w1.heap.size:=by have:=hb1.size;simp at this;omega
  have hB1:=(bAl _ _).trans (hb1.mono (by simp));clear hb1 hlk;go_wp2_with fail
  refine(zf HBare.out (zbB _ _ _ _ _ _ _ _ _ _ _ _ _ _)).mono ?_;rintro e w2⟨rfl,hb2⟩;have hX2:=za hX1 hz1 hb2;have hz2:w.heap.size<w2.heap.size:=by have:=hb2.size;omega
  have hB2:=hB1.trans (hb2.mono (by omega));clear hb2 hX1 hz1 hB1;go_wp2_with fail
  refine(zf HSnd.out (zcm _ _ _ _ _ _ _ _ _ _ _ _ _ _ _ _ hwg)).mono ?_;rintro e w3⟨rfl,hb3⟩;have hX3:=za hX2 hz2 hb3;have hz3:w.heap.size<w3.heap.size:=by have:=hb3.size;omega
  have hB3:=hB2.trans (hb3.mono (by omega));clear hb3 hX2 hz2 hB2;go_wp2_with fail
  refine(zeR _ _ _ _ _ _ _ _ _ _ _ _ _ hdf).mono ?_;rintro e w4⟨rfl,hb4⟩;have hB4:=hB3.trans (hb4.mono (by omega));clear hb4;go_wp2_with fail
  go_ret;exact⟨ze (by rw[HO.out,HBare.out,HSnd.out,HD.out,HZ.out];rfl),hB4⟩
theorem zpu (r:Nat)(nm:ByteArray)(ls ms:Int)(a:Option Addr)(cap:Nat)(ws:List ByteArray)(to:ByteArray)(rl:Int)(mu fx:Bool)(df wg:ByteArray)(a0:Option Addr)(cap0:Nat)(ss:List Shp)(w:World)(hr:w.heap[r]?=some (.map yN 4))(hws:zF w a ws) :
 Calls Tryz.prog 211 #[.map (some r),.slice a0 ss.length cap0,.agg #[.string nm,.int .i64 2,.int .i64 ls,.int .i64 ms,.slice a ws.length cap,.string to,.int .i64 rl,.bool mu,.bool fx,.string df,.string wg]] w
  fun e w'=>e=.returned (.bool (yF ss ⟨nm,2,ls,ms,ws,to,rl,mu,fx,df,wg⟩))/\Below w.heap.size w w':=by
 have HO:Hid (yF ss ⟨nm,2,ls,ms,ws,to,rl,mu,fx,df,wg⟩=(yL 2 ls ms ws.length to rl wg&&zW ss ⟨nm,2,ls,ms,ws,to,rl,mu,fx,df,wg⟩&&(df.toList.isEmpty||fits 2 ls ms ws df))):=rfl;have hlt:=(gES hr).1
 have hlk:∀o,(Instr.lookup 201 (.map (some r)) (.int .i64 2) true).run Tryz.prog (w.alloc o)=.ok (.tuple #[.func (.func 187) #[] #[],.bool true]) (w.alloc o):=
  fun o=>yQ Tryz.underlying201 Tryz.underlying3 (.int .i64 2) _ rfl yN 4 1 rfl (w.alloc o) r ((Below.heap_alloc w o r hlt).trans hr)
 clear hr;have hm1:=zlE;have hm2:=zkB;have hm3:=zgz
 by_cases hbare:yL 2 ls ms ws.length to rl wg=true
 rotate_left
 ·have HBare:Hid (yL 2 ls ms ws.length to rl wg=false):=by simpa[Hid] using hbare
  clear hbare hm2 hm3;go_enter Tryz.func211,Tryz.ntmps211;go_wp2_with fail
  refine(zdD _ _ _ _ _ _ _ _ _ _ _ _ _ _).mono ?_;rintro e w1⟨rfl,hb1⟩;have hX1:=za (zl w _ _) (by simp) hb1;have hz1:w.heap.size<w1.heap.size:=by have:=hb1.size;simp at this;omega
  have hB1:=(bAl _ _).trans (hb1.mono (by simp));clear hb1 hlk;go_wp2_with fail
  refine(zf HBare.out (zcr _ _ _ _ _ _ _ _ _ _ _ _ _ _)).mono ?_;rintro e w2⟨rfl,hb2⟩;have hX2:=za hX1 hz1 hb2;have hz2:w.heap.size<w2.heap.size:=by have:=hb2.size;omega
  have hB2:=hB1.trans (hb2.mono (by omega));clear hb2 hX1 hz1 hB1;go_wp2_with fail
  go_ret;exact⟨ze (by rw[HO.out,HBare.out];rfl),hB2⟩
 have HBare:=hid hbare;clear hbare
 by_cases hsnd:zW ss ⟨nm,2,ls,ms,ws,to,rl,mu,fx,df,wg⟩=true
 rotate_left
 ·have HSnd:Hid (zW ss ⟨nm,2,ls,ms,ws,to,rl,mu,fx,df,wg⟩=false):=by simpa[Hid] using hsnd
  clear hsnd hm3;go_enter Tryz.func211,Tryz.ntmps211;go_wp2_with fail
  refine(zdD _ _ _ _ _ _ _ _ _ _ _ _ _ _).mono ?_;rintro e w1⟨rfl,hb1⟩;have hX1:=za (zl w _ _) (by simp) hb1;have hz1:w.heap.size<w1.heap.size:=by have:=hb1.size;simp at this;omega
  have hB1:=(bAl _ _).trans (hb1.mono (by simp));clear hb1 hlk;go_wp2_with fail
  refine(zf HBare.out (zcr _ _ _ _ _ _ _ _ _ _ _ _ _ _)).mono ?_;rintro e w2⟨rfl,hb2⟩;have hX2:=za hX1 hz1 hb2;have hz2:w.heap.size<w2.heap.size:=by have:=hb2.size;omega
  have hB2:=hB1.trans (hb2.mono (by omega));clear hb2 hX1 hz1 hB1;go_wp2_with fail
  refine(zf HSnd.out (zdg _ _ _ _ _ _ _ _ _ _ _ _ _ _ _ _ (by exact hws.mono hB2))).mono ?_;rintro e w3⟨rfl,hb3⟩;have hX3:=za hX2 hz2 hb3;have hz3:w.heap.size<w3.heap.size:=by have:=hb3.size;omega
  have hB3:=hB2.trans (hb3.mono (by omega));clear hb3 hX2 hz2 hB2;go_wp2_with fail
  go_ret;exact⟨ze (by rw[HO.out,HBare.out,HSnd.out];rfl),hB3⟩
 have HSnd:=hid hsnd;clear hsnd
 by_cases hd:df.toList.isEmpty=true
 ·have HD:=hid hd
  go_enter Tryz.func211,Tryz.ntmps211;go_wp2_with fail
  refine(zdD _ _ _ _ _ _ _ _ _ _ _ _ _ _).mono ?_;rintro e w1⟨rfl,hb1⟩;have hX1:=za (zl w _ _) (by simp) hb1;have hz1:w.heap.size<w1.heap.size:=by have:=hb1.size;simp at this;omega
  have hB1:=(bAl _ _).trans (hb1.mono (by simp));clear hb1 hlk;go_wp2_with fail
  refine(zf HBare.out (zcr _ _ _ _ _ _ _ _ _ _ _ _ _ _)).mono ?_;rintro e w2⟨rfl,hb2⟩;have hX2:=za hX1 hz1 hb2;have hz2:w.heap.size<w2.heap.size:=by have:=hb2.size;omega
  have hB2:=hB1.trans (hb2.mono (by omega));clear hb2 hX1 hz1 hB1;go_wp2_with fail
  refine(zf HSnd.out (zdg _ _ _ _ _ _ _ _ _ _ _ _ _ _ _ _ (by exact hws.mono hB2))).mono ?_;rintro e w3⟨rfl,hb3⟩;have hX3:=za hX2 hz2 hb3;have hz3:w.heap.size<w3.heap.size:=by have:=hb3.size;omega
  have hB3:=hB2.trans (hb3.mono (by omega));clear hb3 hX2 hz2 hB2;go_wp2_with fail
  go_ret;exact⟨ze (by rw[HO.out,HBare.out,HSnd.out,HD.out];rfl),hB3⟩
 ·have hd':df.toList.isEmpty=false:=by simpa using hd
  have HD:=hid hd';have HZ:=hid (zoE ls ms ws df (by intro h;rw[zx]at hd';simp[h]at hd'));clear hd;go_enter Tryz.func211,Tryz.ntmps211;go_wp2_with fail
  refine(zdD _ _ _ _ _ _ _ _ _ _ _ _ _ _).mono ?_;rintro e w1⟨rfl,hb1⟩;have hX1:=za (zl w _ _) (by simp) hb1;have hz1:w.heap.size<w1.heap.size:=by have:=hb1.size;simp at this;omega
  have hB1:=(bAl _ _).trans (hb1.mono (by simp));clear hb1 hlk;go_wp2_with fail
  refine(zf HBare.out (zcr _ _ _ _ _ _ _ _ _ _ _ _ _ _)).mono ?_;rintro e w2⟨rfl,hb2⟩;have hX2:=za hX1 hz1 hb2;have hz2:w.heap.size<w2.heap.size:=by have:=hb2.size;omega
  have hB2:=hB1.trans (hb2.mono (by omega));clear hb2 hX1 hz1 hB1;go_wp2_with fail
  refine(zf HSnd.out (zdg _ _ _ _ _ _ _ _ _ _ _ _ _ _ _ _ (by exact hws.mono hB2))).mono ?_;rintro e w3⟨rfl,hb3⟩;have hX3:=za hX2 hz2 hb3;have hz3:w.heap.size<w3.heap.size:=by have:=hb3.size;omega
  have hB3:=hB2.trans (hb3.mono (by omega));clear hb3 hX2 hz2 hB2;go_wp2_with fail
  refine(zgY _ _ _ _ _ _ _ _ _ _ _ _ _ _ _ (by exact hws.mono hB3)).mono ?_;rintro e w4⟨rfl,hb4⟩;have hB4:=hB3.trans (hb4.mono (by omega));clear hb4;go_wp2_with fail
  go_ret;exact⟨ze (by rw[HO.out,HBare.out,HSnd.out,HD.out,HZ.out];rfl),hB4⟩
theorem zpt (r:Nat)(nm:ByteArray)(ls ms:Int)(a:Option Addr)(cap:Nat)(ws:List ByteArray)(to:ByteArray)(rl:Int)(mu fx:Bool)(df wg:ByteArray)(a0:Option Addr)(cap0:Nat)(ss:List Shp)(w:World)(hr:w.heap[r]?=some (.map yN 4))(hdf:df.size<=maxLen) :
 Calls Tryz.prog 211 #[.map (some r),.slice a0 ss.length cap0,.agg #[.string nm,.int .i64 3,.int .i64 ls,.int .i64 ms,.slice a ws.length cap,.string to,.int .i64 rl,.bool mu,.bool fx,.string df,.string wg]] w
  fun e w'=>e=.returned (.bool (yF ss ⟨nm,3,ls,ms,ws,to,rl,mu,fx,df,wg⟩))/\Below w.heap.size w w':=by
 have HO:Hid (yF ss ⟨nm,3,ls,ms,ws,to,rl,mu,fx,df,wg⟩=(yL 3 ls ms ws.length to rl wg&&zW ss ⟨nm,3,ls,ms,ws,to,rl,mu,fx,df,wg⟩&&(df.toList.isEmpty||fits 3 ls ms ws df))):=rfl;have hlt:=(gES hr).1
 have hlk:∀o,(Instr.lookup 201 (.map (some r)) (.int .i64 3) true).run Tryz.prog (w.alloc o)=.ok (.tuple #[.func (.func 188) #[] #[],.bool true]) (w.alloc o):=
  fun o=>yQ Tryz.underlying201 Tryz.underlying3 (.int .i64 3) _ rfl yN 4 2 rfl (w.alloc o) r ((Below.heap_alloc w o r hlt).trans hr)
 clear hr;have hm1:=zlK;have hm2:=zkv;have hm3:=zgc
 by_cases hbare:yL 3 ls ms ws.length to rl wg=true
 rotate_left
 ·have HBare:Hid (yL 3 ls ms ws.length to rl wg=false):=by simpa[Hid] using hbare
  clear hbare hm2 hm3;go_enter Tryz.func211,Tryz.ntmps211;go_wp2_with fail
  refine(zdI _ _ _ _ _ _ _ _ _ _ _ _ _ _).mono ?_;rintro e w1⟨rfl,hb1⟩;have hX1:=za (zl w _ _) (by simp) hb1;have hz1:w.heap.size<w1.heap.size:=by have:=hb1.size;simp at this;omega
  have hB1:=(bAl _ _).trans (hb1.mono (by simp));clear hb1 hlk;go_wp2_with fail
  refine(zf HBare.out (zcu _ _ _ _ _ _ _ _ _ _ _ _ _ _)).mono ?_;rintro e w2⟨rfl,hb2⟩;have hX2:=za hX1 hz1 hb2;have hz2:w.heap.size<w2.heap.size:=by have:=hb2.size;omega
  have hB2:=hB1.trans (hb2.mono (by omega));clear hb2 hX1 hz1 hB1;go_wp2_with fail
  go_ret;exact⟨ze (by rw[HO.out,HBare.out];rfl),hB2⟩
 have HBare:=hid hbare;clear hbare
 by_cases hsnd:zW ss ⟨nm,3,ls,ms,ws,to,rl,mu,fx,df,wg⟩=true
 rotate_left
 ·have HSnd:Hid (zW ss ⟨nm,3,ls,ms,ws,to,rl,mu,fx,df,wg⟩=false):=by simpa[Hid] using hsnd
  clear hsnd hm3;go_enter Tryz.func211,Tryz.ntmps211;go_wp2_with fail
  refine(zdI _ _ _ _ _ _ _ _ _ _ _ _ _ _).mono ?_;rintro e w1⟨rfl,hb1⟩;have hX1:=za (zl w _ _) (by simp) hb1;have hz1:w.heap.size<w1.heap.size:=by have:=hb1.size;simp at this;omega
  have hB1:=(bAl _ _).trans (hb1.mono (by simp));clear hb1 hlk;go_wp2_with fail
  refine(zf HBare.out (zcu _ _ _ _ _ _ _ _ _ _ _ _ _ _)).mono ?_;rintro e w2⟨rfl,hb2⟩;have hX2:=za hX1 hz1 hb2;have hz2:w.heap.size<w2.heap.size:=by have:=hb2.size;omega
  have hB2:=hB1.trans (hb2.mono (by omega));clear hb2 hX1 hz1 hB1;go_wp2_with fail
  refine(zf HSnd.out (zdl _ _ _ _ _ _ _ _ _ _ _ _ _ _ _ _)).mono ?_;rintro e w3⟨rfl,hb3⟩;have hX3:=za hX2 hz2 hb3;have hz3:w.heap.size<w3.heap.size:=by have:=hb3.size;omega
  have hB3:=hB2.trans (hb3.mono (by omega));clear hb3 hX2 hz2 hB2;go_wp2_with fail
  go_ret;exact⟨ze (by rw[HO.out,HBare.out,HSnd.out];rfl),hB3⟩
 have HSnd:=hid hsnd;clear hsnd
 by_cases hd:df.toList.isEmpty=true
 ·have HD:=hid hd
  go_enter Tryz.func211,Tryz.ntmps211;go_wp2_with fail
  refine(zdI _ _ _ _ _ _ _ _ _ _ _ _ _ _).mono ?_;rintro e w1⟨rfl,hb1⟩;have hX1:=za (zl w _ _) (by simp) hb1;have hz1:w.heap.size<w1.heap.size:=by have:=hb1.size;simp at this;omega
  have hB1:=(bAl _ _).trans (hb1.mono (by simp));clear hb1 hlk;go_wp2_with fail
  refine(zf HBare.out (zcu _ _ _ _ _ _ _ _ _ _ _ _ _ _)).mono ?_;rintro e w2⟨rfl,hb2⟩;have hX2:=za hX1 hz1 hb2;have hz2:w.heap.size<w2.heap.size:=by have:=hb2.size;omega
  have hB2:=hB1.trans (hb2.mono (by omega));clear hb2 hX1 hz1 hB1;go_wp2_with fail
  refine(zf HSnd.out (zdl _ _ _ _ _ _ _ _ _ _ _ _ _ _ _ _)).mono ?_;rintro e w3⟨rfl,hb3⟩;have hX3:=za hX2 hz2 hb3;have hz3:w.heap.size<w3.heap.size:=by have:=hb3.size;omega
  have hB3:=hB2.trans (hb3.mono (by omega));clear hb3 hX2 hz2 hB2;go_wp2_with fail
  go_ret;exact⟨ze (by rw[HO.out,HBare.out,HSnd.out,HD.out];rfl),hB3⟩
 ·have hd':df.toList.isEmpty=false:=by simpa using hd
  have HD:=hid hd';have HZ:=hid (zl7 ls ms ws df (by intro h;rw[zx]at hd';simp[h]at hd'));clear hd;go_enter Tryz.func211,Tryz.ntmps211;go_wp2_with fail
  refine(zdI _ _ _ _ _ _ _ _ _ _ _ _ _ _).mono ?_;rintro e w1⟨rfl,hb1⟩;have hX1:=za (zl w _ _) (by simp) hb1;have hz1:w.heap.size<w1.heap.size:=by have:=hb1.size;simp at this;omega
  have hB1:=(bAl _ _).trans (hb1.mono (by simp));clear hb1 hlk;go_wp2_with fail
  refine(zf HBare.out (zcu _ _ _ _ _ _ _ _ _ _ _ _ _ _)).mono ?_;rintro e w2⟨rfl,hb2⟩;have hX2:=za hX1 hz1 hb2;have hz2:w.heap.size<w2.heap.size:=by have:=hb2.size;omega
  have hB2:=hB1.trans (hb2.mono (by omega));clear hb2 hX1 hz1 hB1;go_wp2_with fail
  refine(zf HSnd.out (zdl _ _ _ _ _ _ _ _ _ _ _ _ _ _ _ _)).mono ?_;rintro e w3⟨rfl,hb3⟩;have hX3:=za hX2 hz2 hb3;have hz3:w.heap.size<w3.heap.size:=by have:=hb3.size;omega
  have hB3:=hB2.trans (hb3.mono (by omega));clear hb3 hX2 hz2 hB2;go_wp2_with fail
  refine(zgl _ _ _ _ _ _ _ _ _ _ _ _ _ hdf).mono ?_;rintro e w4⟨rfl,hb4⟩;have hB4:=hB3.trans (hb4.mono (by omega));clear hb4;go_wp2_with fail
  go_ret;exact⟨ze (by rw[HO.out,HBare.out,HSnd.out,HD.out,HZ.out];rfl),hB4⟩
theorem zpQ (r:Nat)(nm:ByteArray)(ls ms:Int)(a:Option Addr)(cap:Nat)(ws:List ByteArray)(to:ByteArray)(rl:Int)(mu fx:Bool)(df wg:ByteArray)(a0:Option Addr)(cap0:Nat)(ss:List Shp)(w:World)(hr:w.heap[r]?=some (.map yN 4))(hdf:df.size<=maxLen)(hss:yT w a0 ss) :
 Calls Tryz.prog 211 #[.map (some r),.slice a0 ss.length cap0,.agg #[.string nm,.int .i64 4,.int .i64 ls,.int .i64 ms,.slice a ws.length cap,.string to,.int .i64 rl,.bool mu,.bool fx,.string df,.string wg]] w
  fun e w'=>e=.returned (.bool (yF ss ⟨nm,4,ls,ms,ws,to,rl,mu,fx,df,wg⟩))/\Below w.heap.size w w':=by
 have HO:Hid (yF ss ⟨nm,4,ls,ms,ws,to,rl,mu,fx,df,wg⟩=(yL 4 ls ms ws.length to rl wg&&zW ss ⟨nm,4,ls,ms,ws,to,rl,mu,fx,df,wg⟩&&(df.toList.isEmpty||fits 4 ls ms ws df))):=rfl;have hlt:=(gES hr).1
 have hlk:∀o,(Instr.lookup 201 (.map (some r)) (.int .i64 4) true).run Tryz.prog (w.alloc o)=.ok (.tuple #[.func (.func 189) #[] #[],.bool true]) (w.alloc o):=
  fun o=>yQ Tryz.underlying201 Tryz.underlying3 (.int .i64 4) _ rfl yN 4 3 rfl (w.alloc o) r ((Below.heap_alloc w o r hlt).trans hr)
 clear hr;have hm1:=zlZ;have hm2:=zkI;have hm3:=zgs
 by_cases hbare:yL 4 ls ms ws.length to rl wg=true
 rotate_left
 ·have HBare:Hid (yL 4 ls ms ws.length to rl wg=false):=by simpa[Hid] using hbare
  clear hbare hm2 hm3;go_enter Tryz.func211,Tryz.ntmps211;go_wp2_with fail
  refine(zdJ _ _ _ _ _ _ _ _ _ _ _ _ _ _).mono ?_;rintro e w1⟨rfl,hb1⟩;have hX1:=za (zl w _ _) (by simp) hb1;have hz1:w.heap.size<w1.heap.size:=by have:=hb1.size;simp at this;omega
  have hB1:=(bAl _ _).trans (hb1.mono (by simp));clear hb1 hlk;go_wp2_with fail
  refine(zf HBare.out (zcA _ _ _ _ _ _ _ _ _ _ _ _ _ _)).mono ?_;rintro e w2⟨rfl,hb2⟩;have hX2:=za hX1 hz1 hb2;have hz2:w.heap.size<w2.heap.size:=by have:=hb2.size;omega
  have hB2:=hB1.trans (hb2.mono (by omega));clear hb2 hX1 hz1 hB1;go_wp2_with fail
  go_ret;exact⟨ze (by rw[HO.out,HBare.out];rfl),hB2⟩
 have HBare:=hid hbare;clear hbare
 by_cases hsnd:zW ss ⟨nm,4,ls,ms,ws,to,rl,mu,fx,df,wg⟩=true
 rotate_left
 ·have HSnd:Hid (zW ss ⟨nm,4,ls,ms,ws,to,rl,mu,fx,df,wg⟩=false):=by simpa[Hid] using hsnd
  clear hsnd hm3;go_enter Tryz.func211,Tryz.ntmps211;go_wp2_with fail
  refine(zdJ _ _ _ _ _ _ _ _ _ _ _ _ _ _).mono ?_;rintro e w1⟨rfl,hb1⟩;have hX1:=za (zl w _ _) (by simp) hb1;have hz1:w.heap.size<w1.heap.size:=by have:=hb1.size;simp at this;omega
  have hB1:=(bAl _ _).trans (hb1.mono (by simp));clear hb1 hlk;go_wp2_with fail
  refine(zf HBare.out (zcA _ _ _ _ _ _ _ _ _ _ _ _ _ _)).mono ?_;rintro e w2⟨rfl,hb2⟩;have hX2:=za hX1 hz1 hb2;have hz2:w.heap.size<w2.heap.size:=by have:=hb2.size;omega
  have hB2:=hB1.trans (hb2.mono (by omega));clear hb2 hX1 hz1 hB1;go_wp2_with fail
  refine(zf HSnd.out (zdi _ _ _ _ _ _ _ _ _ _ _ _ _ _ _ _ (by exact hss.mono hB2))).mono ?_;rintro e w3⟨rfl,hb3⟩;have hX3:=za hX2 hz2 hb3;have hz3:w.heap.size<w3.heap.size:=by have:=hb3.size;omega
  have hB3:=hB2.trans (hb3.mono (by omega));clear hb3 hX2 hz2 hB2;go_wp2_with fail
  go_ret;exact⟨ze (by rw[HO.out,HBare.out,HSnd.out];rfl),hB3⟩
 have HSnd:=hid hsnd;clear hsnd
 by_cases hd:df.toList.isEmpty=true
 ·have HD:=hid hd
  go_enter Tryz.func211,Tryz.ntmps211;go_wp2_with fail
  refine(zdJ _ _ _ _ _ _ _ _ _ _ _ _ _ _).mono ?_;rintro e w1⟨rfl,hb1⟩;have hX1:=za (zl w _ _) (by simp) hb1;have hz1:w.heap.size<w1.heap.size:=by have:=hb1.size;simp at this;omega
  have hB1:=(bAl _ _).trans (hb1.mono (by simp));clear hb1 hlk;go_wp2_with fail
  refine(zf HBare.out (zcA _ _ _ _ _ _ _ _ _ _ _ _ _ _)).mono ?_;rintro e w2⟨rfl,hb2⟩;have hX2:=za hX1 hz1 hb2;have hz2:w.heap.size<w2.heap.size:=by have:=hb2.size;omega
  have hB2:=hB1.trans (hb2.mono (by omega));clear hb2 hX1 hz1 hB1;go_wp2_with fail
  refine(zf HSnd.out (zdi _ _ _ _ _ _ _ _ _ _ _ _ _ _ _ _ (by exact hss.mono hB2))).mono ?_;rintro e w3⟨rfl,hb3⟩;have hX3:=za hX2 hz2 hb3;have hz3:w.heap.size<w3.heap.size:=by have:=hb3.size;omega
  have hB3:=hB2.trans (hb3.mono (by omega));clear hb3 hX2 hz2 hB2;go_wp2_with fail
  go_ret;exact⟨ze (by rw[HO.out,HBare.out,HSnd.out,HD.out];rfl),hB3⟩
 ·have hd':df.toList.isEmpty=false:=by simpa using hd
  have HD:=hid hd';have HZ:=hid (zop ls ms ws df (by intro h;rw[zx]at hd';simp[h]at hd'));clear hd;go_enter Tryz.func211,Tryz.ntmps211;go_wp2_with fail
  refine(zdJ _ _ _ _ _ _ _ _ _ _ _ _ _ _).mono ?_;rintro e w1⟨rfl,hb1⟩;have hX1:=za (zl w _ _) (by simp) hb1;have hz1:w.heap.size<w1.heap.size:=by have:=hb1.size;simp at this;omega
  have hB1:=(bAl _ _).trans (hb1.mono (by simp));clear hb1 hlk;go_wp2_with fail
  refine(zf HBare.out (zcA _ _ _ _ _ _ _ _ _ _ _ _ _ _)).mono ?_;rintro e w2⟨rfl,hb2⟩;have hX2:=za hX1 hz1 hb2;have hz2:w.heap.size<w2.heap.size:=by have:=hb2.size;omega
  have hB2:=hB1.trans (hb2.mono (by omega));clear hb2 hX1 hz1 hB1;go_wp2_with fail
  refine(zf HSnd.out (zdi _ _ _ _ _ _ _ _ _ _ _ _ _ _ _ _ (by exact hss.mono hB2))).mono ?_;rintro e w3⟨rfl,hb3⟩;have hX3:=za hX2 hz2 hb3;have hz3:w.heap.size<w3.heap.size:=by have:=hb3.size;omega
  have hB3:=hB2.trans (hb3.mono (by omega));clear hb3 hX2 hz2 hB2;go_wp2_with fail
  refine(zgD _ _ _ _ _ _ _ _ _ _ _ _ _ hdf).mono ?_;rintro e w4⟨rfl,hb4⟩;have hB4:=hB3.trans (hb4.mono (by omega));clear hb4;go_wp2_with fail
  go_ret;exact⟨ze (by rw[HO.out,HBare.out,HSnd.out,HD.out,HZ.out];rfl),hB4⟩
theorem zk0 (r:Nat)(nm:ByteArray)(kd ls ms:Int)(a:Option Addr)(cap:Nat)(ws:List ByteArray)(to:ByteArray)(rl:Int)(mu fx:Bool)(df wg:ByteArray)(a0:Option Addr)(cap0:Nat)(ss:List Shp)(w:World)(hr:w.heap[r]?=some (.map yN 4))(h1:kd≠1)(h2:kd≠2)(h3:kd≠3)(h4:kd≠4) :
 Calls Tryz.prog 211 #[.map (some r),.slice a0 ss.length cap0,.agg #[.string nm,.int .i64 kd,.int .i64 ls,.int .i64 ms,.slice a ws.length cap,.string to,.int .i64 rl,.bool mu,.bool fx,.string df,.string wg]] w
  fun e w'=>e=.returned (.bool (yF ss ⟨nm,kd,ls,ms,ws,to,rl,mu,fx,df,wg⟩))/\Below w.heap.size w w':=by
 have HO:Hid (yF ss ⟨nm,kd,ls,ms,ws,to,rl,mu,fx,df,wg⟩=false):=by simp[Hid,yF,bare,yL,h1,h2,h3,h4]
 have hlt:=(gES hr).1
 have hlk:∀o,(Instr.lookup 201 (.map (some r)) (.int .i64 kd) true).run Tryz.prog (w.alloc o)=.ok (.tuple #[.nilFunc,.bool false]) (w.alloc o):=
  fun o=>zci Tryz.underlying201 Tryz.underlying3 (.int .i64 kd) _ rfl yN 4 (zlm kd h1 h2 h3 h4) (w.alloc o) (zla _) r ((Below.heap_alloc w o r hlt).trans hr)
 clear hr h1 h2 h3 h4;go_enter Tryz.func211,Tryz.ntmps211;go_wp2_with fail
 go_ret;exact⟨ze HO.out.symm,bAl _ _⟩
theorem zm0 (r:Nat)(nm:ByteArray)(kd ls ms:Int)(a:Option Addr)(cap:Nat)(ws:List ByteArray)(to:ByteArray)(rl:Int)(mu fx:Bool)(df wg:ByteArray)(a0:Option Addr)(cap0:Nat)(ss:List Shp)(w:World)(hr:w.heap[r]?=some (.map yN 4))(hdf:df.size<=maxLen)(hwg:wg.size<=maxLen)(hws:zF w a ws)(hss:yT w a0 ss) :
 Calls Tryz.prog 211 #[.map (some r),.slice a0 ss.length cap0,.agg #[.string nm,.int .i64 kd,.int .i64 ls,.int .i64 ms,.slice a ws.length cap,.string to,.int .i64 rl,.bool mu,.bool fx,.string df,.string wg]] w
  fun e w'=>e=.returned (.bool (yF ss ⟨nm,kd,ls,ms,ws,to,rl,mu,fx,df,wg⟩))/\Below w.heap.size w w':=by
 by_cases h1:kd=1
 ·subst h1;exact zpq r nm ls ms a cap ws to rl mu fx df wg a0 cap0 ss w hr hdf hwg
 by_cases h2:kd=2
 ·subst h2;exact zpu r nm ls ms a cap ws to rl mu fx df wg a0 cap0 ss w hr hws
 by_cases h3:kd=3
 ·subst h3;exact zpt r nm ls ms a cap ws to rl mu fx df wg a0 cap0 ss w hr hdf
 by_cases h4:kd=4
 ·subst h4;exact zpQ r nm ls ms a cap ws to rl mu fx df wg a0 cap0 ss w hr hdf hss
 exact zk0 r nm kd ls ms a cap ws to rl mu fx df wg a0 cap0 ss w hr h1 h2 h3 h4
end Go.Proofs.YtkficnallnpjnaaGreat
