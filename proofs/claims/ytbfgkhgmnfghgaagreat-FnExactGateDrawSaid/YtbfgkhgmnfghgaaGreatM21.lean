import Derived.Test.YtbfgkhgmnfghgaaGreatM17
set_option maxHeartbeats 1000000
namespace Go.Proofs.YtbfgkhgmnfghgaaGreat
open Go.RowKit
theorem zmn (x:Value)(w:World):(method 422 245 x "loop.example/wharfgate/impl.bare").run Tryz.prog w=.ok (262,x) w:=by kernel_rfl
theorem zli (x:Value)(w:World):(method 422 245 x "loop.example/wharfgate/impl.sound").run Tryz.prog w=.ok (264,x) w:=by kernel_rfl
theorem zma (x:Value)(w:World):(method 422 247 x "loop.example/wharfgate/impl.bare").run Tryz.prog w=.ok (265,x) w:=by kernel_rfl
theorem zlg (x:Value)(w:World):(method 422 247 x "loop.example/wharfgate/impl.sound").run Tryz.prog w=.ok (267,x) w:=by kernel_rfl
theorem zmk (x:Value)(w:World):(method 422 248 x "loop.example/wharfgate/impl.bare").run Tryz.prog w=.ok (270,x) w:=by kernel_rfl
theorem zk1 (x:Value)(w:World):(method 422 248 x "loop.example/wharfgate/impl.sound").run Tryz.prog w=.ok (272,x) w:=by kernel_rfl
theorem zmc (x:Value)(w:World):(method 422 249 x "loop.example/wharfgate/impl.bare").run Tryz.prog w=.ok (273,x) w:=by kernel_rfl
theorem zk0 (x:Value)(w:World):(method 422 249 x "loop.example/wharfgate/impl.sound").run Tryz.prog w=.ok (275,x) w:=by kernel_rfl
theorem zpU (r:Nat)(nm:BA)(ls ms:Int)(a:OA)(cap:Nat)(ws:List BA)(to:BA)(rl:Int)(mu fx:Bool)(df wg:BA)(a0:OA)(cap0:Nat)(ss:List Shp)(w:World)(hr:w.heap[r]?=some (.map yQ 4))(hdf:df.size<=maxLen)(hwg:wg.size<=maxLen) :
 Calls Tryz.prog 221 #[.map (some r),.l a0 ss.length cap0,.agg #[.s nm,.i 1,.i ls,.i ms,.l a ws.length cap,.s to,.i rl,.bool mu,.bool fx,.s df,.s wg]] w
  fun e w'=>e=.returned (.bool (yH ss ⟨nm,1,ls,ms,ws,to,rl,mu,fx,df,wg⟩))/\Bw w w':=by
 have HO:Hid (yH ss ⟨nm,1,ls,ms,ws,to,rl,mu,fx,df,wg⟩=(yM 1 ls ms ws.length to rl wg&&zW ss ⟨nm,1,ls,ms,ws,to,rl,mu,fx,df,wg⟩&&(df.toList.isEmpty||fits 1 ls ms ws df))):=rfl;have hlt:=(gES hr).1
 have hlk:∀o,(Instr.lookup 205 (.map (some r)) (.i 1) true).run Tryz.prog (w.alloc o)=.ok (.tuple #[.func (.func 196) #[] #[],.bool true]) (w.alloc o):=
  fun o=>yS Tryz.underlying205 Tryz.underlying3 (.i 1) _ rfl yQ 4 0 rfl (w.alloc o) r ((Below.heap_alloc w o r hlt).trans hr)
 clear hr;have hm1:=zmn;have hm2:=zli;have hm3:=zgI
 by_cases hbare:yM 1 ls ms ws.length to rl wg=true
 rotate_left
 ·have HBare:Hid (yM 1 ls ms ws.length to rl wg=false):=by simpa[Hid] using hbare
  clear hbare hm2 hm3;go_enter Tryz.func221,Tryz.ntmps221;go_wp2_with fail
  refine(zdP _ _ _ _ _ _ _ _ _ _ _ _ _ _).mono ?_;rintro e w1⟨rfl,hb1⟩;have hX1:=za (zl w _ _) (by simp) hb1;have hz1:w.heap.size<w1.heap.size:=by have:=hb1.size;simp at this;omega
  have hB1:=(bAl _ _).trans (hb1.mono (by simp));clear hb1 hlk;go_wp2_with fail
  refine(zh HBare.o (zbG _ _ _ _ _ _ _ _ _ _ _ _ _ _)).mono ?_;rintro e w2⟨rfl,hb2⟩;have hX2:=za hX1 hz1 hb2;have hz2:w.heap.size<w2.heap.size:=by have:=hb2.size;omega
  have hB2:=hB1.trans (hb2.mono (by omega));clear hb2 hX1 hz1 hB1;go_wp2_with fail
  go_ret;exact⟨ze (by rw[HO.o,HBare.o];rfl),hB2⟩
 have HBare:=hid hbare;clear hbare
 by_cases hsnd:zW ss ⟨nm,1,ls,ms,ws,to,rl,mu,fx,df,wg⟩=true
 rotate_left
 ·have HSnd:Hid (zW ss ⟨nm,1,ls,ms,ws,to,rl,mu,fx,df,wg⟩=false):=by simpa[Hid] using hsnd
  clear hsnd hm3;go_enter Tryz.func221,Tryz.ntmps221;go_wp2_with fail
  refine(zdP _ _ _ _ _ _ _ _ _ _ _ _ _ _).mono ?_;rintro e w1⟨rfl,hb1⟩;have hX1:=za (zl w _ _) (by simp) hb1;have hz1:w.heap.size<w1.heap.size:=by have:=hb1.size;simp at this;omega
  have hB1:=(bAl _ _).trans (hb1.mono (by simp));clear hb1 hlk;go_wp2_with fail
  refine(zh HBare.o (zbG _ _ _ _ _ _ _ _ _ _ _ _ _ _)).mono ?_;rintro e w2⟨rfl,hb2⟩;have hX2:=za hX1 hz1 hb2;have hz2:w.heap.size<w2.heap.size:=by have:=hb2.size;omega
  have hB2:=hB1.trans (hb2.mono (by omega));clear hb2 hX1 hz1 hB1;go_wp2_with fail
  refine(zh HSnd.o (zcu _ _ _ _ _ _ _ _ _ _ _ _ _ _ _ _ hwg)).mono ?_;rintro e w3⟨rfl,hb3⟩;have hX3:=za hX2 hz2 hb3;have hz3:w.heap.size<w3.heap.size:=by have:=hb3.size;omega
  have hB3:=hB2.trans (hb3.mono (by omega));clear hb3 hX2 hz2 hB2;go_wp2_with fail
  go_ret;exact⟨ze (by rw[HO.o,HBare.o,HSnd.o];rfl),hB3⟩
 have HSnd:=hid hsnd;clear hsnd
 by_cases hd:df.toList.isEmpty=true
 ·have HD:=hid hd
  go_enter Tryz.func221,Tryz.ntmps221;go_wp2_with fail
  refine(zdP _ _ _ _ _ _ _ _ _ _ _ _ _ _).mono ?_;rintro e w1⟨rfl,hb1⟩;have hX1:=za (zl w _ _) (by simp) hb1;have hz1:w.heap.size<w1.heap.size:=by have:=hb1.size;simp at this;omega
  have hB1:=(bAl _ _).trans (hb1.mono (by simp));clear hb1 hlk;go_wp2_with fail
  refine(zh HBare.o (zbG _ _ _ _ _ _ _ _ _ _ _ _ _ _)).mono ?_;rintro e w2⟨rfl,hb2⟩;have hX2:=za hX1 hz1 hb2;have hz2:w.heap.size<w2.heap.size:=by have:=hb2.size;omega
  have hB2:=hB1.trans (hb2.mono (by omega));clear hb2 hX1 hz1 hB1;go_wp2_with fail
  refine(zh HSnd.o (zcu _ _ _ _ _ _ _ _ _ _ _ _ _ _ _ _ hwg)).mono ?_;rintro e w3⟨rfl,hb3⟩;have hX3:=za hX2 hz2 hb3;have hz3:w.heap.size<w3.heap.size:=by have:=hb3.size;omega
  have hB3:=hB2.trans (hb3.mono (by omega));clear hb3 hX2 hz2 hB2;go_wp2_with fail
  go_ret;exact⟨ze (by rw[HO.o,HBare.o,HSnd.o,HD.o];rfl),hB3⟩
 ·have hd':df.toList.isEmpty=false:=by simpa using hd
  have HD:=hid hd';have HZ:=hid (zom ls ms ws df (by intro h;rw[zy]at hd';simp[h]at hd'));clear hd;go_enter Tryz.func221,Tryz.ntmps221;go_wp2_with fail
  refine(zdP _ _ _ _ _ _ _ _ _ _ _ _ _ _).mono ?_;rintro e w1⟨rfl,hb1⟩;have hX1:=za (zl w _ _) (by simp) hb1;have hz1:w.heap.size<w1.heap.size:=by have:=hb1.size;simp at this;omega
  have hB1:=(bAl _ _).trans (hb1.mono (by simp));clear hb1 hlk;go_wp2_with fail
  refine(zh HBare.o (zbG _ _ _ _ _ _ _ _ _ _ _ _ _ _)).mono ?_;rintro e w2⟨rfl,hb2⟩;have hX2:=za hX1 hz1 hb2;have hz2:w.heap.size<w2.heap.size:=by have:=hb2.size;omega
  have hB2:=hB1.trans (hb2.mono (by omega));clear hb2 hX1 hz1 hB1;go_wp2_with fail
  refine(zh HSnd.o (zcu _ _ _ _ _ _ _ _ _ _ _ _ _ _ _ _ hwg)).mono ?_;rintro e w3⟨rfl,hb3⟩;have hX3:=za hX2 hz2 hb3;have hz3:w.heap.size<w3.heap.size:=by have:=hb3.size;omega
  have hB3:=hB2.trans (hb3.mono (by omega));clear hb3 hX2 hz2 hB2;go_wp2_with fail
  refine(zfw _ _ _ _ _ _ _ _ _ _ _ _ _ hdf).mono ?_;rintro e w4⟨rfl,hb4⟩;have hB4:=hB3.trans (hb4.mono (by omega));clear hb4;go_wp2_with fail
  go_ret;exact⟨ze (by rw[HO.o,HBare.o,HSnd.o,HD.o,HZ.o];rfl),hB4⟩
theorem zp5 (r:Nat)(nm:BA)(ls ms:Int)(a:OA)(cap:Nat)(ws:List BA)(to:BA)(rl:Int)(mu fx:Bool)(df wg:BA)(a0:OA)(cap0:Nat)(ss:List Shp)(w:World)(hr:w.heap[r]?=some (.map yQ 4))(hws:zG w a ws) :
 Calls Tryz.prog 221 #[.map (some r),.l a0 ss.length cap0,.agg #[.s nm,.i 2,.i ls,.i ms,.l a ws.length cap,.s to,.i rl,.bool mu,.bool fx,.s df,.s wg]] w
  fun e w'=>e=.returned (.bool (yH ss ⟨nm,2,ls,ms,ws,to,rl,mu,fx,df,wg⟩))/\Bw w w':=by
 have HO:Hid (yH ss ⟨nm,2,ls,ms,ws,to,rl,mu,fx,df,wg⟩=(yM 2 ls ms ws.length to rl wg&&zW ss ⟨nm,2,ls,ms,ws,to,rl,mu,fx,df,wg⟩&&(df.toList.isEmpty||fits 2 ls ms ws df))):=rfl;have hlt:=(gES hr).1
 have hlk:∀o,(Instr.lookup 205 (.map (some r)) (.i 2) true).run Tryz.prog (w.alloc o)=.ok (.tuple #[.func (.func 197) #[] #[],.bool true]) (w.alloc o):=
  fun o=>yS Tryz.underlying205 Tryz.underlying3 (.i 2) _ rfl yQ 4 1 rfl (w.alloc o) r ((Below.heap_alloc w o r hlt).trans hr)
 clear hr;have hm1:=zma;have hm2:=zlg;have hm3:=zgA
 by_cases hbare:yM 2 ls ms ws.length to rl wg=true
 rotate_left
 ·have HBare:Hid (yM 2 ls ms ws.length to rl wg=false):=by simpa[Hid] using hbare
  clear hbare hm2 hm3;go_enter Tryz.func221,Tryz.ntmps221;go_wp2_with fail
  refine(zd1 _ _ _ _ _ _ _ _ _ _ _ _ _ _).mono ?_;rintro e w1⟨rfl,hb1⟩;have hX1:=za (zl w _ _) (by simp) hb1;have hz1:w.heap.size<w1.heap.size:=by have:=hb1.size;simp at this;omega
  have hB1:=(bAl _ _).trans (hb1.mono (by simp));clear hb1 hlk;go_wp2_with fail
  refine(zh HBare.o (zcI _ _ _ _ _ _ _ _ _ _ _ _ _ _)).mono ?_;rintro e w2⟨rfl,hb2⟩;have hX2:=za hX1 hz1 hb2;have hz2:w.heap.size<w2.heap.size:=by have:=hb2.size;omega
  have hB2:=hB1.trans (hb2.mono (by omega));clear hb2 hX1 hz1 hB1;go_wp2_with fail
  go_ret;exact⟨ze (by rw[HO.o,HBare.o];rfl),hB2⟩
 have HBare:=hid hbare;clear hbare
 by_cases hsnd:zW ss ⟨nm,2,ls,ms,ws,to,rl,mu,fx,df,wg⟩=true
 rotate_left
 ·have HSnd:Hid (zW ss ⟨nm,2,ls,ms,ws,to,rl,mu,fx,df,wg⟩=false):=by simpa[Hid] using hsnd
  clear hsnd hm3;go_enter Tryz.func221,Tryz.ntmps221;go_wp2_with fail
  refine(zd1 _ _ _ _ _ _ _ _ _ _ _ _ _ _).mono ?_;rintro e w1⟨rfl,hb1⟩;have hX1:=za (zl w _ _) (by simp) hb1;have hz1:w.heap.size<w1.heap.size:=by have:=hb1.size;simp at this;omega
  have hB1:=(bAl _ _).trans (hb1.mono (by simp));clear hb1 hlk;go_wp2_with fail
  refine(zh HBare.o (zcI _ _ _ _ _ _ _ _ _ _ _ _ _ _)).mono ?_;rintro e w2⟨rfl,hb2⟩;have hX2:=za hX1 hz1 hb2;have hz2:w.heap.size<w2.heap.size:=by have:=hb2.size;omega
  have hB2:=hB1.trans (hb2.mono (by omega));clear hb2 hX1 hz1 hB1;go_wp2_with fail
  refine(zh HSnd.o (zdL _ _ _ _ _ _ _ _ _ _ _ _ _ _ _ _ (by exact hws.mono hB2))).mono ?_;rintro e w3⟨rfl,hb3⟩;have hX3:=za hX2 hz2 hb3;have hz3:w.heap.size<w3.heap.size:=by have:=hb3.size;omega
  have hB3:=hB2.trans (hb3.mono (by omega));clear hb3 hX2 hz2 hB2;go_wp2_with fail
  go_ret;exact⟨ze (by rw[HO.o,HBare.o,HSnd.o];rfl),hB3⟩
 have HSnd:=hid hsnd;clear hsnd
 by_cases hd:df.toList.isEmpty=true
 ·have HD:=hid hd
  go_enter Tryz.func221,Tryz.ntmps221;go_wp2_with fail
  refine(zd1 _ _ _ _ _ _ _ _ _ _ _ _ _ _).mono ?_;rintro e w1⟨rfl,hb1⟩;have hX1:=za (zl w _ _) (by simp) hb1;have hz1:w.heap.size<w1.heap.size:=by have:=hb1.size;simp at this;omega
  have hB1:=(bAl _ _).trans (hb1.mono (by simp));clear hb1 hlk;go_wp2_with fail
  refine(zh HBare.o (zcI _ _ _ _ _ _ _ _ _ _ _ _ _ _)).mono ?_;rintro e w2⟨rfl,hb2⟩;have hX2:=za hX1 hz1 hb2;have hz2:w.heap.size<w2.heap.size:=by have:=hb2.size;omega
  have hB2:=hB1.trans (hb2.mono (by omega));clear hb2 hX1 hz1 hB1;go_wp2_with fail
  refine(zh HSnd.o (zdL _ _ _ _ _ _ _ _ _ _ _ _ _ _ _ _ (by exact hws.mono hB2))).mono ?_;rintro e w3⟨rfl,hb3⟩;have hX3:=za hX2 hz2 hb3;have hz3:w.heap.size<w3.heap.size:=by have:=hb3.size;omega
  have hB3:=hB2.trans (hb3.mono (by omega));clear hb3 hX2 hz2 hB2;go_wp2_with fail
  go_ret;exact⟨ze (by rw[HO.o,HBare.o,HSnd.o,HD.o];rfl),hB3⟩
 ·have hd':df.toList.isEmpty=false:=by simpa using hd
  have HD:=hid hd';have HZ:=hid (zpl ls ms ws df (by intro h;rw[zy]at hd';simp[h]at hd'));clear hd;go_enter Tryz.func221,Tryz.ntmps221;go_wp2_with fail
  refine(zd1 _ _ _ _ _ _ _ _ _ _ _ _ _ _).mono ?_;rintro e w1⟨rfl,hb1⟩;have hX1:=za (zl w _ _) (by simp) hb1;have hz1:w.heap.size<w1.heap.size:=by have:=hb1.size;simp at this;omega
  have hB1:=(bAl _ _).trans (hb1.mono (by simp));clear hb1 hlk;go_wp2_with fail
  refine(zh HBare.o (zcI _ _ _ _ _ _ _ _ _ _ _ _ _ _)).mono ?_;rintro e w2⟨rfl,hb2⟩;have hX2:=za hX1 hz1 hb2;have hz2:w.heap.size<w2.heap.size:=by have:=hb2.size;omega
  have hB2:=hB1.trans (hb2.mono (by omega));clear hb2 hX1 hz1 hB1;go_wp2_with fail
  refine(zh HSnd.o (zdL _ _ _ _ _ _ _ _ _ _ _ _ _ _ _ _ (by exact hws.mono hB2))).mono ?_;rintro e w3⟨rfl,hb3⟩;have hX3:=za hX2 hz2 hb3;have hz3:w.heap.size<w3.heap.size:=by have:=hb3.size;omega
  have hB3:=hB2.trans (hb3.mono (by omega));clear hb3 hX2 hz2 hB2;go_wp2_with fail
  refine(zgL _ _ _ _ _ _ _ _ _ _ _ _ _ _ _ (by exact hws.mono hB3)).mono ?_;rintro e w4⟨rfl,hb4⟩;have hB4:=hB3.trans (hb4.mono (by omega));clear hb4;go_wp2_with fail
  go_ret;exact⟨ze (by rw[HO.o,HBare.o,HSnd.o,HD.o,HZ.o];rfl),hB4⟩
theorem zqq (r:Nat)(nm:BA)(ls ms:Int)(a:OA)(cap:Nat)(ws:List BA)(to:BA)(rl:Int)(mu fx:Bool)(df wg:BA)(a0:OA)(cap0:Nat)(ss:List Shp)(w:World)(hr:w.heap[r]?=some (.map yQ 4))(hdf:df.size<=maxLen) :
 Calls Tryz.prog 221 #[.map (some r),.l a0 ss.length cap0,.agg #[.s nm,.i 3,.i ls,.i ms,.l a ws.length cap,.s to,.i rl,.bool mu,.bool fx,.s df,.s wg]] w
  fun e w'=>e=.returned (.bool (yH ss ⟨nm,3,ls,ms,ws,to,rl,mu,fx,df,wg⟩))/\Bw w w':=by
 have HO:Hid (yH ss ⟨nm,3,ls,ms,ws,to,rl,mu,fx,df,wg⟩=(yM 3 ls ms ws.length to rl wg&&zW ss ⟨nm,3,ls,ms,ws,to,rl,mu,fx,df,wg⟩&&(df.toList.isEmpty||fits 3 ls ms ws df))):=rfl;have hlt:=(gES hr).1
 have hlk:∀o,(Instr.lookup 205 (.map (some r)) (.i 3) true).run Tryz.prog (w.alloc o)=.ok (.tuple #[.func (.func 198) #[] #[],.bool true]) (w.alloc o):=
  fun o=>yS Tryz.underlying205 Tryz.underlying3 (.i 3) _ rfl yQ 4 2 rfl (w.alloc o) r ((Below.heap_alloc w o r hlt).trans hr)
 clear hr;have hm1:=zmk;have hm2:=zk1;have hm3:=zgO
 by_cases hbare:yM 3 ls ms ws.length to rl wg=true
 rotate_left
 ·have HBare:Hid (yM 3 ls ms ws.length to rl wg=false):=by simpa[Hid] using hbare
  clear hbare hm2 hm3;go_enter Tryz.func221,Tryz.ntmps221;go_wp2_with fail
  refine(zdW _ _ _ _ _ _ _ _ _ _ _ _ _ _).mono ?_;rintro e w1⟨rfl,hb1⟩;have hX1:=za (zl w _ _) (by simp) hb1;have hz1:w.heap.size<w1.heap.size:=by have:=hb1.size;simp at this;omega
  have hB1:=(bAl _ _).trans (hb1.mono (by simp));clear hb1 hlk;go_wp2_with fail
  refine(zh HBare.o (zcJ _ _ _ _ _ _ _ _ _ _ _ _ _ _)).mono ?_;rintro e w2⟨rfl,hb2⟩;have hX2:=za hX1 hz1 hb2;have hz2:w.heap.size<w2.heap.size:=by have:=hb2.size;omega
  have hB2:=hB1.trans (hb2.mono (by omega));clear hb2 hX1 hz1 hB1;go_wp2_with fail
  go_ret;exact⟨ze (by rw[HO.o,HBare.o];rfl),hB2⟩
 have HBare:=hid hbare;clear hbare
 by_cases hsnd:zW ss ⟨nm,3,ls,ms,ws,to,rl,mu,fx,df,wg⟩=true
 rotate_left
 ·have HSnd:Hid (zW ss ⟨nm,3,ls,ms,ws,to,rl,mu,fx,df,wg⟩=false):=by simpa[Hid] using hsnd
  clear hsnd hm3;go_enter Tryz.func221,Tryz.ntmps221;go_wp2_with fail
  refine(zdW _ _ _ _ _ _ _ _ _ _ _ _ _ _).mono ?_;rintro e w1⟨rfl,hb1⟩;have hX1:=za (zl w _ _) (by simp) hb1;have hz1:w.heap.size<w1.heap.size:=by have:=hb1.size;simp at this;omega
  have hB1:=(bAl _ _).trans (hb1.mono (by simp));clear hb1 hlk;go_wp2_with fail
  refine(zh HBare.o (zcJ _ _ _ _ _ _ _ _ _ _ _ _ _ _)).mono ?_;rintro e w2⟨rfl,hb2⟩;have hX2:=za hX1 hz1 hb2;have hz2:w.heap.size<w2.heap.size:=by have:=hb2.size;omega
  have hB2:=hB1.trans (hb2.mono (by omega));clear hb2 hX1 hz1 hB1;go_wp2_with fail
  refine(zh HSnd.o (zdE _ _ _ _ _ _ _ _ _ _ _ _ _ _ _ _)).mono ?_;rintro e w3⟨rfl,hb3⟩;have hX3:=za hX2 hz2 hb3;have hz3:w.heap.size<w3.heap.size:=by have:=hb3.size;omega
  have hB3:=hB2.trans (hb3.mono (by omega));clear hb3 hX2 hz2 hB2;go_wp2_with fail
  go_ret;exact⟨ze (by rw[HO.o,HBare.o,HSnd.o];rfl),hB3⟩
 have HSnd:=hid hsnd;clear hsnd
 by_cases hd:df.toList.isEmpty=true
 ·have HD:=hid hd
  go_enter Tryz.func221,Tryz.ntmps221;go_wp2_with fail
  refine(zdW _ _ _ _ _ _ _ _ _ _ _ _ _ _).mono ?_;rintro e w1⟨rfl,hb1⟩;have hX1:=za (zl w _ _) (by simp) hb1;have hz1:w.heap.size<w1.heap.size:=by have:=hb1.size;simp at this;omega
  have hB1:=(bAl _ _).trans (hb1.mono (by simp));clear hb1 hlk;go_wp2_with fail
  refine(zh HBare.o (zcJ _ _ _ _ _ _ _ _ _ _ _ _ _ _)).mono ?_;rintro e w2⟨rfl,hb2⟩;have hX2:=za hX1 hz1 hb2;have hz2:w.heap.size<w2.heap.size:=by have:=hb2.size;omega
  have hB2:=hB1.trans (hb2.mono (by omega));clear hb2 hX1 hz1 hB1;go_wp2_with fail
  refine(zh HSnd.o (zdE _ _ _ _ _ _ _ _ _ _ _ _ _ _ _ _)).mono ?_;rintro e w3⟨rfl,hb3⟩;have hX3:=za hX2 hz2 hb3;have hz3:w.heap.size<w3.heap.size:=by have:=hb3.size;omega
  have hB3:=hB2.trans (hb3.mono (by omega));clear hb3 hX2 hz2 hB2;go_wp2_with fail
  go_ret;exact⟨ze (by rw[HO.o,HBare.o,HSnd.o,HD.o];rfl),hB3⟩
 ·have hd':df.toList.isEmpty=false:=by simpa using hd
  have HD:=hid hd';have HZ:=hid (zmB ls ms ws df (by intro h;rw[zy]at hd';simp[h]at hd'));clear hd;go_enter Tryz.func221,Tryz.ntmps221;go_wp2_with fail
  refine(zdW _ _ _ _ _ _ _ _ _ _ _ _ _ _).mono ?_;rintro e w1⟨rfl,hb1⟩;have hX1:=za (zl w _ _) (by simp) hb1;have hz1:w.heap.size<w1.heap.size:=by have:=hb1.size;simp at this;omega
  have hB1:=(bAl _ _).trans (hb1.mono (by simp));clear hb1 hlk;go_wp2_with fail
  refine(zh HBare.o (zcJ _ _ _ _ _ _ _ _ _ _ _ _ _ _)).mono ?_;rintro e w2⟨rfl,hb2⟩;have hX2:=za hX1 hz1 hb2;have hz2:w.heap.size<w2.heap.size:=by have:=hb2.size;omega
  have hB2:=hB1.trans (hb2.mono (by omega));clear hb2 hX1 hz1 hB1;go_wp2_with fail
  refine(zh HSnd.o (zdE _ _ _ _ _ _ _ _ _ _ _ _ _ _ _ _)).mono ?_;rintro e w3⟨rfl,hb3⟩;have hX3:=za hX2 hz2 hb3;have hz3:w.heap.size<w3.heap.size:=by have:=hb3.size;omega
  have hB3:=hB2.trans (hb3.mono (by omega));clear hb3 hX2 hz2 hB2;go_wp2_with fail
  refine(zhf _ _ _ _ _ _ _ _ _ _ _ _ _ hdf).mono ?_;rintro e w4⟨rfl,hb4⟩;have hB4:=hB3.trans (hb4.mono (by omega));clear hb4;go_wp2_with fail
  go_ret;exact⟨ze (by rw[HO.o,HBare.o,HSnd.o,HD.o,HZ.o];rfl),hB4⟩
theorem zqt (r:Nat)(nm:BA)(ls ms:Int)(a:OA)(cap:Nat)(ws:List BA)(to:BA)(rl:Int)(mu fx:Bool)(df wg:BA)(a0:OA)(cap0:Nat)(ss:List Shp)(w:World)(hr:w.heap[r]?=some (.map yQ 4))(hdf:df.size<=maxLen)(hss:yX w a0 ss) :
 Calls Tryz.prog 221 #[.map (some r),.l a0 ss.length cap0,.agg #[.s nm,.i 4,.i ls,.i ms,.l a ws.length cap,.s to,.i rl,.bool mu,.bool fx,.s df,.s wg]] w
  fun e w'=>e=.returned (.bool (yH ss ⟨nm,4,ls,ms,ws,to,rl,mu,fx,df,wg⟩))/\Bw w w':=by
 have HO:Hid (yH ss ⟨nm,4,ls,ms,ws,to,rl,mu,fx,df,wg⟩=(yM 4 ls ms ws.length to rl wg&&zW ss ⟨nm,4,ls,ms,ws,to,rl,mu,fx,df,wg⟩&&(df.toList.isEmpty||fits 4 ls ms ws df))):=rfl;have hlt:=(gES hr).1
 have hlk:∀o,(Instr.lookup 205 (.map (some r)) (.i 4) true).run Tryz.prog (w.alloc o)=.ok (.tuple #[.func (.func 199) #[] #[],.bool true]) (w.alloc o):=
  fun o=>yS Tryz.underlying205 Tryz.underlying3 (.i 4) _ rfl yQ 4 3 rfl (w.alloc o) r ((Below.heap_alloc w o r hlt).trans hr)
 clear hr;have hm1:=zmc;have hm2:=zk0;have hm3:=zhb
 by_cases hbare:yM 4 ls ms ws.length to rl wg=true
 rotate_left
 ·have HBare:Hid (yM 4 ls ms ws.length to rl wg=false):=by simpa[Hid] using hbare
  clear hbare hm2 hm3;go_enter Tryz.func221,Tryz.ntmps221;go_wp2_with fail
  refine(zdU _ _ _ _ _ _ _ _ _ _ _ _ _ _).mono ?_;rintro e w1⟨rfl,hb1⟩;have hX1:=za (zl w _ _) (by simp) hb1;have hz1:w.heap.size<w1.heap.size:=by have:=hb1.size;simp at this;omega
  have hB1:=(bAl _ _).trans (hb1.mono (by simp));clear hb1 hlk;go_wp2_with fail
  refine(zh HBare.o (zcF _ _ _ _ _ _ _ _ _ _ _ _ _ _)).mono ?_;rintro e w2⟨rfl,hb2⟩;have hX2:=za hX1 hz1 hb2;have hz2:w.heap.size<w2.heap.size:=by have:=hb2.size;omega
  have hB2:=hB1.trans (hb2.mono (by omega));clear hb2 hX1 hz1 hB1;go_wp2_with fail
  go_ret;exact⟨ze (by rw[HO.o,HBare.o];rfl),hB2⟩
 have HBare:=hid hbare;clear hbare
 by_cases hsnd:zW ss ⟨nm,4,ls,ms,ws,to,rl,mu,fx,df,wg⟩=true
 rotate_left
 ·have HSnd:Hid (zW ss ⟨nm,4,ls,ms,ws,to,rl,mu,fx,df,wg⟩=false):=by simpa[Hid] using hsnd
  clear hsnd hm3;go_enter Tryz.func221,Tryz.ntmps221;go_wp2_with fail
  refine(zdU _ _ _ _ _ _ _ _ _ _ _ _ _ _).mono ?_;rintro e w1⟨rfl,hb1⟩;have hX1:=za (zl w _ _) (by simp) hb1;have hz1:w.heap.size<w1.heap.size:=by have:=hb1.size;simp at this;omega
  have hB1:=(bAl _ _).trans (hb1.mono (by simp));clear hb1 hlk;go_wp2_with fail
  refine(zh HBare.o (zcF _ _ _ _ _ _ _ _ _ _ _ _ _ _)).mono ?_;rintro e w2⟨rfl,hb2⟩;have hX2:=za hX1 hz1 hb2;have hz2:w.heap.size<w2.heap.size:=by have:=hb2.size;omega
  have hB2:=hB1.trans (hb2.mono (by omega));clear hb2 hX1 hz1 hB1;go_wp2_with fail
  refine(zh HSnd.o (zdF _ _ _ _ _ _ _ _ _ _ _ _ _ _ _ _ (by exact hss.mono hB2))).mono ?_;rintro e w3⟨rfl,hb3⟩;have hX3:=za hX2 hz2 hb3;have hz3:w.heap.size<w3.heap.size:=by have:=hb3.size;omega
  have hB3:=hB2.trans (hb3.mono (by omega));clear hb3 hX2 hz2 hB2;go_wp2_with fail
  go_ret;exact⟨ze (by rw[HO.o,HBare.o,HSnd.o];rfl),hB3⟩
 have HSnd:=hid hsnd;clear hsnd
 by_cases hd:df.toList.isEmpty=true
 ·have HD:=hid hd
  go_enter Tryz.func221,Tryz.ntmps221;go_wp2_with fail
  refine(zdU _ _ _ _ _ _ _ _ _ _ _ _ _ _).mono ?_;rintro e w1⟨rfl,hb1⟩;have hX1:=za (zl w _ _) (by simp) hb1;have hz1:w.heap.size<w1.heap.size:=by have:=hb1.size;simp at this;omega
  have hB1:=(bAl _ _).trans (hb1.mono (by simp));clear hb1 hlk;go_wp2_with fail
  refine(zh HBare.o (zcF _ _ _ _ _ _ _ _ _ _ _ _ _ _)).mono ?_;rintro e w2⟨rfl,hb2⟩;have hX2:=za hX1 hz1 hb2;have hz2:w.heap.size<w2.heap.size:=by have:=hb2.size;omega
  have hB2:=hB1.trans (hb2.mono (by omega));clear hb2 hX1 hz1 hB1;go_wp2_with fail
  refine(zh HSnd.o (zdF _ _ _ _ _ _ _ _ _ _ _ _ _ _ _ _ (by exact hss.mono hB2))).mono ?_;rintro e w3⟨rfl,hb3⟩;have hX3:=za hX2 hz2 hb3;have hz3:w.heap.size<w3.heap.size:=by have:=hb3.size;omega
  have hB3:=hB2.trans (hb3.mono (by omega));clear hb3 hX2 hz2 hB2;go_wp2_with fail
  go_ret;exact⟨ze (by rw[HO.o,HBare.o,HSnd.o,HD.o];rfl),hB3⟩
 ·have hd':df.toList.isEmpty=false:=by simpa using hd
  have HD:=hid hd';have HZ:=hid (zoG ls ms ws df (by intro h;rw[zy]at hd';simp[h]at hd'));clear hd;go_enter Tryz.func221,Tryz.ntmps221;go_wp2_with fail
  refine(zdU _ _ _ _ _ _ _ _ _ _ _ _ _ _).mono ?_;rintro e w1⟨rfl,hb1⟩;have hX1:=za (zl w _ _) (by simp) hb1;have hz1:w.heap.size<w1.heap.size:=by have:=hb1.size;simp at this;omega
  have hB1:=(bAl _ _).trans (hb1.mono (by simp));clear hb1 hlk;go_wp2_with fail
  refine(zh HBare.o (zcF _ _ _ _ _ _ _ _ _ _ _ _ _ _)).mono ?_;rintro e w2⟨rfl,hb2⟩;have hX2:=za hX1 hz1 hb2;have hz2:w.heap.size<w2.heap.size:=by have:=hb2.size;omega
  have hB2:=hB1.trans (hb2.mono (by omega));clear hb2 hX1 hz1 hB1;go_wp2_with fail
  refine(zh HSnd.o (zdF _ _ _ _ _ _ _ _ _ _ _ _ _ _ _ _ (by exact hss.mono hB2))).mono ?_;rintro e w3⟨rfl,hb3⟩;have hX3:=za hX2 hz2 hb3;have hz3:w.heap.size<w3.heap.size:=by have:=hb3.size;omega
  have hB3:=hB2.trans (hb3.mono (by omega));clear hb3 hX2 hz2 hB2;go_wp2_with fail
  refine(zgi _ _ _ _ _ _ _ _ _ _ _ _ _ hdf).mono ?_;rintro e w4⟨rfl,hb4⟩;have hB4:=hB3.trans (hb4.mono (by omega));clear hb4;go_wp2_with fail
  go_ret;exact⟨ze (by rw[HO.o,HBare.o,HSnd.o,HD.o,HZ.o];rfl),hB4⟩
theorem zls (r:Nat)(nm:BA)(kd ls ms:Int)(a:OA)(cap:Nat)(ws:List BA)(to:BA)(rl:Int)(mu fx:Bool)(df wg:BA)(a0:OA)(cap0:Nat)(ss:List Shp)(w:World)(hr:w.heap[r]?=some (.map yQ 4))(h1:kd≠1)(h2:kd≠2)(h3:kd≠3)(h4:kd≠4) :
 Calls Tryz.prog 221 #[.map (some r),.l a0 ss.length cap0,.agg #[.s nm,.i kd,.i ls,.i ms,.l a ws.length cap,.s to,.i rl,.bool mu,.bool fx,.s df,.s wg]] w
  fun e w'=>e=.returned (.bool (yH ss ⟨nm,kd,ls,ms,ws,to,rl,mu,fx,df,wg⟩))/\Bw w w':=by
 have HO:Hid (yH ss ⟨nm,kd,ls,ms,ws,to,rl,mu,fx,df,wg⟩=false):=by simp[Hid,yH,bare,yM,h1,h2,h3,h4]
 have hlt:=(gES hr).1
 have hlk:∀o,(Instr.lookup 205 (.map (some r)) (.i kd) true).run Tryz.prog (w.alloc o)=.ok (.tuple #[.nilFunc,.bool false]) (w.alloc o):=
  fun o=>zcy Tryz.underlying205 Tryz.underlying3 (.i kd) _ rfl yQ 4 (zlA kd h1 h2 h3 h4) (w.alloc o) (zlV _) r ((Below.heap_alloc w o r hlt).trans hr)
 clear hr h1 h2 h3 h4;go_enter Tryz.func221,Tryz.ntmps221;go_wp2_with fail
 go_ret;exact⟨ze HO.o.symm,bAl _ _⟩
theorem znx (r:Nat)(nm:BA)(kd ls ms:Int)(a:OA)(cap:Nat)(ws:List BA)(to:BA)(rl:Int)(mu fx:Bool)(df wg:BA)(a0:OA)(cap0:Nat)(ss:List Shp)(w:World)(hr:w.heap[r]?=some (.map yQ 4))(hdf:df.size<=maxLen)(hwg:wg.size<=maxLen)(hws:zG w a ws)(hss:yX w a0 ss) :
 Calls Tryz.prog 221 #[.map (some r),.l a0 ss.length cap0,.agg #[.s nm,.i kd,.i ls,.i ms,.l a ws.length cap,.s to,.i rl,.bool mu,.bool fx,.s df,.s wg]] w
  fun e w'=>e=.returned (.bool (yH ss ⟨nm,kd,ls,ms,ws,to,rl,mu,fx,df,wg⟩))/\Bw w w':=by
 by_cases h1:kd=1
 ·subst h1;exact zpU r nm ls ms a cap ws to rl mu fx df wg a0 cap0 ss w hr hdf hwg
 by_cases h2:kd=2
 ·subst h2;exact zp5 r nm ls ms a cap ws to rl mu fx df wg a0 cap0 ss w hr hws
 by_cases h3:kd=3
 ·subst h3;exact zqq r nm ls ms a cap ws to rl mu fx df wg a0 cap0 ss w hr hdf
 by_cases h4:kd=4
 ·subst h4;exact zqt r nm ls ms a cap ws to rl mu fx df wg a0 cap0 ss w hr hdf hss
 exact zls r nm kd ls ms a cap ws to rl mu fx df wg a0 cap0 ss w hr h1 h2 h3 h4
end Go.Proofs.YtbfgkhgmnfghgaaGreat
