import Derived.Test.YtcgpjfcocmcodaaGreatM14
set_option maxHeartbeats 1000000
namespace Go.Proofs.YtcgpjfcocmcodaaGreat
open Go.RowKit
theorem zmt (x:Value)(w:World):(method 415 240 x "loop.example/wharfgate/impl.bare").run Tryz.prog w=.ok (255,x) w:=by kernel_rfl
theorem zkS (x:Value)(w:World):(method 415 240 x "loop.example/wharfgate/impl.sound").run Tryz.prog w=.ok (257,x) w:=by kernel_rfl
theorem zmq (x:Value)(w:World):(method 415 242 x "loop.example/wharfgate/impl.bare").run Tryz.prog w=.ok (258,x) w:=by kernel_rfl
theorem zk2 (x:Value)(w:World):(method 415 242 x "loop.example/wharfgate/impl.sound").run Tryz.prog w=.ok (260,x) w:=by kernel_rfl
theorem zmh (x:Value)(w:World):(method 415 243 x "loop.example/wharfgate/impl.bare").run Tryz.prog w=.ok (263,x) w:=by kernel_rfl
theorem zkJ (x:Value)(w:World):(method 415 243 x "loop.example/wharfgate/impl.sound").run Tryz.prog w=.ok (265,x) w:=by kernel_rfl
theorem zmo (x:Value)(w:World):(method 415 244 x "loop.example/wharfgate/impl.bare").run Tryz.prog w=.ok (266,x) w:=by kernel_rfl
theorem zkY (x:Value)(w:World):(method 415 244 x "loop.example/wharfgate/impl.sound").run Tryz.prog w=.ok (268,x) w:=by kernel_rfl
theorem zpL (r:Nat)(nm:BA)(ls ms:Int)(a:OA)(cap:Nat)(ws:List BA)(to:BA)(rl:Int)(mu fx:Bool)(df wg:BA)(a0:OA)(cap0:Nat)(ss:List Shp)(w:World)(hr:w.heap[r]?=some (.map yO 4))(hdf:df.size<=maxLen)(hwg:wg.size<=maxLen) :
 Calls Tryz.prog 218 #[.map (some r),.l a0 ss.length cap0,.agg #[.s nm,.i 1,.i ls,.i ms,.l a ws.length cap,.s to,.i rl,.bool mu,.bool fx,.s df,.s wg]] w
  fun e w'=>e=.returned (.bool (yH ss ⟨nm,1,ls,ms,ws,to,rl,mu,fx,df,wg⟩))/\Bw w w':=by
 have HO:Hid (yH ss ⟨nm,1,ls,ms,ws,to,rl,mu,fx,df,wg⟩=(yM 1 ls ms ws.length to rl wg&&zW ss ⟨nm,1,ls,ms,ws,to,rl,mu,fx,df,wg⟩&&(df.toList.isEmpty||fits 1 ls ms ws df))):=rfl;have hlt:=(gES hr).1
 have hlk:∀o,(Instr.lookup 208 (.map (some r)) (.i 1) true).run Tryz.prog (w.alloc o)=.ok (.tuple #[.func (.func 197) #[] #[],.bool true]) (w.alloc o):=
  fun o=>yQ Tryz.underlying208 Tryz.underlying3 (.i 1) _ rfl yO 4 0 rfl (w.alloc o) r ((Below.heap_alloc w o r hlt).trans hr)
 clear hr;have hm1:=zmt;have hm2:=zkS;have hm3:=zgY
 by_cases hbare:yM 1 ls ms ws.length to rl wg=true
 rotate_left
 ·have HBare:Hid (yM 1 ls ms ws.length to rl wg=false):=by simpa[Hid] using hbare
  clear hbare hm2 hm3;go_enter Tryz.func218,Tryz.ntmps218;go_wp2_with fail
  refine(zdN _ _ _ _ _ _ _ _ _ _ _ _ _ _).mono ?_;rintro e w1⟨rfl,hb1⟩;have hX1:=za (zl w _ _) (by simp) hb1;have hz1:w.heap.size<w1.heap.size:=by have:=hb1.size;simp at this;omega
  have hB1:=(bAl _ _).trans (hb1.mono (by simp));clear hb1 hlk;go_wp2_with fail
  refine(zf HBare.o (zbF _ _ _ _ _ _ _ _ _ _ _ _ _ _)).mono ?_;rintro e w2⟨rfl,hb2⟩;have hX2:=za hX1 hz1 hb2;have hz2:w.heap.size<w2.heap.size:=by have:=hb2.size;omega
  have hB2:=hB1.trans (hb2.mono (by omega));clear hb2 hX1 hz1 hB1;go_wp2_with fail
  go_ret;exact⟨ze (by rw[HO.o,HBare.o];rfl),hB2⟩
 have HBare:=hid hbare;clear hbare
 by_cases hsnd:zW ss ⟨nm,1,ls,ms,ws,to,rl,mu,fx,df,wg⟩=true
 rotate_left
 ·have HSnd:Hid (zW ss ⟨nm,1,ls,ms,ws,to,rl,mu,fx,df,wg⟩=false):=by simpa[Hid] using hsnd
  clear hsnd hm3;go_enter Tryz.func218,Tryz.ntmps218;go_wp2_with fail
  refine(zdN _ _ _ _ _ _ _ _ _ _ _ _ _ _).mono ?_;rintro e w1⟨rfl,hb1⟩;have hX1:=za (zl w _ _) (by simp) hb1;have hz1:w.heap.size<w1.heap.size:=by have:=hb1.size;simp at this;omega
  have hB1:=(bAl _ _).trans (hb1.mono (by simp));clear hb1 hlk;go_wp2_with fail
  refine(zf HBare.o (zbF _ _ _ _ _ _ _ _ _ _ _ _ _ _)).mono ?_;rintro e w2⟨rfl,hb2⟩;have hX2:=za hX1 hz1 hb2;have hz2:w.heap.size<w2.heap.size:=by have:=hb2.size;omega
  have hB2:=hB1.trans (hb2.mono (by omega));clear hb2 hX1 hz1 hB1;go_wp2_with fail
  refine(zf HSnd.o (zcn _ _ _ _ _ _ _ _ _ _ _ _ _ _ _ _ hwg)).mono ?_;rintro e w3⟨rfl,hb3⟩;have hX3:=za hX2 hz2 hb3;have hz3:w.heap.size<w3.heap.size:=by have:=hb3.size;omega
  have hB3:=hB2.trans (hb3.mono (by omega));clear hb3 hX2 hz2 hB2;go_wp2_with fail
  go_ret;exact⟨ze (by rw[HO.o,HBare.o,HSnd.o];rfl),hB3⟩
 have HSnd:=hid hsnd;clear hsnd
 by_cases hd:df.toList.isEmpty=true
 ·have HD:=hid hd
  go_enter Tryz.func218,Tryz.ntmps218;go_wp2_with fail
  refine(zdN _ _ _ _ _ _ _ _ _ _ _ _ _ _).mono ?_;rintro e w1⟨rfl,hb1⟩;have hX1:=za (zl w _ _) (by simp) hb1;have hz1:w.heap.size<w1.heap.size:=by have:=hb1.size;simp at this;omega
  have hB1:=(bAl _ _).trans (hb1.mono (by simp));clear hb1 hlk;go_wp2_with fail
  refine(zf HBare.o (zbF _ _ _ _ _ _ _ _ _ _ _ _ _ _)).mono ?_;rintro e w2⟨rfl,hb2⟩;have hX2:=za hX1 hz1 hb2;have hz2:w.heap.size<w2.heap.size:=by have:=hb2.size;omega
  have hB2:=hB1.trans (hb2.mono (by omega));clear hb2 hX1 hz1 hB1;go_wp2_with fail
  refine(zf HSnd.o (zcn _ _ _ _ _ _ _ _ _ _ _ _ _ _ _ _ hwg)).mono ?_;rintro e w3⟨rfl,hb3⟩;have hX3:=za hX2 hz2 hb3;have hz3:w.heap.size<w3.heap.size:=by have:=hb3.size;omega
  have hB3:=hB2.trans (hb3.mono (by omega));clear hb3 hX2 hz2 hB2;go_wp2_with fail
  go_ret;exact⟨ze (by rw[HO.o,HBare.o,HSnd.o,HD.o];rfl),hB3⟩
 ·have hd':df.toList.isEmpty=false:=by simpa using hd
  have HD:=hid hd';have HZ:=hid (zoD ls ms ws df (by intro h;rw[zy]at hd';simp[h]at hd'));clear hd;go_enter Tryz.func218,Tryz.ntmps218;go_wp2_with fail
  refine(zdN _ _ _ _ _ _ _ _ _ _ _ _ _ _).mono ?_;rintro e w1⟨rfl,hb1⟩;have hX1:=za (zl w _ _) (by simp) hb1;have hz1:w.heap.size<w1.heap.size:=by have:=hb1.size;simp at this;omega
  have hB1:=(bAl _ _).trans (hb1.mono (by simp));clear hb1 hlk;go_wp2_with fail
  refine(zf HBare.o (zbF _ _ _ _ _ _ _ _ _ _ _ _ _ _)).mono ?_;rintro e w2⟨rfl,hb2⟩;have hX2:=za hX1 hz1 hb2;have hz2:w.heap.size<w2.heap.size:=by have:=hb2.size;omega
  have hB2:=hB1.trans (hb2.mono (by omega));clear hb2 hX1 hz1 hB1;go_wp2_with fail
  refine(zf HSnd.o (zcn _ _ _ _ _ _ _ _ _ _ _ _ _ _ _ _ hwg)).mono ?_;rintro e w3⟨rfl,hb3⟩;have hX3:=za hX2 hz2 hb3;have hz3:w.heap.size<w3.heap.size:=by have:=hb3.size;omega
  have hB3:=hB2.trans (hb3.mono (by omega));clear hb3 hX2 hz2 hB2;go_wp2_with fail
  refine(ze4 _ _ _ _ _ _ _ _ _ _ _ _ _ hdf).mono ?_;rintro e w4⟨rfl,hb4⟩;have hB4:=hB3.trans (hb4.mono (by omega));clear hb4;go_wp2_with fail
  go_ret;exact⟨ze (by rw[HO.o,HBare.o,HSnd.o,HD.o,HZ.o];rfl),hB4⟩
theorem zqi (r:Nat)(nm:BA)(ls ms:Int)(a:OA)(cap:Nat)(ws:List BA)(to:BA)(rl:Int)(mu fx:Bool)(df wg:BA)(a0:OA)(cap0:Nat)(ss:List Shp)(w:World)(hr:w.heap[r]?=some (.map yO 4))(hws:zG w a ws) :
 Calls Tryz.prog 218 #[.map (some r),.l a0 ss.length cap0,.agg #[.s nm,.i 2,.i ls,.i ms,.l a ws.length cap,.s to,.i rl,.bool mu,.bool fx,.s df,.s wg]] w
  fun e w'=>e=.returned (.bool (yH ss ⟨nm,2,ls,ms,ws,to,rl,mu,fx,df,wg⟩))/\Bw w w':=by
 have HO:Hid (yH ss ⟨nm,2,ls,ms,ws,to,rl,mu,fx,df,wg⟩=(yM 2 ls ms ws.length to rl wg&&zW ss ⟨nm,2,ls,ms,ws,to,rl,mu,fx,df,wg⟩&&(df.toList.isEmpty||fits 2 ls ms ws df))):=rfl;have hlt:=(gES hr).1
 have hlk:∀o,(Instr.lookup 208 (.map (some r)) (.i 2) true).run Tryz.prog (w.alloc o)=.ok (.tuple #[.func (.func 198) #[] #[],.bool true]) (w.alloc o):=
  fun o=>yQ Tryz.underlying208 Tryz.underlying3 (.i 2) _ rfl yO 4 1 rfl (w.alloc o) r ((Below.heap_alloc w o r hlt).trans hr)
 clear hr;have hm1:=zmq;have hm2:=zk2;have hm3:=zgU
 by_cases hbare:yM 2 ls ms ws.length to rl wg=true
 rotate_left
 ·have HBare:Hid (yM 2 ls ms ws.length to rl wg=false):=by simpa[Hid] using hbare
  clear hbare hm2 hm3;go_enter Tryz.func218,Tryz.ntmps218;go_wp2_with fail
  refine(zdT _ _ _ _ _ _ _ _ _ _ _ _ _ _).mono ?_;rintro e w1⟨rfl,hb1⟩;have hX1:=za (zl w _ _) (by simp) hb1;have hz1:w.heap.size<w1.heap.size:=by have:=hb1.size;simp at this;omega
  have hB1:=(bAl _ _).trans (hb1.mono (by simp));clear hb1 hlk;go_wp2_with fail
  refine(zf HBare.o (zcG _ _ _ _ _ _ _ _ _ _ _ _ _ _)).mono ?_;rintro e w2⟨rfl,hb2⟩;have hX2:=za hX1 hz1 hb2;have hz2:w.heap.size<w2.heap.size:=by have:=hb2.size;omega
  have hB2:=hB1.trans (hb2.mono (by omega));clear hb2 hX1 hz1 hB1;go_wp2_with fail
  go_ret;exact⟨ze (by rw[HO.o,HBare.o];rfl),hB2⟩
 have HBare:=hid hbare;clear hbare
 by_cases hsnd:zW ss ⟨nm,2,ls,ms,ws,to,rl,mu,fx,df,wg⟩=true
 rotate_left
 ·have HSnd:Hid (zW ss ⟨nm,2,ls,ms,ws,to,rl,mu,fx,df,wg⟩=false):=by simpa[Hid] using hsnd
  clear hsnd hm3;go_enter Tryz.func218,Tryz.ntmps218;go_wp2_with fail
  refine(zdT _ _ _ _ _ _ _ _ _ _ _ _ _ _).mono ?_;rintro e w1⟨rfl,hb1⟩;have hX1:=za (zl w _ _) (by simp) hb1;have hz1:w.heap.size<w1.heap.size:=by have:=hb1.size;simp at this;omega
  have hB1:=(bAl _ _).trans (hb1.mono (by simp));clear hb1 hlk;go_wp2_with fail
  refine(zf HBare.o (zcG _ _ _ _ _ _ _ _ _ _ _ _ _ _)).mono ?_;rintro e w2⟨rfl,hb2⟩;have hX2:=za hX1 hz1 hb2;have hz2:w.heap.size<w2.heap.size:=by have:=hb2.size;omega
  have hB2:=hB1.trans (hb2.mono (by omega));clear hb2 hX1 hz1 hB1;go_wp2_with fail
  refine(zf HSnd.o (zdz _ _ _ _ _ _ _ _ _ _ _ _ _ _ _ _ (by exact hws.mono hB2))).mono ?_;rintro e w3⟨rfl,hb3⟩;have hX3:=za hX2 hz2 hb3;have hz3:w.heap.size<w3.heap.size:=by have:=hb3.size;omega
  have hB3:=hB2.trans (hb3.mono (by omega));clear hb3 hX2 hz2 hB2;go_wp2_with fail
  go_ret;exact⟨ze (by rw[HO.o,HBare.o,HSnd.o];rfl),hB3⟩
 have HSnd:=hid hsnd;clear hsnd
 by_cases hd:df.toList.isEmpty=true
 ·have HD:=hid hd
  go_enter Tryz.func218,Tryz.ntmps218;go_wp2_with fail
  refine(zdT _ _ _ _ _ _ _ _ _ _ _ _ _ _).mono ?_;rintro e w1⟨rfl,hb1⟩;have hX1:=za (zl w _ _) (by simp) hb1;have hz1:w.heap.size<w1.heap.size:=by have:=hb1.size;simp at this;omega
  have hB1:=(bAl _ _).trans (hb1.mono (by simp));clear hb1 hlk;go_wp2_with fail
  refine(zf HBare.o (zcG _ _ _ _ _ _ _ _ _ _ _ _ _ _)).mono ?_;rintro e w2⟨rfl,hb2⟩;have hX2:=za hX1 hz1 hb2;have hz2:w.heap.size<w2.heap.size:=by have:=hb2.size;omega
  have hB2:=hB1.trans (hb2.mono (by omega));clear hb2 hX1 hz1 hB1;go_wp2_with fail
  refine(zf HSnd.o (zdz _ _ _ _ _ _ _ _ _ _ _ _ _ _ _ _ (by exact hws.mono hB2))).mono ?_;rintro e w3⟨rfl,hb3⟩;have hX3:=za hX2 hz2 hb3;have hz3:w.heap.size<w3.heap.size:=by have:=hb3.size;omega
  have hB3:=hB2.trans (hb3.mono (by omega));clear hb3 hX2 hz2 hB2;go_wp2_with fail
  go_ret;exact⟨ze (by rw[HO.o,HBare.o,HSnd.o,HD.o];rfl),hB3⟩
 ·have hd':df.toList.isEmpty=false:=by simpa using hd
  have HD:=hid hd';have HZ:=hid (zph ls ms ws df (by intro h;rw[zy]at hd';simp[h]at hd'));clear hd;go_enter Tryz.func218,Tryz.ntmps218;go_wp2_with fail
  refine(zdT _ _ _ _ _ _ _ _ _ _ _ _ _ _).mono ?_;rintro e w1⟨rfl,hb1⟩;have hX1:=za (zl w _ _) (by simp) hb1;have hz1:w.heap.size<w1.heap.size:=by have:=hb1.size;simp at this;omega
  have hB1:=(bAl _ _).trans (hb1.mono (by simp));clear hb1 hlk;go_wp2_with fail
  refine(zf HBare.o (zcG _ _ _ _ _ _ _ _ _ _ _ _ _ _)).mono ?_;rintro e w2⟨rfl,hb2⟩;have hX2:=za hX1 hz1 hb2;have hz2:w.heap.size<w2.heap.size:=by have:=hb2.size;omega
  have hB2:=hB1.trans (hb2.mono (by omega));clear hb2 hX1 hz1 hB1;go_wp2_with fail
  refine(zf HSnd.o (zdz _ _ _ _ _ _ _ _ _ _ _ _ _ _ _ _ (by exact hws.mono hB2))).mono ?_;rintro e w3⟨rfl,hb3⟩;have hX3:=za hX2 hz2 hb3;have hz3:w.heap.size<w3.heap.size:=by have:=hb3.size;omega
  have hB3:=hB2.trans (hb3.mono (by omega));clear hb3 hX2 hz2 hB2;go_wp2_with fail
  refine(zgN _ _ _ _ _ _ _ _ _ _ _ _ _ _ _ (by exact hws.mono hB3)).mono ?_;rintro e w4⟨rfl,hb4⟩;have hB4:=hB3.trans (hb4.mono (by omega));clear hb4;go_wp2_with fail
  go_ret;exact⟨ze (by rw[HO.o,HBare.o,HSnd.o,HD.o,HZ.o];rfl),hB4⟩
theorem zpX (r:Nat)(nm:BA)(ls ms:Int)(a:OA)(cap:Nat)(ws:List BA)(to:BA)(rl:Int)(mu fx:Bool)(df wg:BA)(a0:OA)(cap0:Nat)(ss:List Shp)(w:World)(hr:w.heap[r]?=some (.map yO 4))(hdf:df.size<=maxLen) :
 Calls Tryz.prog 218 #[.map (some r),.l a0 ss.length cap0,.agg #[.s nm,.i 3,.i ls,.i ms,.l a ws.length cap,.s to,.i rl,.bool mu,.bool fx,.s df,.s wg]] w
  fun e w'=>e=.returned (.bool (yH ss ⟨nm,3,ls,ms,ws,to,rl,mu,fx,df,wg⟩))/\Bw w w':=by
 have HO:Hid (yH ss ⟨nm,3,ls,ms,ws,to,rl,mu,fx,df,wg⟩=(yM 3 ls ms ws.length to rl wg&&zW ss ⟨nm,3,ls,ms,ws,to,rl,mu,fx,df,wg⟩&&(df.toList.isEmpty||fits 3 ls ms ws df))):=rfl;have hlt:=(gES hr).1
 have hlk:∀o,(Instr.lookup 208 (.map (some r)) (.i 3) true).run Tryz.prog (w.alloc o)=.ok (.tuple #[.func (.func 199) #[] #[],.bool true]) (w.alloc o):=
  fun o=>yQ Tryz.underlying208 Tryz.underlying3 (.i 3) _ rfl yO 4 2 rfl (w.alloc o) r ((Below.heap_alloc w o r hlt).trans hr)
 clear hr;have hm1:=zmh;have hm2:=zkJ;have hm3:=zg2
 by_cases hbare:yM 3 ls ms ws.length to rl wg=true
 rotate_left
 ·have HBare:Hid (yM 3 ls ms ws.length to rl wg=false):=by simpa[Hid] using hbare
  clear hbare hm2 hm3;go_enter Tryz.func218,Tryz.ntmps218;go_wp2_with fail
  refine(zdC _ _ _ _ _ _ _ _ _ _ _ _ _ _).mono ?_;rintro e w1⟨rfl,hb1⟩;have hX1:=za (zl w _ _) (by simp) hb1;have hz1:w.heap.size<w1.heap.size:=by have:=hb1.size;simp at this;omega
  have hB1:=(bAl _ _).trans (hb1.mono (by simp));clear hb1 hlk;go_wp2_with fail
  refine(zf HBare.o (zcD _ _ _ _ _ _ _ _ _ _ _ _ _ _)).mono ?_;rintro e w2⟨rfl,hb2⟩;have hX2:=za hX1 hz1 hb2;have hz2:w.heap.size<w2.heap.size:=by have:=hb2.size;omega
  have hB2:=hB1.trans (hb2.mono (by omega));clear hb2 hX1 hz1 hB1;go_wp2_with fail
  go_ret;exact⟨ze (by rw[HO.o,HBare.o];rfl),hB2⟩
 have HBare:=hid hbare;clear hbare
 by_cases hsnd:zW ss ⟨nm,3,ls,ms,ws,to,rl,mu,fx,df,wg⟩=true
 rotate_left
 ·have HSnd:Hid (zW ss ⟨nm,3,ls,ms,ws,to,rl,mu,fx,df,wg⟩=false):=by simpa[Hid] using hsnd
  clear hsnd hm3;go_enter Tryz.func218,Tryz.ntmps218;go_wp2_with fail
  refine(zdC _ _ _ _ _ _ _ _ _ _ _ _ _ _).mono ?_;rintro e w1⟨rfl,hb1⟩;have hX1:=za (zl w _ _) (by simp) hb1;have hz1:w.heap.size<w1.heap.size:=by have:=hb1.size;simp at this;omega
  have hB1:=(bAl _ _).trans (hb1.mono (by simp));clear hb1 hlk;go_wp2_with fail
  refine(zf HBare.o (zcD _ _ _ _ _ _ _ _ _ _ _ _ _ _)).mono ?_;rintro e w2⟨rfl,hb2⟩;have hX2:=za hX1 hz1 hb2;have hz2:w.heap.size<w2.heap.size:=by have:=hb2.size;omega
  have hB2:=hB1.trans (hb2.mono (by omega));clear hb2 hX1 hz1 hB1;go_wp2_with fail
  refine(zf HSnd.o (zdv _ _ _ _ _ _ _ _ _ _ _ _ _ _ _ _)).mono ?_;rintro e w3⟨rfl,hb3⟩;have hX3:=za hX2 hz2 hb3;have hz3:w.heap.size<w3.heap.size:=by have:=hb3.size;omega
  have hB3:=hB2.trans (hb3.mono (by omega));clear hb3 hX2 hz2 hB2;go_wp2_with fail
  go_ret;exact⟨ze (by rw[HO.o,HBare.o,HSnd.o];rfl),hB3⟩
 have HSnd:=hid hsnd;clear hsnd
 by_cases hd:df.toList.isEmpty=true
 ·have HD:=hid hd
  go_enter Tryz.func218,Tryz.ntmps218;go_wp2_with fail
  refine(zdC _ _ _ _ _ _ _ _ _ _ _ _ _ _).mono ?_;rintro e w1⟨rfl,hb1⟩;have hX1:=za (zl w _ _) (by simp) hb1;have hz1:w.heap.size<w1.heap.size:=by have:=hb1.size;simp at this;omega
  have hB1:=(bAl _ _).trans (hb1.mono (by simp));clear hb1 hlk;go_wp2_with fail
  refine(zf HBare.o (zcD _ _ _ _ _ _ _ _ _ _ _ _ _ _)).mono ?_;rintro e w2⟨rfl,hb2⟩;have hX2:=za hX1 hz1 hb2;have hz2:w.heap.size<w2.heap.size:=by have:=hb2.size;omega
  have hB2:=hB1.trans (hb2.mono (by omega));clear hb2 hX1 hz1 hB1;go_wp2_with fail
  refine(zf HSnd.o (zdv _ _ _ _ _ _ _ _ _ _ _ _ _ _ _ _)).mono ?_;rintro e w3⟨rfl,hb3⟩;have hX3:=za hX2 hz2 hb3;have hz3:w.heap.size<w3.heap.size:=by have:=hb3.size;omega
  have hB3:=hB2.trans (hb3.mono (by omega));clear hb3 hX2 hz2 hB2;go_wp2_with fail
  go_ret;exact⟨ze (by rw[HO.o,HBare.o,HSnd.o,HD.o];rfl),hB3⟩
 ·have hd':df.toList.isEmpty=false:=by simpa using hd
  have HD:=hid hd';have HZ:=hid (zl2 ls ms ws df (by intro h;rw[zy]at hd';simp[h]at hd'));clear hd;go_enter Tryz.func218,Tryz.ntmps218;go_wp2_with fail
  refine(zdC _ _ _ _ _ _ _ _ _ _ _ _ _ _).mono ?_;rintro e w1⟨rfl,hb1⟩;have hX1:=za (zl w _ _) (by simp) hb1;have hz1:w.heap.size<w1.heap.size:=by have:=hb1.size;simp at this;omega
  have hB1:=(bAl _ _).trans (hb1.mono (by simp));clear hb1 hlk;go_wp2_with fail
  refine(zf HBare.o (zcD _ _ _ _ _ _ _ _ _ _ _ _ _ _)).mono ?_;rintro e w2⟨rfl,hb2⟩;have hX2:=za hX1 hz1 hb2;have hz2:w.heap.size<w2.heap.size:=by have:=hb2.size;omega
  have hB2:=hB1.trans (hb2.mono (by omega));clear hb2 hX1 hz1 hB1;go_wp2_with fail
  refine(zf HSnd.o (zdv _ _ _ _ _ _ _ _ _ _ _ _ _ _ _ _)).mono ?_;rintro e w3⟨rfl,hb3⟩;have hX3:=za hX2 hz2 hb3;have hz3:w.heap.size<w3.heap.size:=by have:=hb3.size;omega
  have hB3:=hB2.trans (hb3.mono (by omega));clear hb3 hX2 hz2 hB2;go_wp2_with fail
  refine(zg5 _ _ _ _ _ _ _ _ _ _ _ _ _ hdf).mono ?_;rintro e w4⟨rfl,hb4⟩;have hB4:=hB3.trans (hb4.mono (by omega));clear hb4;go_wp2_with fail
  go_ret;exact⟨ze (by rw[HO.o,HBare.o,HSnd.o,HD.o,HZ.o];rfl),hB4⟩
theorem zpK (r:Nat)(nm:BA)(ls ms:Int)(a:OA)(cap:Nat)(ws:List BA)(to:BA)(rl:Int)(mu fx:Bool)(df wg:BA)(a0:OA)(cap0:Nat)(ss:List Shp)(w:World)(hr:w.heap[r]?=some (.map yO 4))(hdf:df.size<=maxLen)(hss:yT w a0 ss) :
 Calls Tryz.prog 218 #[.map (some r),.l a0 ss.length cap0,.agg #[.s nm,.i 4,.i ls,.i ms,.l a ws.length cap,.s to,.i rl,.bool mu,.bool fx,.s df,.s wg]] w
  fun e w'=>e=.returned (.bool (yH ss ⟨nm,4,ls,ms,ws,to,rl,mu,fx,df,wg⟩))/\Bw w w':=by
 have HO:Hid (yH ss ⟨nm,4,ls,ms,ws,to,rl,mu,fx,df,wg⟩=(yM 4 ls ms ws.length to rl wg&&zW ss ⟨nm,4,ls,ms,ws,to,rl,mu,fx,df,wg⟩&&(df.toList.isEmpty||fits 4 ls ms ws df))):=rfl;have hlt:=(gES hr).1
 have hlk:∀o,(Instr.lookup 208 (.map (some r)) (.i 4) true).run Tryz.prog (w.alloc o)=.ok (.tuple #[.func (.func 200) #[] #[],.bool true]) (w.alloc o):=
  fun o=>yQ Tryz.underlying208 Tryz.underlying3 (.i 4) _ rfl yO 4 3 rfl (w.alloc o) r ((Below.heap_alloc w o r hlt).trans hr)
 clear hr;have hm1:=zmo;have hm2:=zkY;have hm3:=zgt
 by_cases hbare:yM 4 ls ms ws.length to rl wg=true
 rotate_left
 ·have HBare:Hid (yM 4 ls ms ws.length to rl wg=false):=by simpa[Hid] using hbare
  clear hbare hm2 hm3;go_enter Tryz.func218,Tryz.ntmps218;go_wp2_with fail
  refine(zdK _ _ _ _ _ _ _ _ _ _ _ _ _ _).mono ?_;rintro e w1⟨rfl,hb1⟩;have hX1:=za (zl w _ _) (by simp) hb1;have hz1:w.heap.size<w1.heap.size:=by have:=hb1.size;simp at this;omega
  have hB1:=(bAl _ _).trans (hb1.mono (by simp));clear hb1 hlk;go_wp2_with fail
  refine(zf HBare.o (zcE _ _ _ _ _ _ _ _ _ _ _ _ _ _)).mono ?_;rintro e w2⟨rfl,hb2⟩;have hX2:=za hX1 hz1 hb2;have hz2:w.heap.size<w2.heap.size:=by have:=hb2.size;omega
  have hB2:=hB1.trans (hb2.mono (by omega));clear hb2 hX1 hz1 hB1;go_wp2_with fail
  go_ret;exact⟨ze (by rw[HO.o,HBare.o];rfl),hB2⟩
 have HBare:=hid hbare;clear hbare
 by_cases hsnd:zW ss ⟨nm,4,ls,ms,ws,to,rl,mu,fx,df,wg⟩=true
 rotate_left
 ·have HSnd:Hid (zW ss ⟨nm,4,ls,ms,ws,to,rl,mu,fx,df,wg⟩=false):=by simpa[Hid] using hsnd
  clear hsnd hm3;go_enter Tryz.func218,Tryz.ntmps218;go_wp2_with fail
  refine(zdK _ _ _ _ _ _ _ _ _ _ _ _ _ _).mono ?_;rintro e w1⟨rfl,hb1⟩;have hX1:=za (zl w _ _) (by simp) hb1;have hz1:w.heap.size<w1.heap.size:=by have:=hb1.size;simp at this;omega
  have hB1:=(bAl _ _).trans (hb1.mono (by simp));clear hb1 hlk;go_wp2_with fail
  refine(zf HBare.o (zcE _ _ _ _ _ _ _ _ _ _ _ _ _ _)).mono ?_;rintro e w2⟨rfl,hb2⟩;have hX2:=za hX1 hz1 hb2;have hz2:w.heap.size<w2.heap.size:=by have:=hb2.size;omega
  have hB2:=hB1.trans (hb2.mono (by omega));clear hb2 hX1 hz1 hB1;go_wp2_with fail
  refine(zf HSnd.o (zdu _ _ _ _ _ _ _ _ _ _ _ _ _ _ _ _ (by exact hss.mono hB2))).mono ?_;rintro e w3⟨rfl,hb3⟩;have hX3:=za hX2 hz2 hb3;have hz3:w.heap.size<w3.heap.size:=by have:=hb3.size;omega
  have hB3:=hB2.trans (hb3.mono (by omega));clear hb3 hX2 hz2 hB2;go_wp2_with fail
  go_ret;exact⟨ze (by rw[HO.o,HBare.o,HSnd.o];rfl),hB3⟩
 have HSnd:=hid hsnd;clear hsnd
 by_cases hd:df.toList.isEmpty=true
 ·have HD:=hid hd
  go_enter Tryz.func218,Tryz.ntmps218;go_wp2_with fail
  refine(zdK _ _ _ _ _ _ _ _ _ _ _ _ _ _).mono ?_;rintro e w1⟨rfl,hb1⟩;have hX1:=za (zl w _ _) (by simp) hb1;have hz1:w.heap.size<w1.heap.size:=by have:=hb1.size;simp at this;omega
  have hB1:=(bAl _ _).trans (hb1.mono (by simp));clear hb1 hlk;go_wp2_with fail
  refine(zf HBare.o (zcE _ _ _ _ _ _ _ _ _ _ _ _ _ _)).mono ?_;rintro e w2⟨rfl,hb2⟩;have hX2:=za hX1 hz1 hb2;have hz2:w.heap.size<w2.heap.size:=by have:=hb2.size;omega
  have hB2:=hB1.trans (hb2.mono (by omega));clear hb2 hX1 hz1 hB1;go_wp2_with fail
  refine(zf HSnd.o (zdu _ _ _ _ _ _ _ _ _ _ _ _ _ _ _ _ (by exact hss.mono hB2))).mono ?_;rintro e w3⟨rfl,hb3⟩;have hX3:=za hX2 hz2 hb3;have hz3:w.heap.size<w3.heap.size:=by have:=hb3.size;omega
  have hB3:=hB2.trans (hb3.mono (by omega));clear hb3 hX2 hz2 hB2;go_wp2_with fail
  go_ret;exact⟨ze (by rw[HO.o,HBare.o,HSnd.o,HD.o];rfl),hB3⟩
 ·have hd':df.toList.isEmpty=false:=by simpa using hd
  have HD:=hid hd';have HZ:=hid (zo5 ls ms ws df (by intro h;rw[zy]at hd';simp[h]at hd'));clear hd;go_enter Tryz.func218,Tryz.ntmps218;go_wp2_with fail
  refine(zdK _ _ _ _ _ _ _ _ _ _ _ _ _ _).mono ?_;rintro e w1⟨rfl,hb1⟩;have hX1:=za (zl w _ _) (by simp) hb1;have hz1:w.heap.size<w1.heap.size:=by have:=hb1.size;simp at this;omega
  have hB1:=(bAl _ _).trans (hb1.mono (by simp));clear hb1 hlk;go_wp2_with fail
  refine(zf HBare.o (zcE _ _ _ _ _ _ _ _ _ _ _ _ _ _)).mono ?_;rintro e w2⟨rfl,hb2⟩;have hX2:=za hX1 hz1 hb2;have hz2:w.heap.size<w2.heap.size:=by have:=hb2.size;omega
  have hB2:=hB1.trans (hb2.mono (by omega));clear hb2 hX1 hz1 hB1;go_wp2_with fail
  refine(zf HSnd.o (zdu _ _ _ _ _ _ _ _ _ _ _ _ _ _ _ _ (by exact hss.mono hB2))).mono ?_;rintro e w3⟨rfl,hb3⟩;have hX3:=za hX2 hz2 hb3;have hz3:w.heap.size<w3.heap.size:=by have:=hb3.size;omega
  have hB3:=hB2.trans (hb3.mono (by omega));clear hb3 hX2 hz2 hB2;go_wp2_with fail
  refine(zgu _ _ _ _ _ _ _ _ _ _ _ _ _ hdf).mono ?_;rintro e w4⟨rfl,hb4⟩;have hB4:=hB3.trans (hb4.mono (by omega));clear hb4;go_wp2_with fail
  go_ret;exact⟨ze (by rw[HO.o,HBare.o,HSnd.o,HD.o,HZ.o];rfl),hB4⟩
theorem zll (r:Nat)(nm:BA)(kd ls ms:Int)(a:OA)(cap:Nat)(ws:List BA)(to:BA)(rl:Int)(mu fx:Bool)(df wg:BA)(a0:OA)(cap0:Nat)(ss:List Shp)(w:World)(hr:w.heap[r]?=some (.map yO 4))(h1:kd≠1)(h2:kd≠2)(h3:kd≠3)(h4:kd≠4) :
 Calls Tryz.prog 218 #[.map (some r),.l a0 ss.length cap0,.agg #[.s nm,.i kd,.i ls,.i ms,.l a ws.length cap,.s to,.i rl,.bool mu,.bool fx,.s df,.s wg]] w
  fun e w'=>e=.returned (.bool (yH ss ⟨nm,kd,ls,ms,ws,to,rl,mu,fx,df,wg⟩))/\Bw w w':=by
 have HO:Hid (yH ss ⟨nm,kd,ls,ms,ws,to,rl,mu,fx,df,wg⟩=false):=by simp[Hid,yH,bare,yM,h1,h2,h3,h4]
 have hlt:=(gES hr).1
 have hlk:∀o,(Instr.lookup 208 (.map (some r)) (.i kd) true).run Tryz.prog (w.alloc o)=.ok (.tuple #[.nilFunc,.bool false]) (w.alloc o):=
  fun o=>zcs Tryz.underlying208 Tryz.underlying3 (.i kd) _ rfl yO 4 (zlF kd h1 h2 h3 h4) (w.alloc o) (zlD _) r ((Below.heap_alloc w o r hlt).trans hr)
 clear hr h1 h2 h3 h4;go_enter Tryz.func218,Tryz.ntmps218;go_wp2_with fail
 go_ret;exact⟨ze HO.o.symm,bAl _ _⟩
theorem zm5 (r:Nat)(nm:BA)(kd ls ms:Int)(a:OA)(cap:Nat)(ws:List BA)(to:BA)(rl:Int)(mu fx:Bool)(df wg:BA)(a0:OA)(cap0:Nat)(ss:List Shp)(w:World)(hr:w.heap[r]?=some (.map yO 4))(hdf:df.size<=maxLen)(hwg:wg.size<=maxLen)(hws:zG w a ws)(hss:yT w a0 ss) :
 Calls Tryz.prog 218 #[.map (some r),.l a0 ss.length cap0,.agg #[.s nm,.i kd,.i ls,.i ms,.l a ws.length cap,.s to,.i rl,.bool mu,.bool fx,.s df,.s wg]] w
  fun e w'=>e=.returned (.bool (yH ss ⟨nm,kd,ls,ms,ws,to,rl,mu,fx,df,wg⟩))/\Bw w w':=by
 by_cases h1:kd=1
 ·subst h1;exact zpL r nm ls ms a cap ws to rl mu fx df wg a0 cap0 ss w hr hdf hwg
 by_cases h2:kd=2
 ·subst h2;exact zqi r nm ls ms a cap ws to rl mu fx df wg a0 cap0 ss w hr hws
 by_cases h3:kd=3
 ·subst h3;exact zpX r nm ls ms a cap ws to rl mu fx df wg a0 cap0 ss w hr hdf
 by_cases h4:kd=4
 ·subst h4;exact zpK r nm ls ms a cap ws to rl mu fx df wg a0 cap0 ss w hr hdf hss
 exact zll r nm kd ls ms a cap ws to rl mu fx df wg a0 cap0 ss w hr h1 h2 h3 h4
end Go.Proofs.YtcgpjfcocmcodaaGreat
