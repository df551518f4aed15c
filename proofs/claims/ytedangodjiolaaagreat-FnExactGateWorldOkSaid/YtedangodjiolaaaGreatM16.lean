import Derived.Test.YtedangodjiolaaaGreatM14
set_option maxHeartbeats 1000000
namespace Go.Proofs.YtedangodjiolaaaGreat
open Go.RowKit
theorem zlP (x:Value)(w:World):(method 461 273 x "loop.example/wharfgate/impl.bare").run Tryz.prog w=.ok (267,x) w:=by kernel_rfl
theorem zkU (x:Value)(w:World):(method 461 273 x "loop.example/wharfgate/impl.sound").run Tryz.prog w=.ok (269,x) w:=by kernel_rfl
theorem zlK (x:Value)(w:World):(method 461 275 x "loop.example/wharfgate/impl.bare").run Tryz.prog w=.ok (270,x) w:=by kernel_rfl
theorem zkR (x:Value)(w:World):(method 461 275 x "loop.example/wharfgate/impl.sound").run Tryz.prog w=.ok (272,x) w:=by kernel_rfl
theorem zmd (x:Value)(w:World):(method 461 276 x "loop.example/wharfgate/impl.bare").run Tryz.prog w=.ok (275,x) w:=by kernel_rfl
theorem zkF (x:Value)(w:World):(method 461 276 x "loop.example/wharfgate/impl.sound").run Tryz.prog w=.ok (277,x) w:=by kernel_rfl
theorem zme (x:Value)(w:World):(method 461 277 x "loop.example/wharfgate/impl.bare").run Tryz.prog w=.ok (278,x) w:=by kernel_rfl
theorem zkW (x:Value)(w:World):(method 461 277 x "loop.example/wharfgate/impl.sound").run Tryz.prog w=.ok (280,x) w:=by kernel_rfl
theorem zpM (r:Nat)(nm:BA)(ls ms:Int)(a:OA)(cap:Nat)(ws:List BA)(to:BA)(rl:Int)(mu fx:Bool)(df wg:BA)(a0:OA)(cap0:Nat)(ss:List Shp)(w:World)(hr:w.heap[r]?=some (.map yS 4))(hdf:df.size<=maxLen)(hwg:wg.size<=maxLen) :
 Calls Tryz.prog 226 #[.map (some r),.l a0 ss.length cap0,.agg #[.s nm,.i 1,.i ls,.i ms,.l a ws.length cap,.s to,.i rl,.bool mu,.bool fx,.s df,.s wg]] w
  fun e w'=>e=.returned (.bool (yI ss ⟨nm,1,ls,ms,ws,to,rl,mu,fx,df,wg⟩))/\Bw w w':=by
 have HO:Hid (yI ss ⟨nm,1,ls,ms,ws,to,rl,mu,fx,df,wg⟩=(yR 1 ls ms ws.length to rl wg&&zT ss ⟨nm,1,ls,ms,ws,to,rl,mu,fx,df,wg⟩&&(df.toList.isEmpty||fits 1 ls ms ws df))):=rfl;have hlt:=(gES hr).1
 have hlk:∀o,(Instr.lookup 220 (.map (some r)) (.i 1) true).run Tryz.prog (w.alloc o)=.ok (.tuple #[.func (.func 191) #[] #[],.bool true]) (w.alloc o):=
  fun o=>yU Tryz.underlying220 Tryz.underlying3 (.i 1) _ rfl yS 4 0 rfl (w.alloc o) r ((Below.heap_alloc w o r hlt).trans hr)
 clear hr;have hm1:=zlP;have hm2:=zkU;have hm3:=zgQ
 by_cases hbare:yR 1 ls ms ws.length to rl wg=true
 rotate_left
 ·have HBare:Hid (yR 1 ls ms ws.length to rl wg=false):=by simpa[Hid] using hbare
  clear hbare hm2 hm3;go_enter Tryz.func226,Tryz.ntmps226;go_wp2_with fail
  refine(zdC _ _ _ _ _ _ _ _ _ _ _ _ _ _).mono ?_;rintro e w1⟨rfl,hb1⟩;have hX1:=za (zn w _ _) (by simp) hb1;have hz1:w.heap.size<w1.heap.size:=by have:=hb1.size;simp at this;omega
  have hB1:=(bAl _ _).trans (hb1.mono (by simp));clear hb1 hlk;go_wp2_with fail
  refine(zf HBare.o (zbN _ _ _ _ _ _ _ _ _ _ _ _ _ _)).mono ?_;rintro e w2⟨rfl,hb2⟩;have hX2:=za hX1 hz1 hb2;have hz2:w.heap.size<w2.heap.size:=by have:=hb2.size;omega
  have hB2:=hB1.trans (hb2.mono (by omega));clear hb2 hX1 hz1 hB1;go_wp2_with fail
  go_ret;exact⟨ze (by rw[HO.o,HBare.o];rfl),hB2⟩
 have HBare:=hid hbare;clear hbare
 by_cases hsnd:zT ss ⟨nm,1,ls,ms,ws,to,rl,mu,fx,df,wg⟩=true
 rotate_left
 ·have HSnd:Hid (zT ss ⟨nm,1,ls,ms,ws,to,rl,mu,fx,df,wg⟩=false):=by simpa[Hid] using hsnd
  clear hsnd hm3;go_enter Tryz.func226,Tryz.ntmps226;go_wp2_with fail
  refine(zdC _ _ _ _ _ _ _ _ _ _ _ _ _ _).mono ?_;rintro e w1⟨rfl,hb1⟩;have hX1:=za (zn w _ _) (by simp) hb1;have hz1:w.heap.size<w1.heap.size:=by have:=hb1.size;simp at this;omega
  have hB1:=(bAl _ _).trans (hb1.mono (by simp));clear hb1 hlk;go_wp2_with fail
  refine(zf HBare.o (zbN _ _ _ _ _ _ _ _ _ _ _ _ _ _)).mono ?_;rintro e w2⟨rfl,hb2⟩;have hX2:=za hX1 hz1 hb2;have hz2:w.heap.size<w2.heap.size:=by have:=hb2.size;omega
  have hB2:=hB1.trans (hb2.mono (by omega));clear hb2 hX1 hz1 hB1;go_wp2_with fail
  refine(zf HSnd.o (zcq _ _ _ _ _ _ _ _ _ _ _ _ _ _ _ _ hwg)).mono ?_;rintro e w3⟨rfl,hb3⟩;have hX3:=za hX2 hz2 hb3;have hz3:w.heap.size<w3.heap.size:=by have:=hb3.size;omega
  have hB3:=hB2.trans (hb3.mono (by omega));clear hb3 hX2 hz2 hB2;go_wp2_with fail
  go_ret;exact⟨ze (by rw[HO.o,HBare.o,HSnd.o];rfl),hB3⟩
 have HSnd:=hid hsnd;clear hsnd
 by_cases hd:df.toList.isEmpty=true
 ·have HD:=hid hd
  go_enter Tryz.func226,Tryz.ntmps226;go_wp2_with fail
  refine(zdC _ _ _ _ _ _ _ _ _ _ _ _ _ _).mono ?_;rintro e w1⟨rfl,hb1⟩;have hX1:=za (zn w _ _) (by simp) hb1;have hz1:w.heap.size<w1.heap.size:=by have:=hb1.size;simp at this;omega
  have hB1:=(bAl _ _).trans (hb1.mono (by simp));clear hb1 hlk;go_wp2_with fail
  refine(zf HBare.o (zbN _ _ _ _ _ _ _ _ _ _ _ _ _ _)).mono ?_;rintro e w2⟨rfl,hb2⟩;have hX2:=za hX1 hz1 hb2;have hz2:w.heap.size<w2.heap.size:=by have:=hb2.size;omega
  have hB2:=hB1.trans (hb2.mono (by omega));clear hb2 hX1 hz1 hB1;go_wp2_with fail
  refine(zf HSnd.o (zcq _ _ _ _ _ _ _ _ _ _ _ _ _ _ _ _ hwg)).mono ?_;rintro e w3⟨rfl,hb3⟩;have hX3:=za hX2 hz2 hb3;have hz3:w.heap.size<w3.heap.size:=by have:=hb3.size;omega
  have hB3:=hB2.trans (hb3.mono (by omega));clear hb3 hX2 hz2 hB2;go_wp2_with fail
  go_ret;exact⟨ze (by rw[HO.o,HBare.o,HSnd.o,HD.o];rfl),hB3⟩
 ·have hd':df.toList.isEmpty=false:=by simpa using hd
  have HD:=hid hd';have HZ:=hid (zn0 ls ms ws df (by intro h;rw[zB]at hd';simp[h]at hd'));clear hd;go_enter Tryz.func226,Tryz.ntmps226;go_wp2_with fail
  refine(zdC _ _ _ _ _ _ _ _ _ _ _ _ _ _).mono ?_;rintro e w1⟨rfl,hb1⟩;have hX1:=za (zn w _ _) (by simp) hb1;have hz1:w.heap.size<w1.heap.size:=by have:=hb1.size;simp at this;omega
  have hB1:=(bAl _ _).trans (hb1.mono (by simp));clear hb1 hlk;go_wp2_with fail
  refine(zf HBare.o (zbN _ _ _ _ _ _ _ _ _ _ _ _ _ _)).mono ?_;rintro e w2⟨rfl,hb2⟩;have hX2:=za hX1 hz1 hb2;have hz2:w.heap.size<w2.heap.size:=by have:=hb2.size;omega
  have hB2:=hB1.trans (hb2.mono (by omega));clear hb2 hX1 hz1 hB1;go_wp2_with fail
  refine(zf HSnd.o (zcq _ _ _ _ _ _ _ _ _ _ _ _ _ _ _ _ hwg)).mono ?_;rintro e w3⟨rfl,hb3⟩;have hX3:=za hX2 hz2 hb3;have hz3:w.heap.size<w3.heap.size:=by have:=hb3.size;omega
  have hB3:=hB2.trans (hb3.mono (by omega));clear hb3 hX2 hz2 hB2;go_wp2_with fail
  refine(zff _ _ _ _ _ _ _ _ _ _ _ _ _ hdf).mono ?_;rintro e w4⟨rfl,hb4⟩;have hB4:=hB3.trans (hb4.mono (by omega));clear hb4;go_wp2_with fail
  go_ret;exact⟨ze (by rw[HO.o,HBare.o,HSnd.o,HD.o,HZ.o];rfl),hB4⟩
theorem zpy (r:Nat)(nm:BA)(ls ms:Int)(a:OA)(cap:Nat)(ws:List BA)(to:BA)(rl:Int)(mu fx:Bool)(df wg:BA)(a0:OA)(cap0:Nat)(ss:List Shp)(w:World)(hr:w.heap[r]?=some (.map yS 4))(hws:zK w a ws) :
 Calls Tryz.prog 226 #[.map (some r),.l a0 ss.length cap0,.agg #[.s nm,.i 2,.i ls,.i ms,.l a ws.length cap,.s to,.i rl,.bool mu,.bool fx,.s df,.s wg]] w
  fun e w'=>e=.returned (.bool (yI ss ⟨nm,2,ls,ms,ws,to,rl,mu,fx,df,wg⟩))/\Bw w w':=by
 have HO:Hid (yI ss ⟨nm,2,ls,ms,ws,to,rl,mu,fx,df,wg⟩=(yR 2 ls ms ws.length to rl wg&&zT ss ⟨nm,2,ls,ms,ws,to,rl,mu,fx,df,wg⟩&&(df.toList.isEmpty||fits 2 ls ms ws df))):=rfl;have hlt:=(gES hr).1
 have hlk:∀o,(Instr.lookup 220 (.map (some r)) (.i 2) true).run Tryz.prog (w.alloc o)=.ok (.tuple #[.func (.func 192) #[] #[],.bool true]) (w.alloc o):=
  fun o=>yU Tryz.underlying220 Tryz.underlying3 (.i 2) _ rfl yS 4 1 rfl (w.alloc o) r ((Below.heap_alloc w o r hlt).trans hr)
 clear hr;have hm1:=zlK;have hm2:=zkR;have hm3:=zgq
 by_cases hbare:yR 2 ls ms ws.length to rl wg=true
 rotate_left
 ·have HBare:Hid (yR 2 ls ms ws.length to rl wg=false):=by simpa[Hid] using hbare
  clear hbare hm2 hm3;go_enter Tryz.func226,Tryz.ntmps226;go_wp2_with fail
  refine(zdB _ _ _ _ _ _ _ _ _ _ _ _ _ _).mono ?_;rintro e w1⟨rfl,hb1⟩;have hX1:=za (zn w _ _) (by simp) hb1;have hz1:w.heap.size<w1.heap.size:=by have:=hb1.size;simp at this;omega
  have hB1:=(bAl _ _).trans (hb1.mono (by simp));clear hb1 hlk;go_wp2_with fail
  refine(zf HBare.o (zcD _ _ _ _ _ _ _ _ _ _ _ _ _ _)).mono ?_;rintro e w2⟨rfl,hb2⟩;have hX2:=za hX1 hz1 hb2;have hz2:w.heap.size<w2.heap.size:=by have:=hb2.size;omega
  have hB2:=hB1.trans (hb2.mono (by omega));clear hb2 hX1 hz1 hB1;go_wp2_with fail
  go_ret;exact⟨ze (by rw[HO.o,HBare.o];rfl),hB2⟩
 have HBare:=hid hbare;clear hbare
 by_cases hsnd:zT ss ⟨nm,2,ls,ms,ws,to,rl,mu,fx,df,wg⟩=true
 rotate_left
 ·have HSnd:Hid (zT ss ⟨nm,2,ls,ms,ws,to,rl,mu,fx,df,wg⟩=false):=by simpa[Hid] using hsnd
  clear hsnd hm3;go_enter Tryz.func226,Tryz.ntmps226;go_wp2_with fail
  refine(zdB _ _ _ _ _ _ _ _ _ _ _ _ _ _).mono ?_;rintro e w1⟨rfl,hb1⟩;have hX1:=za (zn w _ _) (by simp) hb1;have hz1:w.heap.size<w1.heap.size:=by have:=hb1.size;simp at this;omega
  have hB1:=(bAl _ _).trans (hb1.mono (by simp));clear hb1 hlk;go_wp2_with fail
  refine(zf HBare.o (zcD _ _ _ _ _ _ _ _ _ _ _ _ _ _)).mono ?_;rintro e w2⟨rfl,hb2⟩;have hX2:=za hX1 hz1 hb2;have hz2:w.heap.size<w2.heap.size:=by have:=hb2.size;omega
  have hB2:=hB1.trans (hb2.mono (by omega));clear hb2 hX1 hz1 hB1;go_wp2_with fail
  refine(zf HSnd.o (zdv _ _ _ _ _ _ _ _ _ _ _ _ _ _ _ _ (by exact hws.mono hB2))).mono ?_;rintro e w3⟨rfl,hb3⟩;have hX3:=za hX2 hz2 hb3;have hz3:w.heap.size<w3.heap.size:=by have:=hb3.size;omega
  have hB3:=hB2.trans (hb3.mono (by omega));clear hb3 hX2 hz2 hB2;go_wp2_with fail
  go_ret;exact⟨ze (by rw[HO.o,HBare.o,HSnd.o];rfl),hB3⟩
 have HSnd:=hid hsnd;clear hsnd
 by_cases hd:df.toList.isEmpty=true
 ·have HD:=hid hd
  go_enter Tryz.func226,Tryz.ntmps226;go_wp2_with fail
  refine(zdB _ _ _ _ _ _ _ _ _ _ _ _ _ _).mono ?_;rintro e w1⟨rfl,hb1⟩;have hX1:=za (zn w _ _) (by simp) hb1;have hz1:w.heap.size<w1.heap.size:=by have:=hb1.size;simp at this;omega
  have hB1:=(bAl _ _).trans (hb1.mono (by simp));clear hb1 hlk;go_wp2_with fail
  refine(zf HBare.o (zcD _ _ _ _ _ _ _ _ _ _ _ _ _ _)).mono ?_;rintro e w2⟨rfl,hb2⟩;have hX2:=za hX1 hz1 hb2;have hz2:w.heap.size<w2.heap.size:=by have:=hb2.size;omega
  have hB2:=hB1.trans (hb2.mono (by omega));clear hb2 hX1 hz1 hB1;go_wp2_with fail
  refine(zf HSnd.o (zdv _ _ _ _ _ _ _ _ _ _ _ _ _ _ _ _ (by exact hws.mono hB2))).mono ?_;rintro e w3⟨rfl,hb3⟩;have hX3:=za hX2 hz2 hb3;have hz3:w.heap.size<w3.heap.size:=by have:=hb3.size;omega
  have hB3:=hB2.trans (hb3.mono (by omega));clear hb3 hX2 hz2 hB2;go_wp2_with fail
  go_ret;exact⟨ze (by rw[HO.o,HBare.o,HSnd.o,HD.o];rfl),hB3⟩
 ·have hd':df.toList.isEmpty=false:=by simpa using hd
  have HD:=hid hd';have HZ:=hid (zn7 ls ms ws df (by intro h;rw[zB]at hd';simp[h]at hd'));clear hd;go_enter Tryz.func226,Tryz.ntmps226;go_wp2_with fail
  refine(zdB _ _ _ _ _ _ _ _ _ _ _ _ _ _).mono ?_;rintro e w1⟨rfl,hb1⟩;have hX1:=za (zn w _ _) (by simp) hb1;have hz1:w.heap.size<w1.heap.size:=by have:=hb1.size;simp at this;omega
  have hB1:=(bAl _ _).trans (hb1.mono (by simp));clear hb1 hlk;go_wp2_with fail
  refine(zf HBare.o (zcD _ _ _ _ _ _ _ _ _ _ _ _ _ _)).mono ?_;rintro e w2⟨rfl,hb2⟩;have hX2:=za hX1 hz1 hb2;have hz2:w.heap.size<w2.heap.size:=by have:=hb2.size;omega
  have hB2:=hB1.trans (hb2.mono (by omega));clear hb2 hX1 hz1 hB1;go_wp2_with fail
  refine(zf HSnd.o (zdv _ _ _ _ _ _ _ _ _ _ _ _ _ _ _ _ (by exact hws.mono hB2))).mono ?_;rintro e w3⟨rfl,hb3⟩;have hX3:=za hX2 hz2 hb3;have hz3:w.heap.size<w3.heap.size:=by have:=hb3.size;omega
  have hB3:=hB2.trans (hb3.mono (by omega));clear hb3 hX2 hz2 hB2;go_wp2_with fail
  refine(zf5 _ _ _ _ _ _ _ _ _ _ _ _ _ _ _ (by exact hws.mono hB3)).mono ?_;rintro e w4⟨rfl,hb4⟩;have hB4:=hB3.trans (hb4.mono (by omega));clear hb4;go_wp2_with fail
  go_ret;exact⟨ze (by rw[HO.o,HBare.o,HSnd.o,HD.o,HZ.o];rfl),hB4⟩
theorem zpf (r:Nat)(nm:BA)(ls ms:Int)(a:OA)(cap:Nat)(ws:List BA)(to:BA)(rl:Int)(mu fx:Bool)(df wg:BA)(a0:OA)(cap0:Nat)(ss:List Shp)(w:World)(hr:w.heap[r]?=some (.map yS 4))(hdf:df.size<=maxLen) :
 Calls Tryz.prog 226 #[.map (some r),.l a0 ss.length cap0,.agg #[.s nm,.i 3,.i ls,.i ms,.l a ws.length cap,.s to,.i rl,.bool mu,.bool fx,.s df,.s wg]] w
  fun e w'=>e=.returned (.bool (yI ss ⟨nm,3,ls,ms,ws,to,rl,mu,fx,df,wg⟩))/\Bw w w':=by
 have HO:Hid (yI ss ⟨nm,3,ls,ms,ws,to,rl,mu,fx,df,wg⟩=(yR 3 ls ms ws.length to rl wg&&zT ss ⟨nm,3,ls,ms,ws,to,rl,mu,fx,df,wg⟩&&(df.toList.isEmpty||fits 3 ls ms ws df))):=rfl;have hlt:=(gES hr).1
 have hlk:∀o,(Instr.lookup 220 (.map (some r)) (.i 3) true).run Tryz.prog (w.alloc o)=.ok (.tuple #[.func (.func 193) #[] #[],.bool true]) (w.alloc o):=
  fun o=>yU Tryz.underlying220 Tryz.underlying3 (.i 3) _ rfl yS 4 2 rfl (w.alloc o) r ((Below.heap_alloc w o r hlt).trans hr)
 clear hr;have hm1:=zmd;have hm2:=zkF;have hm3:=zgG
 by_cases hbare:yR 3 ls ms ws.length to rl wg=true
 rotate_left
 ·have HBare:Hid (yR 3 ls ms ws.length to rl wg=false):=by simpa[Hid] using hbare
  clear hbare hm2 hm3;go_enter Tryz.func226,Tryz.ntmps226;go_wp2_with fail
  refine(zdQ _ _ _ _ _ _ _ _ _ _ _ _ _ _).mono ?_;rintro e w1⟨rfl,hb1⟩;have hX1:=za (zn w _ _) (by simp) hb1;have hz1:w.heap.size<w1.heap.size:=by have:=hb1.size;simp at this;omega
  have hB1:=(bAl _ _).trans (hb1.mono (by simp));clear hb1 hlk;go_wp2_with fail
  refine(zf HBare.o (zcu _ _ _ _ _ _ _ _ _ _ _ _ _ _)).mono ?_;rintro e w2⟨rfl,hb2⟩;have hX2:=za hX1 hz1 hb2;have hz2:w.heap.size<w2.heap.size:=by have:=hb2.size;omega
  have hB2:=hB1.trans (hb2.mono (by omega));clear hb2 hX1 hz1 hB1;go_wp2_with fail
  go_ret;exact⟨ze (by rw[HO.o,HBare.o];rfl),hB2⟩
 have HBare:=hid hbare;clear hbare
 by_cases hsnd:zT ss ⟨nm,3,ls,ms,ws,to,rl,mu,fx,df,wg⟩=true
 rotate_left
 ·have HSnd:Hid (zT ss ⟨nm,3,ls,ms,ws,to,rl,mu,fx,df,wg⟩=false):=by simpa[Hid] using hsnd
  clear hsnd hm3;go_enter Tryz.func226,Tryz.ntmps226;go_wp2_with fail
  refine(zdQ _ _ _ _ _ _ _ _ _ _ _ _ _ _).mono ?_;rintro e w1⟨rfl,hb1⟩;have hX1:=za (zn w _ _) (by simp) hb1;have hz1:w.heap.size<w1.heap.size:=by have:=hb1.size;simp at this;omega
  have hB1:=(bAl _ _).trans (hb1.mono (by simp));clear hb1 hlk;go_wp2_with fail
  refine(zf HBare.o (zcu _ _ _ _ _ _ _ _ _ _ _ _ _ _)).mono ?_;rintro e w2⟨rfl,hb2⟩;have hX2:=za hX1 hz1 hb2;have hz2:w.heap.size<w2.heap.size:=by have:=hb2.size;omega
  have hB2:=hB1.trans (hb2.mono (by omega));clear hb2 hX1 hz1 hB1;go_wp2_with fail
  refine(zf HSnd.o (zdw _ _ _ _ _ _ _ _ _ _ _ _ _ _ _ _)).mono ?_;rintro e w3⟨rfl,hb3⟩;have hX3:=za hX2 hz2 hb3;have hz3:w.heap.size<w3.heap.size:=by have:=hb3.size;omega
  have hB3:=hB2.trans (hb3.mono (by omega));clear hb3 hX2 hz2 hB2;go_wp2_with fail
  go_ret;exact⟨ze (by rw[HO.o,HBare.o,HSnd.o];rfl),hB3⟩
 have HSnd:=hid hsnd;clear hsnd
 by_cases hd:df.toList.isEmpty=true
 ·have HD:=hid hd
  go_enter Tryz.func226,Tryz.ntmps226;go_wp2_with fail
  refine(zdQ _ _ _ _ _ _ _ _ _ _ _ _ _ _).mono ?_;rintro e w1⟨rfl,hb1⟩;have hX1:=za (zn w _ _) (by simp) hb1;have hz1:w.heap.size<w1.heap.size:=by have:=hb1.size;simp at this;omega
  have hB1:=(bAl _ _).trans (hb1.mono (by simp));clear hb1 hlk;go_wp2_with fail
  refine(zf HBare.o (zcu _ _ _ _ _ _ _ _ _ _ _ _ _ _)).mono ?_;rintro e w2⟨rfl,hb2⟩;have hX2:=za hX1 hz1 hb2;have hz2:w.heap.size<w2.heap.size:=by have:=hb2.size;omega
  have hB2:=hB1.trans (hb2.mono (by omega));clear hb2 hX1 hz1 hB1;go_wp2_with fail
  refine(zf HSnd.o (zdw _ _ _ _ _ _ _ _ _ _ _ _ _ _ _ _)).mono ?_;rintro e w3⟨rfl,hb3⟩;have hX3:=za hX2 hz2 hb3;have hz3:w.heap.size<w3.heap.size:=by have:=hb3.size;omega
  have hB3:=hB2.trans (hb3.mono (by omega));clear hb3 hX2 hz2 hB2;go_wp2_with fail
  go_ret;exact⟨ze (by rw[HO.o,HBare.o,HSnd.o,HD.o];rfl),hB3⟩
 ·have hd':df.toList.isEmpty=false:=by simpa using hd
  have HD:=hid hd';have HZ:=hid (zl3 ls ms ws df (by intro h;rw[zB]at hd';simp[h]at hd'));clear hd;go_enter Tryz.func226,Tryz.ntmps226;go_wp2_with fail
  refine(zdQ _ _ _ _ _ _ _ _ _ _ _ _ _ _).mono ?_;rintro e w1⟨rfl,hb1⟩;have hX1:=za (zn w _ _) (by simp) hb1;have hz1:w.heap.size<w1.heap.size:=by have:=hb1.size;simp at this;omega
  have hB1:=(bAl _ _).trans (hb1.mono (by simp));clear hb1 hlk;go_wp2_with fail
  refine(zf HBare.o (zcu _ _ _ _ _ _ _ _ _ _ _ _ _ _)).mono ?_;rintro e w2⟨rfl,hb2⟩;have hX2:=za hX1 hz1 hb2;have hz2:w.heap.size<w2.heap.size:=by have:=hb2.size;omega
  have hB2:=hB1.trans (hb2.mono (by omega));clear hb2 hX1 hz1 hB1;go_wp2_with fail
  refine(zf HSnd.o (zdw _ _ _ _ _ _ _ _ _ _ _ _ _ _ _ _)).mono ?_;rintro e w3⟨rfl,hb3⟩;have hX3:=za hX2 hz2 hb3;have hz3:w.heap.size<w3.heap.size:=by have:=hb3.size;omega
  have hB3:=hB2.trans (hb3.mono (by omega));clear hb3 hX2 hz2 hB2;go_wp2_with fail
  refine(zgh _ _ _ _ _ _ _ _ _ _ _ _ _ hdf).mono ?_;rintro e w4⟨rfl,hb4⟩;have hB4:=hB3.trans (hb4.mono (by omega));clear hb4;go_wp2_with fail
  go_ret;exact⟨ze (by rw[HO.o,HBare.o,HSnd.o,HD.o,HZ.o];rfl),hB4⟩
theorem zpF (r:Nat)(nm:BA)(ls ms:Int)(a:OA)(cap:Nat)(ws:List BA)(to:BA)(rl:Int)(mu fx:Bool)(df wg:BA)(a0:OA)(cap0:Nat)(ss:List Shp)(w:World)(hr:w.heap[r]?=some (.map yS 4))(hdf:df.size<=maxLen)(hss:yM w a0 ss) :
 Calls Tryz.prog 226 #[.map (some r),.l a0 ss.length cap0,.agg #[.s nm,.i 4,.i ls,.i ms,.l a ws.length cap,.s to,.i rl,.bool mu,.bool fx,.s df,.s wg]] w
  fun e w'=>e=.returned (.bool (yI ss ⟨nm,4,ls,ms,ws,to,rl,mu,fx,df,wg⟩))/\Bw w w':=by
 have HO:Hid (yI ss ⟨nm,4,ls,ms,ws,to,rl,mu,fx,df,wg⟩=(yR 4 ls ms ws.length to rl wg&&zT ss ⟨nm,4,ls,ms,ws,to,rl,mu,fx,df,wg⟩&&(df.toList.isEmpty||fits 4 ls ms ws df))):=rfl;have hlt:=(gES hr).1
 have hlk:∀o,(Instr.lookup 220 (.map (some r)) (.i 4) true).run Tryz.prog (w.alloc o)=.ok (.tuple #[.func (.func 194) #[] #[],.bool true]) (w.alloc o):=
  fun o=>yU Tryz.underlying220 Tryz.underlying3 (.i 4) _ rfl yS 4 3 rfl (w.alloc o) r ((Below.heap_alloc w o r hlt).trans hr)
 clear hr;have hm1:=zme;have hm2:=zkW;have hm3:=zfW
 by_cases hbare:yR 4 ls ms ws.length to rl wg=true
 rotate_left
 ·have HBare:Hid (yR 4 ls ms ws.length to rl wg=false):=by simpa[Hid] using hbare
  clear hbare hm2 hm3;go_enter Tryz.func226,Tryz.ntmps226;go_wp2_with fail
  refine(zdJ _ _ _ _ _ _ _ _ _ _ _ _ _ _).mono ?_;rintro e w1⟨rfl,hb1⟩;have hX1:=za (zn w _ _) (by simp) hb1;have hz1:w.heap.size<w1.heap.size:=by have:=hb1.size;simp at this;omega
  have hB1:=(bAl _ _).trans (hb1.mono (by simp));clear hb1 hlk;go_wp2_with fail
  refine(zf HBare.o (zcy _ _ _ _ _ _ _ _ _ _ _ _ _ _)).mono ?_;rintro e w2⟨rfl,hb2⟩;have hX2:=za hX1 hz1 hb2;have hz2:w.heap.size<w2.heap.size:=by have:=hb2.size;omega
  have hB2:=hB1.trans (hb2.mono (by omega));clear hb2 hX1 hz1 hB1;go_wp2_with fail
  go_ret;exact⟨ze (by rw[HO.o,HBare.o];rfl),hB2⟩
 have HBare:=hid hbare;clear hbare
 by_cases hsnd:zT ss ⟨nm,4,ls,ms,ws,to,rl,mu,fx,df,wg⟩=true
 rotate_left
 ·have HSnd:Hid (zT ss ⟨nm,4,ls,ms,ws,to,rl,mu,fx,df,wg⟩=false):=by simpa[Hid] using hsnd
  clear hsnd hm3;go_enter Tryz.func226,Tryz.ntmps226;go_wp2_with fail
  refine(zdJ _ _ _ _ _ _ _ _ _ _ _ _ _ _).mono ?_;rintro e w1⟨rfl,hb1⟩;have hX1:=za (zn w _ _) (by simp) hb1;have hz1:w.heap.size<w1.heap.size:=by have:=hb1.size;simp at this;omega
  have hB1:=(bAl _ _).trans (hb1.mono (by simp));clear hb1 hlk;go_wp2_with fail
  refine(zf HBare.o (zcy _ _ _ _ _ _ _ _ _ _ _ _ _ _)).mono ?_;rintro e w2⟨rfl,hb2⟩;have hX2:=za hX1 hz1 hb2;have hz2:w.heap.size<w2.heap.size:=by have:=hb2.size;omega
  have hB2:=hB1.trans (hb2.mono (by omega));clear hb2 hX1 hz1 hB1;go_wp2_with fail
  refine(zf HSnd.o (zdy _ _ _ _ _ _ _ _ _ _ _ _ _ _ _ _ (by exact hss.mono hB2))).mono ?_;rintro e w3⟨rfl,hb3⟩;have hX3:=za hX2 hz2 hb3;have hz3:w.heap.size<w3.heap.size:=by have:=hb3.size;omega
  have hB3:=hB2.trans (hb3.mono (by omega));clear hb3 hX2 hz2 hB2;go_wp2_with fail
  go_ret;exact⟨ze (by rw[HO.o,HBare.o,HSnd.o];rfl),hB3⟩
 have HSnd:=hid hsnd;clear hsnd
 by_cases hd:df.toList.isEmpty=true
 ·have HD:=hid hd
  go_enter Tryz.func226,Tryz.ntmps226;go_wp2_with fail
  refine(zdJ _ _ _ _ _ _ _ _ _ _ _ _ _ _).mono ?_;rintro e w1⟨rfl,hb1⟩;have hX1:=za (zn w _ _) (by simp) hb1;have hz1:w.heap.size<w1.heap.size:=by have:=hb1.size;simp at this;omega
  have hB1:=(bAl _ _).trans (hb1.mono (by simp));clear hb1 hlk;go_wp2_with fail
  refine(zf HBare.o (zcy _ _ _ _ _ _ _ _ _ _ _ _ _ _)).mono ?_;rintro e w2⟨rfl,hb2⟩;have hX2:=za hX1 hz1 hb2;have hz2:w.heap.size<w2.heap.size:=by have:=hb2.size;omega
  have hB2:=hB1.trans (hb2.mono (by omega));clear hb2 hX1 hz1 hB1;go_wp2_with fail
  refine(zf HSnd.o (zdy _ _ _ _ _ _ _ _ _ _ _ _ _ _ _ _ (by exact hss.mono hB2))).mono ?_;rintro e w3⟨rfl,hb3⟩;have hX3:=za hX2 hz2 hb3;have hz3:w.heap.size<w3.heap.size:=by have:=hb3.size;omega
  have hB3:=hB2.trans (hb3.mono (by omega));clear hb3 hX2 hz2 hB2;go_wp2_with fail
  go_ret;exact⟨ze (by rw[HO.o,HBare.o,HSnd.o,HD.o];rfl),hB3⟩
 ·have hd':df.toList.isEmpty=false:=by simpa using hd
  have HD:=hid hd';have HZ:=hid (zod ls ms ws df (by intro h;rw[zB]at hd';simp[h]at hd'));clear hd;go_enter Tryz.func226,Tryz.ntmps226;go_wp2_with fail
  refine(zdJ _ _ _ _ _ _ _ _ _ _ _ _ _ _).mono ?_;rintro e w1⟨rfl,hb1⟩;have hX1:=za (zn w _ _) (by simp) hb1;have hz1:w.heap.size<w1.heap.size:=by have:=hb1.size;simp at this;omega
  have hB1:=(bAl _ _).trans (hb1.mono (by simp));clear hb1 hlk;go_wp2_with fail
  refine(zf HBare.o (zcy _ _ _ _ _ _ _ _ _ _ _ _ _ _)).mono ?_;rintro e w2⟨rfl,hb2⟩;have hX2:=za hX1 hz1 hb2;have hz2:w.heap.size<w2.heap.size:=by have:=hb2.size;omega
  have hB2:=hB1.trans (hb2.mono (by omega));clear hb2 hX1 hz1 hB1;go_wp2_with fail
  refine(zf HSnd.o (zdy _ _ _ _ _ _ _ _ _ _ _ _ _ _ _ _ (by exact hss.mono hB2))).mono ?_;rintro e w3⟨rfl,hb3⟩;have hX3:=za hX2 hz2 hb3;have hz3:w.heap.size<w3.heap.size:=by have:=hb3.size;omega
  have hB3:=hB2.trans (hb3.mono (by omega));clear hb3 hX2 hz2 hB2;go_wp2_with fail
  refine(zf8 _ _ _ _ _ _ _ _ _ _ _ _ _ hdf).mono ?_;rintro e w4⟨rfl,hb4⟩;have hB4:=hB3.trans (hb4.mono (by omega));clear hb4;go_wp2_with fail
  go_ret;exact⟨ze (by rw[HO.o,HBare.o,HSnd.o,HD.o,HZ.o];rfl),hB4⟩
theorem zko (r:Nat)(nm:BA)(kd ls ms:Int)(a:OA)(cap:Nat)(ws:List BA)(to:BA)(rl:Int)(mu fx:Bool)(df wg:BA)(a0:OA)(cap0:Nat)(ss:List Shp)(w:World)(hr:w.heap[r]?=some (.map yS 4))(h1:kd≠1)(h2:kd≠2)(h3:kd≠3)(h4:kd≠4) :
 Calls Tryz.prog 226 #[.map (some r),.l a0 ss.length cap0,.agg #[.s nm,.i kd,.i ls,.i ms,.l a ws.length cap,.s to,.i rl,.bool mu,.bool fx,.s df,.s wg]] w
  fun e w'=>e=.returned (.bool (yI ss ⟨nm,kd,ls,ms,ws,to,rl,mu,fx,df,wg⟩))/\Bw w w':=by
 have HO:Hid (yI ss ⟨nm,kd,ls,ms,ws,to,rl,mu,fx,df,wg⟩=false):=by simp[Hid,yI,bare,yR,h1,h2,h3,h4]
 have hlt:=(gES hr).1
 have hlk:∀o,(Instr.lookup 220 (.map (some r)) (.i kd) true).run Tryz.prog (w.alloc o)=.ok (.tuple #[.nilFunc,.bool false]) (w.alloc o):=
  fun o=>zco Tryz.underlying220 Tryz.underlying3 (.i kd) _ rfl yS 4 (zlc kd h1 h2 h3 h4) (w.alloc o) (zld _) r ((Below.heap_alloc w o r hlt).trans hr)
 clear hr h1 h2 h3 h4;go_enter Tryz.func226,Tryz.ntmps226;go_wp2_with fail
 go_ret;exact⟨ze HO.o.symm,bAl _ _⟩
theorem zmY (r:Nat)(nm:BA)(kd ls ms:Int)(a:OA)(cap:Nat)(ws:List BA)(to:BA)(rl:Int)(mu fx:Bool)(df wg:BA)(a0:OA)(cap0:Nat)(ss:List Shp)(w:World)(hr:w.heap[r]?=some (.map yS 4))(hdf:df.size<=maxLen)(hwg:wg.size<=maxLen)(hws:zK w a ws)(hss:yM w a0 ss) :
 Calls Tryz.prog 226 #[.map (some r),.l a0 ss.length cap0,.agg #[.s nm,.i kd,.i ls,.i ms,.l a ws.length cap,.s to,.i rl,.bool mu,.bool fx,.s df,.s wg]] w
  fun e w'=>e=.returned (.bool (yI ss ⟨nm,kd,ls,ms,ws,to,rl,mu,fx,df,wg⟩))/\Bw w w':=by
 by_cases h1:kd=1
 ·subst h1;exact zpM r nm ls ms a cap ws to rl mu fx df wg a0 cap0 ss w hr hdf hwg
 by_cases h2:kd=2
 ·subst h2;exact zpy r nm ls ms a cap ws to rl mu fx df wg a0 cap0 ss w hr hws
 by_cases h3:kd=3
 ·subst h3;exact zpf r nm ls ms a cap ws to rl mu fx df wg a0 cap0 ss w hr hdf
 by_cases h4:kd=4
 ·subst h4;exact zpF r nm ls ms a cap ws to rl mu fx df wg a0 cap0 ss w hr hdf hss
 exact zko r nm kd ls ms a cap ws to rl mu fx df wg a0 cap0 ss w hr h1 h2 h3 h4
end Go.Proofs.YtedangodjiolaaaGreat
