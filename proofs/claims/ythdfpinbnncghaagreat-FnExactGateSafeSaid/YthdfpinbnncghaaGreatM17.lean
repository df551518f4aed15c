import Derived.Test.YthdfpinbnncghaaGreatM12
import Derived.Deep.Cut
import Derived.Test.YthdfpinbnncghaaGreatM14
set_option maxHeartbeats 4000000
namespace Go.Proofs.YthdfpinbnncghaaGreat
open Go.RowKit
structure Sl where
 dr:BA
 x:Ak
 gv:Int
 ws:List Wt
def Sl.cells (s:Sl)(a0 a1 a2 a3:OA)(c0 c1 c2 c3:Nat):AV:=#[.s s.dr,.s s.x.who,.i s.x.vb,.s s.x.kd,.s s.x.nm,.s s.x.tm,.l a0 s.x.vs.length c0,.l a1 s.x.hs.length c1,.i s.x.sn,.s s.x.hd,.s s.x.to,.l a2 s.x.r.vs.length c2,.s s.x.r.kd,.s s.x.r.tm,.s s.x.r.px,.i s.x.no,.i s.gv,.l a3 s.ws.length c3]
structure zdo (w:World)(s:Sl)(a0 a1 a2 a3:OA):Prop where
 dr:s.dr.size<=maxLen
 x:jq w s.x a0 a1 a2
 ws:zc8 w a3 s.ws
theorem zdo.mono {w w':World}{s:Sl}{a0 a1 a2 a3:OA}(h:zdo w s a0 a1 a2 a3)(hb:Bw w w'):zdo w' s a0 a1 a2 a3:=⟨h.dr,h.x.mono hb,h.ws.mono hb⟩
def Sl.sz (s:Sl):Nat:=s.dr.size+s.x.sz+zds s.ws
structure Sl.Few (s:Sl):Prop where
 x:s.x.Few
 ws:s.ws.length<=1048576
theorem Sl.few {s:Sl}(h:(s.sz:Int)<=1048576):s.Few:=by
 unfold Sl.sz zds at h;exact⟨Ak.few (by omega),by omega⟩
theorem zfc (s:Sl)(a0 a1 a2 a3:OA)(c0 c1 c2 c3:Nat)(left:Int)(w:World)(ho:zdo w s a0 a1 a2 a3)(h0:0<=left)(h1:left<=1048576) :
 Calls Tryz.prog 132 #[.agg (s.cells a0 a1 a2 a3 c0 c1 c2 c3),.i left] w fun e w'=>e=.returned (.i (zD s.sz left))/\Bw w w':=by
 have k1:=ho.dr;have HX:Hid (jq w s.x a0 a1 a2):=ho.x;have HW:Hid (zc8 w a3 s.ws):=ho.ws;clear ho;unfold maxLen at k1;unfold Sl.cells
 by_cases p1:(s.dr.size:Int)<=left
 rotate_left
 ·have HF:Hid (zD s.sz left=-1):=zq (by unfold Sl.sz;omega)
  go_enter Tryz.func132,Tryz.ntmps132;go_wp2_with fail
  go_ret;exact⟨zk HF.o.symm,bAl _ _⟩
 go_enter Tryz.func132,Tryz.ntmps132
 go_upto_region 1 with fail
 have hX0:=zn w #[.s s.dr,.s s.x.who,.i s.x.vb,.s s.x.kd,.s s.x.nm,.s s.x.tm,.l a0 s.x.vs.length c0,.l a1 s.x.hs.length c1,.i s.x.sn,.s s.x.hd,.s s.x.to,.l a2 s.x.r.vs.length c2,.s s.x.r.kd,.s s.x.r.tm,.s s.x.r.px,.i s.x.no,.i s.gv,.l a3 s.ws.length c3] 216;obtain⟨W0,hW0,hB0,hz0⟩:∃W0,W0=w.alloc (.cells #[.s s.dr,.s s.x.who,.i s.x.vb,.s s.x.kd,.s s.x.nm,.s s.x.tm,.l a0 s.x.vs.length c0,.l a1 s.x.hs.length c1,.i s.x.sn,.s s.x.hd,.s s.x.to,.l a2 s.x.r.vs.length c2,.s s.x.r.kd,.s s.x.r.tm,.s s.x.r.px,.i s.x.no,.i s.gv,.l a3 s.ws.length c3] 216)/\Bw w W0/\w.heap.size<W0.heap.size:=⟨_,rfl,bAl _ _,by simp⟩
 rw[<- hW0]at hX0 ⊢;clear hW0;go_wp2_with fail
 refine(zlg s.x _ _ _ _ _ _ _ _ (HX.o.mono hB0) (by omega) (by omega)).mono ?_;rintro e w1⟨rfl,hb⟩;have hX1:=za hX0 hz0 hb;have hz1:=nLt hz0 hb.size;have hB1:=hB0.trans (hb.mono hB0.size);clear hb hX0 hz0 hB0
 by_cases p2:(s.x.sz:Int)<=left-s.dr.size
 rotate_left
 ·have HF:Hid (zD s.sz left=-1):=zq (by unfold Sl.sz;omega)
  rw[zq (by omega)];go_wp2_with fail
  go_ret;exact⟨zk HF.o.symm,hB1⟩
 rw[zF p2];go_wp2_with fail
 refine(zjn _ _ s.ws _ _ (HW.o.mono hB1) (by omega) (by omega)).mono ?_;rintro e w2⟨rfl,hb⟩;have hB2:=hB1.trans (hb.mono hB1.size);clear hb hX1 hz1 hB1
 by_cases p3:(zds s.ws:Int)<=left-s.dr.size-s.x.sz
 rotate_left
 ·have HF:Hid (zD s.sz left=-1):=zq (by unfold Sl.sz;omega)
  rw[zq (by omega)];go_wp2_with fail
  go_ret;exact⟨zk HF.o.symm,hB2⟩
 ·have HF:Hid (zD s.sz left=left-s.dr.size-s.x.sz-zds s.ws):=by
   unfold Hid;rw[zF (by unfold Sl.sz;omega)];unfold Sl.sz;omega
  rw[zF p3];go_wp2_with fail
  go_ret;exact⟨zk HF.o.symm,hB2⟩
theorem zjL (s:Sl)(a0 a1 a2 a3:OA)(c0 c1 c2 c3:Nat)(b0 b1 b2 b3:OA)(d0 d1 d2 d3:Nat)(w:World)(ho:zdo w s a0 a1 a2 a3)(ho':zdo w s b0 b1 b2 b3) :
 Calls Tryz.prog 185 #[.agg (s.cells a0 a1 a2 a3 c0 c1 c2 c3),.agg (s.cells b0 b1 b2 b3 d0 d1 d2 d3)] w fun e w'=>e=.returned (.bool true)/\Bw w w':=by
 have HA:Hid (zdo w s a0 a1 a2 a3/\zdo w s b0 b1 b2 b3):=⟨ho,ho'⟩
 have hn1:(s.gv != s.gv)=false:=by simp
 clear ho ho';unfold Sl.cells;go_enter Tryz.func185,Tryz.ntmps185;go_wp2_with fail
 obtain⟨W0,hW0,hX0,hY0,hz0,hB0⟩:∃W0,W0=(w.alloc (.cells #[.s s.dr,.s s.x.who,.i s.x.vb,.s s.x.kd,.s s.x.nm,.s s.x.tm,.l a0 s.x.vs.length c0,.l a1 s.x.hs.length c1,.i s.x.sn,.s s.x.hd,.s s.x.to,.l a2 s.x.r.vs.length c2,.s s.x.r.kd,.s s.x.r.tm,.s s.x.r.px,.i s.x.no,.i s.gv,.l a3 s.ws.length c3] 192)).alloc (.cells #[.s s.dr,.s s.x.who,.i s.x.vb,.s s.x.kd,.s s.x.nm,.s s.x.tm,.l b0 s.x.vs.length d0,.l b1 s.x.hs.length d1,.i s.x.sn,.s s.x.hd,.s s.x.to,.l b2 s.x.r.vs.length d2,.s s.x.r.kd,.s s.x.r.tm,.s s.x.r.px,.i s.x.no,.i s.gv,.l b3 s.ws.length d3] 192)/\_/\_/\w.heap.size+1<W0.heap.size/\Bw w W0:=⟨_,rfl,(zci w _ _ _ _).1,(zci w _ _ _ _).2,by simp,zx _ _ _⟩
 rw[<- hW0]at hX0 hY0 ⊢;clear hW0;refine(zlq s.x _ _ _ _ _ _ _ _ _ _ _ _ _ (HA.o.1.x.mono hB0) (HA.o.2.x.mono hB0)).mono ?_;rintro e w1⟨rfl,hb⟩;have hX1:=za hX0 (nSl hz0) hb;have hY1:=za hY0 hz0 hb;have hz1:=nLt hz0 hb.size;have hB1:=hB0.trans (hb.mono hB0.size);clear hb hX0 hY0 hz0 hB0;go_wp2_with fail
 refine(zi4 _ _ _ _ s.ws _ (HA.o.1.ws.mono hB1) (HA.o.2.ws.mono hB1)).mono ?_;rintro e w2⟨rfl,hb⟩;have hX2:=za hX1 (nSl hz1) hb;have hY2:=za hY1 hz1 hb;have hz2:=nLt hz1 hb.size;have hB2:=hB1.trans (hb.mono hB1.size);clear hb hX1 hY1 hz1 hB1;go_wp2_with fail
 go_ret;exact⟨rfl,hB2⟩
theorem zq2 (w:World)(o1 o2 o3 o4 o5:Obj):(((((w.alloc o1).alloc o2).alloc o3).alloc o4).alloc o5).heap[w.heap.size]?=some o1/\(((((w.alloc o1).alloc o2).alloc o3).alloc o4).alloc o5).heap[w.heap.size+1]?=some o2/\(((((w.alloc o1).alloc o2).alloc o3).alloc o4).alloc o5).heap[w.heap.size+1+1]?=some o3/\(((((w.alloc o1).alloc o2).alloc o3).alloc o4).alloc o5).heap[w.heap.size+1+1+1]?=some o4/\(((((w.alloc o1).alloc o2).alloc o3).alloc o4).alloc o5).heap[w.heap.size+1+1+1+1]?=some o5:=by
 obtain⟨h1,h2,h3⟩:=zkK w o1 o2 o3;have e:=yt (((w.alloc o1).alloc o2).alloc o3) o4 o5;have hb:=zx (((w.alloc o1).alloc o2).alloc o3) o4 o5;refine⟨(hb.block _ (by simp <;> omega)).trans h1,(hb.block _ (by simp <;> omega)).trans h2,(hb.block _ (by simp)).trans h3,?_,?_⟩
 ·have:=e.1;simpa using this
 ·have:=e.2;simpa using this
theorem zro (w:World)(o1 o2 o3 o4 o5:Obj):Bw w (((((w.alloc o1).alloc o2).alloc o3).alloc o4).alloc o5):=(zkb w o1 o2 o3 o4).alloc (by simp <;> omega) _
structure zsA (lo:Nat)(w:World)(x:Ak)(g0 g1 g2:Nat):Prop where
 l0:lo<=g0
 l1:lo<=g1
 l2:lo<=g2
 vs:w.heap[g0]?=some (.cells (jO x.vs) 9)
 hs:w.heap[g1]?=some (.cells (jO x.hs) 9)
 r:w.heap[g2]?=some (.cells (zbx x.r.vs) 3)
theorem zkX (x:Ak)(a0 a1 a2:OA)(c0 c1 c2:Nat)(w:World)(hx:jq w x a0 a1 a2)(hf:x.Few) :
 Calls Tryz.prog 198 #[.agg (x.cells a0 a1 a2 c0 c1 c2)] w fun e w'=>∃g0 g1 g2,e=.returned (.agg (x.cells (some (aD g0 0)) (some (aD g1 0)) (some (aD g2 0)) x.vs.length x.hs.length x.r.vs.length))/\zsA w.heap.size w' x g0 g1 g2/\Bw w w':=by
 have HX:Hid (jq w x a0 a1 a2):=hx;have HF:Hid x.Few:=hf;clear hx hf;unfold Ak.cells;go_enter Tryz.func198,Tryz.ntmps198;go_wp2_with fail
 refine(zbh _ _ _ _ (HX.o.vs.mono (below3' _ _ _ _)) HF.o.vs).mono ?_;rintro e w1⟨rfl,rfl⟩;go_wp2_with fail
 refine(zbh _ _ _ _ (HX.o.hs.mono (zkb _ _ _ _ _)) HF.o.hs).mono ?_;rintro e w2⟨rfl,rfl⟩;go_wp2_with fail
 refine(ze7 x.r a2 c2 _ (HX.o.r.mono (zro _ _ _ _ _ _)) HF.o.r).mono ?_;rintro e w3⟨bk,rfl,hlo,hhi,hbk,hb⟩;have hlo':w.heap.size+1+1+1+1+1<=bk:=by simpa using hlo
 have hA:=(hb.block w.heap.size (by simp <;> omega)).trans (zq2 w _ _ _ _ _).1;have hR:=(hb.block (w.heap.size+1) (by simp <;> omega)).trans (zq2 w _ _ _ _ _).2.1;have hO:=(hb.block (w.heap.size+1+1) (by simp <;> omega)).trans (zq2 w _ _ _ _ _).2.2.1;have HV:Hid (w3.heap[w.heap.size+1+1+1]?=_):=(hb.block (w.heap.size+1+1+1) (by simp <;> omega)).trans (zq2 w _ _ _ _ _).2.2.2.1;have HH:Hid (w3.heap[w.heap.size+1+1+1+1]?=_):=(hb.block (w.heap.size+1+1+1+1) (by simp)).trans (zq2 w _ _ _ _ _).2.2.2.2;have HK:Hid (w3.heap[bk]?=some (.cells (zbx x.r.vs) 3)):=hbk;have HB:Hid (Bw w w3):=(zro w _ _ _ _ _).trans (hb.mono (by simp <;> omega));have cA:=fun j=>cell_of_block (o:=j) hA
 have cR:=fun j=>cell_of_block (o:=j) hR
 have fR:=fun j=>zl (o:=j) hR
 have cO:=fun j=>cell_of_block (o:=j) hO
 have fO:=fun j=>zl (o:=j) hO
 have hz1:w.heap.size+1+1<w3.heap.size:=(gES hO).1;clear hb hbk hlo hA hR hO;unfold Rl.cells;go_wp2_with fail
 have n1:bk≠w.heap.size+1:=by omega
 have n2:bk≠w.heap.size+1+1:=by omega
 have n3:w.heap.size+1+1+1≠w.heap.size+1:=by omega
 have n4:w.heap.size+1+1+1≠w.heap.size+1+1:=by omega
 have n5:w.heap.size+1+1+1+1≠w.heap.size+1:=by omega
 have n6:w.heap.size+1+1+1+1≠w.heap.size+1+1:=by omega
 refine bodyPost_ret (v:=.agg #[.s x.who,.i x.vb,.s x.kd,.s x.nm,.s x.tm,.l (some (aD (w.heap.size+1+1+1) 0)) x.vs.length x.vs.length,.l (some (aD (w.heap.size+1+1+1+1) 0)) x.hs.length x.hs.length,.i x.sn,.s x.hd,.s x.to,.l (some (aD bk 0)) x.r.vs.length x.r.vs.length,.s x.r.kd,.s x.r.tm,.s x.r.px,.i x.no]) (by simp[results,Tryz.results198,go_sem,cR]) rfl ⟨_,_,_,rfl,⟨by omega,by omega,by omega,?_,?_,?_⟩,?_⟩
 ·simp only[zG n3,zG n4];exact HV.o
 ·simp only[zG n5,zG n6];exact HH.o
 ·simp only[zG n1,zG n2];exact HK.o
 ·have h3:w.heap.size<=w.heap.size+1:=by omega
  have h4:w.heap.size<=w.heap.size+1+1:=by omega
  have hB:=HB.o
  iterate 15 refine Below.setCell ?_ h3 _
  iterate 5 refine Below.setCell ?_ h4 _
  exact hB
structure Bk where
 now:Int
 tick:Int
 given:Int
 os:List Ob
 gs:List Gr
 ls:List Lg
 ps:List Pu
abbrev bC (b:Bk)(a0 a1 a2 a3:OA)(c0 c1 c2 c3:Nat):AV:=#[.i b.now,.i b.tick,.i b.given,.l a0 b.os.length c0,.l a1 b.gs.length c1,.l a2 b.ls.length c2,.l a3 b.ps.length c3]
abbrev bZ:AV:=#[.i 0,.i 0,.i 0,.l none 0 0,.l none 0 0,.l none 0 0,.l none 0 0]
def Bk.cells (b:Bk)(a0 a1 a2 a3:OA)(c0 c1 c2 c3:Nat):AV:=#[.i b.now,.i b.tick,.i b.given,.l a0 b.os.length c0,.l a1 b.gs.length c1,.l a2 b.ls.length c2,.l a3 b.ps.length c3]
structure jU (w:World)(b:Bk)(a0 a1 a2 a3:OA):Prop where
 os:zcx w a0 b.os
 gs:zbN w a1 b.gs
 ls:zc5 w a2 b.ls
 ps:zdV w a3 b.ps
theorem jU.mono {w w':World}{b:Bk}{a0 a1 a2 a3:OA}(h:jU w b a0 a1 a2 a3)(hb:Bw w w'):jU w' b a0 a1 a2 a3:=⟨h.os.mono hb,h.gs.mono hb,h.ls.mono hb,h.ps.mono hb⟩
def Bk.sz (b:Bk):Nat:=qR b.os+zcy b.gs+zdm b.ls+zdF b.ps
structure Bk.Few (b:Bk):Prop where
 os:b.os.length<=1048576/\∀i (h:i<b.os.length),b.os[i].vs.length<=1048576/\b.os[i].hs.length<=1048576
 gs:b.gs.length<=1048576/\∀i (h:i<b.gs.length),b.gs[i].r.vs.length<=1048576
 ls:b.ls.length<=1048576
 ps:b.ps.length<=1048576
theorem Bk.few {b:Bk}(h:(b.sz:Int)<=1048576):b.Few:=by
 unfold Bk.sz at h;refine⟨zmy (left:=1048576) (by omega) (by omega),zr1 (left:=1048576) (by omega) (by omega),?_,?_⟩
 ·unfold zdm at h;omega
 ·unfold zdF at h;omega
structure Bk.Small (b:Bk):Prop where
 os:zgB b.os
 lo:b.os.length<=maxLen
 gs:zjQ b.gs
 lg:b.gs.length<=maxLen
 ls:∀i (h:i<b.ls.length),b.ls[i].Small
 ll:b.ls.length<=maxLen
 ps:∀i (h:i<b.ps.length),b.ps[i].Small
 lp:b.ps.length<=maxLen
theorem jU.small {w:World}{b:Bk}{a0 a1 a2 a3:OA}(h:jU w b a0 a1 a2 a3):b.Small:=⟨h.os.smalls,h.os.len,h.gs.smalls,h.gs.len,h.ls.small,h.ls.len,h.ps.small,h.ps.len⟩
structure zlN (lo:Nat)(w:World)(b:Bk)(g0 g1 g2 g3:Nat):Prop where
 os:zaM lo w g0 b.os b.os.length
 gs:zax lo w g1 b.gs b.gs.length
 ls:zau lo w g2 b.ls b.ls.length
 ps:zaB lo w g3 b.ps b.ps.length
theorem zlN.above {lo:Nat}{w w':World}{b:Bk}{g0 g1 g2 g3:Nat}(h:zlN lo w b g0 g1 g2 g3)(ha:yw lo w w'):zlN lo w' b g0 g1 g2 g3:=⟨h.os.above ha,h.gs.above ha,h.ls.above ha,h.ps.above ha⟩
theorem zlN.at {lo:Nat}{w:World}{b:Bk}{g0 g1 g2 g3:Nat}(h:zlN lo w b g0 g1 g2 g3)(hs:b.Small):jU w b (some (aD g0 0)) (some (aD g1 0)) (some (aD g2 0)) (some (aD g3 0)):=⟨h.os.at hs.os hs.lo,h.gs.at hs.gs hs.lg,h.ls.at hs.ls hs.ll,h.ps.at hs.ps hs.lp⟩
theorem zc1 (b:Bk)(a0 a1 a2 a3:OA)(c0 c1 c2 c3:Nat)(left:Int)(w:World)(hl:jU w b a0 a1 a2 a3)(h0:0<=left)(h1:left<=1048576) :
 Calls Tryz.prog 5 #[.agg (b.cells a0 a1 a2 a3 c0 c1 c2 c3),.i left] w fun e w'=>e=.returned (.i (zD b.sz left))/\Bw w w':=by
 have HL:Hid (jU w b a0 a1 a2 a3):=hl;clear hl;unfold Bk.cells;go_enter Tryz.func5,Tryz.ntmps5;go_wp2_with fail
 refine(zgL _ _ b.os _ _ (HL.o.os.mono (bAl _ _)) h0 h1).mono ?_;rintro e w1⟨rfl,hb⟩;have hX1:=za (zn w (bC b a0 a1 a2 a3 c0 c1 c2 c3) 32) (by simp) hb;have hz1:w.heap.size<w1.heap.size:=by have:=hb.size;simp at this;omega
 have hB1:Bw w w1:=(bAl _ _).trans (hb.mono (by simp));clear hb
 by_cases q1:(qR b.os:Int)<=left
 rotate_left
 ·have HF:Hid (zD b.sz left=-1):=zq (by unfold Bk.sz;omega)
  rw[zq q1];go_wp2_with fail
  go_ret;exact⟨zk HF.o.symm,hB1⟩
 rw[zF q1];go_wp2_with fail
 refine(zhr _ _ b.gs _ _ (HL.o.gs.mono hB1) (by omega) (by omega)).mono ?_;rintro e w2⟨rfl,hb⟩;have hX2:=za hX1 hz1 hb;have hz2:=nLt hz1 hb.size;have hB2:=hB1.trans (hb.mono hB1.size);clear hb hX1 hz1 hB1
 by_cases q2:(zcy b.gs:Int)<=left-qR b.os
 rotate_left
 ·have HF:Hid (zD b.sz left=-1):=zq (by unfold Bk.sz;omega)
  rw[zq q2];go_wp2_with fail
  go_ret;exact⟨zk HF.o.symm,hB2⟩
 rw[zF q2];go_wp2_with fail
 refine(zgD _ _ b.ls _ _ (HL.o.ls.mono hB2) (by omega) (by omega)).mono ?_;rintro e w3⟨rfl,hb⟩;have hX3:=za hX2 hz2 hb;have hz3:=nLt hz2 hb.size;have hB3:=hB2.trans (hb.mono hB2.size);clear hb hX2 hz2 hB2
 by_cases q3:(zdm b.ls:Int)<=left-qR b.os-zcy b.gs
 rotate_left
 ·have HF:Hid (zD b.sz left=-1):=zq (by unfold Bk.sz;omega)
  rw[zq q3];go_wp2_with fail
  go_ret;exact⟨zk HF.o.symm,hB3⟩
 rw[zF q3];go_wp2_with fail
 refine(zhD _ _ b.ps _ _ (HL.o.ps.mono hB3) (by omega) (by omega)).mono ?_;rintro e w4⟨rfl,hb⟩;have hX4:=za hX3 hz3 hb;have hz4:=nLt hz3 hb.size;have hB4:=hB3.trans (hb.mono hB3.size);clear hb hX3 hz3 hB3
 by_cases q4:(zdF b.ps:Int)<=left-qR b.os-zcy b.gs-zdm b.ls
 rotate_left
 ·have HF:Hid (zD b.sz left=-1):=zq (by unfold Bk.sz;omega)
  rw[zq q4];go_wp2_with fail
  go_ret;exact⟨zk HF.o.symm,hB4⟩
 have HF:Hid (zD b.sz left=left-qR b.os-zcy b.gs-zdm b.ls-zdF b.ps):=by
  unfold Hid;rw[zF (by unfold Bk.sz;omega)];unfold Bk.sz;omega
 rw[zF q4];go_wp2_with fail
 go_ret;exact⟨zk HF.o.symm,hB4⟩
theorem zdl (b:Bk)(a0 a1 a2 a3:OA)(c0 c1 c2 c3:Nat)(a0' a1' a2' a3':OA)(c0' c1' c2' c3':Nat)(w:World)(hl:jU w b a0 a1 a2 a3)(hl':jU w b a0' a1' a2' a3') :
 Calls Tryz.prog 13 #[.agg (b.cells a0 a1 a2 a3 c0 c1 c2 c3),.agg (b.cells a0' a1' a2' a3' c0' c1' c2' c3')] w fun e w'=>e=.returned (.bool true)/\Bw w w':=by
 have HL:Hid (jU w b a0 a1 a2 a3/\jU w b a0' a1' a2' a3'):=⟨hl,hl'⟩
 clear hl hl';have n1:(b.now != b.now)=false:=by simp
 have n2:(b.tick != b.tick)=false:=by simp
 have n3:(b.given != b.given)=false:=by simp
 unfold Bk.cells;go_enter Tryz.func13,Tryz.ntmps13;go_wp2_with fail
 refine(zgT _ _ _ _ b.os _ (HL.o.1.os.mono (zx _ _ _)) (HL.o.2.os.mono (zx _ _ _))).mono ?_;rintro e w1⟨rfl,hb⟩;have hX1:=za (za (zn w _ _) (by simp) (bAl _ _)) (by simp;omega) hb;have hY1:=za (zn (w.alloc (.cells (bC b a0 a1 a2 a3 c0 c1 c2 c3) 51)) (bC b a0' a1' a2' a3' c0' c1' c2' c3') 51) (by simp) hb;have hz1:w.heap.size+1<w1.heap.size:=by have:=hb.size;simp at this;omega
 have hB1:=(zx w _ _).trans (hb.mono (by simp;omega));rw[World.size_alloc]at hY1;clear hb;go_wp2_with fail
 refine(zhO _ _ _ _ b.gs _ (HL.o.1.gs.mono hB1) (HL.o.2.gs.mono hB1)).mono ?_;rintro e w2⟨rfl,hb⟩;have hX2:=za hX1 (nSl hz1) hb;have hY2:=za hY1 hz1 hb;have hz2:=nLt hz1 hb.size;have hB2:=hB1.trans (hb.mono hB1.size);clear hb hX1 hY1 hz1 hB1;go_wp2_with fail
 refine(zgy _ _ _ _ b.ls _ (HL.o.1.ls.mono hB2) (HL.o.2.ls.mono hB2)).mono ?_;rintro e w3⟨rfl,hb⟩;have hX3:=za hX2 (nSl hz2) hb;have hY3:=za hY2 hz2 hb;have hz3:=nLt hz2 hb.size;have hB3:=hB2.trans (hb.mono hB2.size);clear hb hX2 hY2 hz2 hB2;go_wp2_with fail
 refine(zhL _ _ _ _ b.ps _ (HL.o.1.ps.mono hB3) (HL.o.2.ps.mono hB3)).mono ?_;rintro e w4⟨rfl,hb⟩;have hX4:=za hX3 (nSl hz3) hb;have hY4:=za hY3 hz3 hb;have hz4:=nLt hz3 hb.size;have hB4:=hB3.trans (hb.mono hB3.size);clear hb hX3 hY3 hz3 hB3;go_wp2_with fail
 go_ret;exact⟨rfl,hB4⟩
def unused (x:Ak):Bool:=x.kd.toList.isEmpty&&(x.nm.toList.isEmpty&&(x.tm.toList.isEmpty&&(x.hd.toList.isEmpty&&(x.to.toList.isEmpty&&(decide (x.sn=0)&&(decide (x.no=0)&&(decide (x.vs.length=0)&&(decide (x.hs.length=0)&&(decide (x.r.vs.length=0)&&(x.r.kd.toList.isEmpty&&(x.r.tm.toList.isEmpty&&x.r.px.toList.isEmpty)))))))))))
def zgg:Rl:=⟨[],ByteArray.empty,ByteArray.empty,ByteArray.empty⟩
def qE (x:Ak):Ak:=
 if x.vb=1 then { x with kd:=ByteArray.empty,nm:=ByteArray.empty,tm:=ByteArray.empty,vs:=[],hs:=[] }
 else if x.vb=2 then { x with kd:=ByteArray.empty,nm:=ByteArray.empty,vs:=[],sn:=0 }
 else if x.vb=3 then { x with kd:=ByteArray.empty,nm:=ByteArray.empty,sn:=0 }
 else if x.vb=4 then { x with kd:=ByteArray.empty,nm:=ByteArray.empty,hd:=ByteArray.empty }
 else if x.vb=5 then { x with to:=ByteArray.empty,r:=zgg }
 else { x with no:=0 }
def zah (l:Lw)(x:Ak):Bool:=zC l.ss x.kd&&zm x.nm
def zb4 (l:Lw)(x:Ak):Bool:=decide (x.vs.length=(shapeOf l.ss x.kd).fs.length)
def jk (l:Lw)(x:Ak):Bool:=zah l x&&(yD l.ts x.tm&&(zb4 l x&&(decide (x.hs.length<=3)&&asc x.hs)))
def qW (l:Lw)(x:Ak):Bool:=zah l x&&(zb4 l x&&decide (0<=x.sn))
def zbQ (l:Lw)(x:Ak):Bool:=zah l x&&decide (0<=x.sn)
def zai (l:Lw)(x:Ak):Bool:=zah l x&&zm x.hd
def zaz (x:Ak):Bool:=zm x.to&&zQ x.r
def zcN (x:Ak):Bool:=decide (1<=x.no)
def zsv (l:Lw)(x:Ak):Bool:=
 if x.vb=1 then jk l x
 else if x.vb=2 then qW l x
 else if x.vb=3 then zbQ l x
 else if x.vb=4 then zai l x
 else if x.vb=5 then zaz x
 else zcN x
def zbd (l:Lw)(x:Ak):Bool:=(zm x.who&&within x.vb 1 6)&&(zsv l x&&unused (qE x))
def isSet (s:BA):Bool:=!s.toList.isEmpty
def zS (m:Mnd):List BA:=[m.wh,m.fr].filter isSet
def turns (m:Mnd)(s:Shp)(p:Nat):Bool:=decide (m.kd=s.kd)&&decide (m.fd=(s.fs.getD p zb7).nm)
set_option maxRecDepth 20000 in
theorem zfZ (m:Mnd)(w:World) :
 Calls Tryz.prog 206 #[.agg m.cells] w fun e w'=>∃v,e=.returned v/\w'.ownsRow w.heap.size 9 1 v (zS m).length ((zS m).map Value.string)/\Bw w w':=by
 unfold Mnd.cells;obtain⟨i0,hi,hz0,hz1',hz2⟩:=info_parts Tryz.zdi;go_enter Tryz.func206,Tryz.ntmps206;go_wp2_with fail
 go_loopw [3,12] (fun nv0 iv wr=>∃(k:Nat) (nv:Value),nv=nv0/\k<=2/\iv=.i k/\wr.ownsRow (w.heap.size+2) 9 1 nv (([m.wh,m.fr].take k).filter isSet).length ((([m.wh,m.fr].take k).filter isSet).map Value.string)/\wr.heap[w.heap.size+1]?=some (.cells #[.s m.wh,.s m.fr] 9)/\Bw w wr) (fun _ iv _=>2-(intOf iv).toNat)
 case atStart=>exact⟨0,_,rfl,by omega,rfl,World.ownsRow_nil _ _ _ _,(yt _ _ _).2,zx _ _ _⟩
 case round=>
  obtain⟨k,nv,hnv,hk,rfl,hown,hlit,hB⟩:=hrel;subst hnv
  by_cases hlt:k<2
  ·have hltI:(k:Int)<2:=by omega
   obtain⟨x,hx,HT⟩:∃x,(#[.s m.wh,.s m.fr]:AV)[k]?=some (.s x)/\Hid (([m.wh,m.fr].take (k+1)).filter isSet=([m.wh,m.fr].take k).filter isSet++if isSet x=true then [x] else []):=by
    rcases k with _|_|k
    ·refine⟨m.wh,rfl,?_⟩
     by_cases h:isSet m.wh=true <;> simp[Hid,h]
    ·refine⟨m.fr,rfl,?_⟩
     by_cases h:isSet m.fr=true <;> by_cases h':isSet m.wh=true <;> simp[Hid,h,h']
    ·omega
   have hcx:wr.cell? (aD (w.heap.size+1) k)=some (.s x):=by rw[cell_of_block hlit];exact hx
   have hlen:(([m.wh,m.fr].take k).filter isSet).length<=2:=Nat.le_trans (List.length_filter_le _ _) (by simp;omega);have HB:=zcl hlit hB ((gES hlit).1);have HW:=hid hown;clear hlit hB hx hown
   by_cases hs:x.toList.isEmpty=true
   ·have HE:Hid (isSet x=false):=by unfold Hid isSet;rw[hs];rfl
    go_wp2_with fail
    have HT':([m.wh,m.fr].take (k+1)).filter isSet=([m.wh,m.fr].take k).filter isSet:=by rw[HT.o,HE.o];simp
    exact⟨⟨k+1,_,rfl,by omega,by go_num,by rw[HT'];exact HW.o,HB.o.1,HB.o.2.1⟩,zw hlt⟩
   ·have hs':x.toList.isEmpty=false:=by simpa using hs
    have HE:Hid (isSet x=true):=by unfold Hid isSet;rw[hs'];rfl
    clear hs
    go_wp2_with (at_builtin;refine wpList_append_own _ rfl (.tmp 18) (.tmp 20) 110 rfl (w.heap.size+2) 9 i0 (.s ByteArray.empty) 1 16 Tryz.underlying110 hi hz0 hz1' hz2 rfl (by decide) _ _ _ rfl (HW.o.alloc _) (aD wr.heap.size 0) 1 1 [.s x] rfl rfl (zfl _ _ _) (by intro u hu;simp at hu;subst hu;rfl) (by unfold maxLen;omega) (by omega) (by have:=HB.o.2.2;simp;omega) ?_;intro v' w1 hown' hgr _)
    have HT':([m.wh,m.fr].take (k+1)).filter isSet=([m.wh,m.fr].take k).filter isSet++[x]:=by rw[HT.o,HE.o];simp
    have hgb:∀g,nv.ownBlock=some g->w.heap.size+2<=g:=fun g hg=>(HW.o.lt g hg).1
    refine⟨⟨k+1,_,rfl,by omega,by go_num,?_,?_,zdA HB.o.2.1 HB.o.2.1.size hgr (fun g hg=>by have:=hgb g hg;omega)⟩,zw hlt⟩
    ·rw[HT',List.length_append,List.map_append];exact hown'
    ·rw[za4 hgr (by have:=HB.o.2.2;simp;omega) (fun g hg=>by have:=hgb g hg;omega),Below.heap_alloc _ _ _ HB.o.2.2];exact HB.o.1
  ·have e:k=2:=by omega
   subst e;have HF:Hid (wr.ownsRow w.heap.size 9 1 nv (zS m).length ((zS m).map Value.string)/\Bw w wr):=⟨zdw hown (by omega),hB⟩
   clear hown hlit hB;go_wp2_with fail
   go_ret;exact⟨nv,rfl,HF.o⟩
theorem zlY (m:Mnd)(s:Shp)(fa:OA)(fcap p:Nat)(w:World)(hf:yj w fa s.fs)(hp:p<s.fs.length) :
 Calls Tryz.prog 211 #[.agg m.cells,.agg #[.s s.kd,.l fa s.fs.length fcap],.i p] w fun e w'=>e=.returned (.bool (turns m s p))/\Bw w w':=by
 unfold Mnd.cells;have hB:∀o1 o2,Bw w ((w.alloc o1).alloc o2):=fun o1 o2=>zx w o1 o2
 have hl:=hf.len;unfold maxLen at hl;obtain⟨b,off,rfl,hb,hr⟩:=hf.rows (by intro e;rw[e]at hp;simp at hp);obtain⟨wa,wcap,hf0⟩:=hr p hp;obtain⟨c0,c1,c2,c3,c4,c5,c6,c7,c8,c9,c10⟩:=hf0.load;have hpI:(p:Int)<(s.fs.length:Int):=by omega
 have HD:Hid ((s.fs.getD p zb7).nm=s.fs[p].nm):=by unfold Hid;rw[getD_at _ _ _ hp]
 clear hf hr hf0 c1 c2 c3 c4 c5 c6 c7 c8 c9 c10
 by_cases h1:m.kd=s.kd
 ·by_cases h2:m.fd=s.fs[p].nm
  ·have HR:Hid (turns m s p=true):=by unfold Hid turns;rw[HD.o];simp[h1,h2]
   have hq:(m.kd.toList == s.kd.toList)=true:=by rw[beq_toList];simpa using h1
   have hr:(m.fd.toList == s.fs[p].nm.toList)=true:=by rw[beq_toList];simpa using h2
   clear h1 h2;go_enter Tryz.func211,Tryz.ntmps211;go_wp2_with fail
   go_quiet (fail)
   go_wp2_with fail
   go_ret;exact⟨by rw[HR.o];rfl,below_drewN (hB _ _) _⟩
  ·have HR:Hid (turns m s p=false):=by unfold Hid turns;rw[HD.o];simp[h1,h2]
   have hq:(m.kd.toList == s.kd.toList)=true:=by rw[beq_toList];simpa using h1
   have hr:(m.fd.toList == s.fs[p].nm.toList)=false:=by rw[beq_toList];simpa using h2
   clear h1 h2;go_enter Tryz.func211,Tryz.ntmps211;go_wp2_with fail
   go_quiet (fail)
   go_wp2_with fail
   go_ret;exact⟨by rw[HR.o];rfl,below_drewN (hB _ _) _⟩
 ·have HR:Hid (turns m s p=false):=by unfold Hid turns;rw[HD.o];simp[h1]
  have hq:(m.kd.toList == s.kd.toList)=false:=by rw[beq_toList];simpa using h1
  clear h1;go_enter Tryz.func211,Tryz.ntmps211;go_wp2_with fail
  go_quiet (fail)
  go_wp2_with fail
  go_ret;exact⟨by rw[HR.o];rfl,below_drewN (hB _ _) _⟩
end Go.Proofs.YthdfpinbnncghaaGreat
