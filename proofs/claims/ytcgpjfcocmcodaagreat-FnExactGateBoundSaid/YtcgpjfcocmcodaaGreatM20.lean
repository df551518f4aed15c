import Derived.Test.YtcgpjfcocmcodaaGreatM14
import Derived.Test.YtcgpjfcocmcodaaGreatM16
import Derived.Laws.IdiomStrings
set_option maxHeartbeats 4000000
namespace Go.Proofs.YtcgpjfcocmcodaaGreat
open Go.RowKit
def zmF (a:OA)(ws:List BA):Prop:=(a=none/\ws=[]) \/ ∃b off,a=some (aD b off)
theorem zn.zrK {lo:Nat}{w:World}{a:OA}{ws:List BA}(h:zn lo w a ws):zmF a ws:=by
 rcases h with⟨h0,h1⟩|⟨g,C,h0,_⟩
 ·exact Or.inl ⟨h0,h1⟩
 ·exact Or.inr ⟨g,0,h0⟩
theorem ze0 (cap:Nat)(w:World) :
 Calls Tryz.prog 139 #[.l none 0 cap] w fun e w'=>∃v,e=.returned v/\w'.ownsRow w.heap.size 9 1 v 0 []/\Bw w w':=by
 go_enter Tryz.func139,Tryz.ntmps139;go_wp2_with fail
 go_ret;exact⟨_,rfl,World.ownsRow_nil _ _ _ _,bRf _ _⟩
theorem zfW (a:OA)(cap:Nat)(ws:List BA)(w:World)(hw:zG w a ws)(hA:zmF a ws)(hl:ws.length<=1048576) :
 Calls Tryz.prog 139 #[.l a ws.length cap] w
  fun e w'=>∃v,e=.returned v/\w'.ownsRow w.heap.size 9 1 v ws.length (ws.map Value.string)/\Bw w w':=by
 rcases hA with⟨rfl,rfl⟩|⟨b,off,rfl⟩
 ·exact ze0 cap w
 ·exact zfN b off cap ws w hw hl
theorem zjt (o:Ob)(va ha:OA)(cap cap':Nat)(w:World)(ho:jU w o va ha)(hA:zmF va o.vs)(hA':zmF ha o.hs)(hl:o.vs.length<=1048576)(hl':o.hs.length<=1048576) :
 Calls Tryz.prog 89 #[.agg #[.s o.kd,.s o.nm,.s o.tm,.l va o.vs.length cap,.bool o.en,.l ha o.hs.length cap',.i o.vr]] w
  fun e w'=>∃a dap a' dap' m,e=.returned (.agg #[.s o.kd,.s o.nm,.s o.tm,.l a o.vs.length dap,.bool o.en,.l a' o.hs.length dap',.i o.vr])/\zn w.heap.size w' a o.vs/\(∀g,a=some g->g.block<m)/\w.heap.size<=m/\zn m w' a' o.hs/\Bw w w':=by
 go_enter Tryz.func89,Tryz.ntmps89;go_wp2_with fail
 refine(zfW _ _ _ _ (ho.vals.mono (zw _ _ _)) hA hl).mono ?_;rintro e w1⟨v,rfl,hown1,hb1⟩;obtain⟨a,dap,rfl,ht1⟩:=zn.zdq hown1;have hk1:=(hb1.block w.heap.size (by simp;omega)).trans (zQ _ _ _).1;have hr1:=(hb1.block (w.heap.size+1) (by simp)).trans (zQ _ _ _).2;have HT:Hid (zn (w.heap.size+1+1) w1 a o.vs):=by unfold Hid;simpa using ht1
 have hz1:w.heap.size+1<w1.heap.size:=by have:=hb1.size;simp at this;omega
 have hB1:=(zw _ _ _).trans (hb1.mono (by simp;omega));have HK:=hid hk1;have HRR:=hid hr1;have hX1:∀j,w1.cell? (aD w.heap.size j)=((oC o va ha cap cap'):AV)[j]?:=fun j=>cell_of_block hk1
 have hF1:∀j,w1.frozen? (aD w.heap.size j)=false:=fun j=>zh hk1
 clear hb1 hown1 ht1 hk1 hr1;go_wp2_with fail
 have hB1':=hB1.setCell (p:=(aD w.heap.size 3)) (Nat.le_refl _) (.l a o.vs.length dap);refine(zfW _ _ _ _ (ho.holds.mono hB1') hA' hl').mono ?_;rintro e w2⟨v,rfl,hown2,hb2⟩;obtain⟨a',dap',rfl,ht2⟩:=zn.zdq hown2;have hk2:=(hb2.block w.heap.size (by simp[World.setCell];omega)).trans (zi HK.o _);have hr2:=(hb2.block (w.heap.size+1) (by simp[World.setCell];omega)).trans ((Below.heap_setCell _ _ _ _ (by simp)).trans HRR.o);have HT2:=hid ((HT.o.setCell _ (by simp;omega) _).mono hb2);have HU2:Hid (zn w1.heap.size w2 a' o.hs):=by unfold Hid;simpa[World.setCell] using ht2
 have HM:Hid (∀g,a=some g->g.block<w1.heap.size):=by
  intro g hg
  rcases HT.o with⟨h0,_⟩|⟨g',C,h0,_,hh,_⟩
  ·rw[h0]at hg;cases hg
  ·rw[h0]at hg;cases hg;exact(gES hh).1
 have hz2:w.heap.size+1<w2.heap.size:=by have:=hb2.size;simp[World.setCell]at this;omega
 have hB2:=hB1'.trans (hb2.mono hB1'.size);have hX2:∀j,w2.cell? (aD w.heap.size j)=((oC o a ha dap cap'):AV)[j]?:=fun j=>cell_of_block hk2
 have hF2:∀j,w2.frozen? (aD w.heap.size j)=false:=fun j=>zh hk2
 have hY2:∀j,w2.cell? (aD (w.heap.size+1) j)=(oZ:AV)[j]?:=fun j=>cell_of_block hr2
 have hG2:∀j,w2.frozen? (aD (w.heap.size+1) j)=false:=fun j=>zh hr2
 have hzz:w.heap.size<=w1.heap.size:=by omega
 clear hb2 hown2 ht2 hX1 hF1 hB1 hB1' hk2 hr2;go_wp2_with fail
 refine bodyPost_ret (v:=(.agg #[.s o.kd,.s o.nm,.s o.tm,.l a o.vs.length dap,.bool o.en,.l a' o.hs.length dap',.i o.vr])) (by simp[results,Tryz.results89,go_sem,hY2]) rfl ⟨a,dap,a',dap',w1.heap.size,rfl,((((((((HT2.o.setCell _ (by simp;omega) _).setCell _ (by simp) _).setCell _ (by simp) _).setCell _ (by simp) _).setCell _ (by simp) _).setCell _ (by simp) _).setCell _ (by simp) _).setCell _ (by simp) _).low (by omega),HM.o,hzz,((((((((HU2.o.setCell _ (by simp;omega) _).setCell _ (by simp;omega) _).setCell _ (by simp;omega) _).setCell _ (by simp;omega) _).setCell _ (by simp;omega) _).setCell _ (by simp;omega) _).setCell _ (by simp;omega) _).setCell _ (by simp;omega) _),((((((((hB2.setCell (Nat.le_refl _) _).setCell (by simp) _).setCell (by simp) _).setCell (by simp) _).setCell (by simp) _).setCell (by simp) _).setCell (by simp) _).setCell (by simp) _)⟩
structure Bk where
 now:Int
 tick:Int
 given:Int
 os:List Ob
 gs:List Gr
 ls:List Lg
 ps:List Pu
abbrev bC (b:Bk)(a0 a1 a2 a3:OA)(c0 c1 c2 c3:Nat):AV:=#[.i b.now,.i b.tick,.i b.given,.l a0 b.os.length c0,.l a1 b.gs.length c1,.l a2 b.ls.length c2,.l a3 b.ps.length c3]
abbrev bZ:AV:=#[.i 0,.i 0,.i 0,.l none 0 0,.l none 0 0,.l none 0 0,.l none 0 0]
def Bk.cells (b:Bk)(a0 a1 a2 a3:OA)(c0 c1 c2 c3:Nat):AV:=#[.i b.now,.i b.tick,.i b.given,.l a0 b.os.length c0,.l a1 b.gs.length c1,.l a2 b.ls.length c2,.l a3 b.ps.length c3]
structure ji (w:World)(b:Bk)(a0 a1 a2 a3:OA):Prop where
 os:zbG w a0 b.os
 gs:zcj w a1 b.gs
 ls:zbn w a2 b.ls
 ps:zce w a3 b.ps
theorem ji.mono {w w':World}{b:Bk}{a0 a1 a2 a3:OA}(h:ji w b a0 a1 a2 a3)(hb:Bw w w'):ji w' b a0 a1 a2 a3:=⟨h.os.mono hb,h.gs.mono hb,h.ls.mono hb,h.ps.mono hb⟩
def Bk.sz (b:Bk):Nat:=qH b.os+zch b.gs+zcQ b.ls+zdp b.ps
structure Bk.Few (b:Bk):Prop where
 os:b.os.length<=1048576/\∀i (h:i<b.os.length),b.os[i].vs.length<=1048576/\b.os[i].hs.length<=1048576
 gs:b.gs.length<=1048576/\∀i (h:i<b.gs.length),b.gs[i].r.vs.length<=1048576
 ls:b.ls.length<=1048576
 ps:b.ps.length<=1048576
theorem Bk.few {b:Bk}(h:(b.sz:Int)<=1048576):b.Few:=by
 unfold Bk.sz at h;refine⟨zmi (left:=1048576) (by omega) (by omega),zrs (left:=1048576) (by omega) (by omega),?_,?_⟩
 ·unfold zcQ at h;omega
 ·unfold zdp at h;omega
structure Bk.Small (b:Bk):Prop where
 os:zfb b.os
 lo:b.os.length<=maxLen
 gs:zha b.gs
 lg:b.gs.length<=maxLen
 ls:∀i (h:i<b.ls.length),b.ls[i].Small
 ll:b.ls.length<=maxLen
 ps:∀i (h:i<b.ps.length),b.ps[i].Small
 lp:b.ps.length<=maxLen
theorem ji.small {w:World}{b:Bk}{a0 a1 a2 a3:OA}(h:ji w b a0 a1 a2 a3):b.Small:=⟨h.os.smalls,h.os.len,h.gs.smalls,h.gs.len,h.ls.small,h.ls.len,h.ps.small,h.ps.len⟩
structure zmU (lo:Nat)(w:World)(b:Bk)(g0 g1 g2 g3:Nat):Prop where
 os:zah lo w g0 b.os b.os.length
 gs:j5 lo w g1 b.gs b.gs.length
 ls:zac lo w g2 b.ls b.ls.length
 ps:zaa lo w g3 b.ps b.ps.length
theorem zmU.at {lo:Nat}{w:World}{b:Bk}{g0 g1 g2 g3:Nat}(h:zmU lo w b g0 g1 g2 g3)(hs:b.Small):ji w b (some (aD g0 0)) (some (aD g1 0)) (some (aD g2 0)) (some (aD g3 0)):=⟨h.os.at hs.os hs.lo,h.gs.at hs.gs hs.lg,h.ls.at hs.ls hs.ll,h.ps.at hs.ps hs.lp⟩
theorem zjx (b:Bk)(a0 a1 a2 a3:OA)(c0 c1 c2 c3:Nat)(left:Int)(w:World)(hl:ji w b a0 a1 a2 a3)(h0:0<=left)(h1:left<=1048576) :
 Calls Tryz.prog 5 #[.agg (b.cells a0 a1 a2 a3 c0 c1 c2 c3),.i left] w fun e w'=>e=.returned (.i (zL b.sz left))/\Bw w w':=by
 have HL:Hid (ji w b a0 a1 a2 a3):=hl;clear hl;unfold Bk.cells;go_enter Tryz.func5,Tryz.ntmps5;go_wp2_with fail
 refine(zgW _ _ b.os _ _ (HL.o.os.mono (bAl _ _)) h0 h1).mono ?_;rintro e w1⟨rfl,hb⟩;have hX1:=za (zl w (bC b a0 a1 a2 a3 c0 c1 c2 c3) 32) (by simp) hb;have hz1:w.heap.size<w1.heap.size:=by have:=hb.size;simp at this;omega
 have hB1:Bw w w1:=(bAl _ _).trans (hb.mono (by simp));clear hb
 by_cases q1:(qH b.os:Int)<=left
 rotate_left
 ·have HF:Hid (zL b.sz left=-1):=zC (by unfold Bk.sz;omega)
  rw[zC q1];go_wp2_with fail
  go_ret;exact⟨zo HF.o.symm,hB1⟩
 rw[zM q1];go_wp2_with fail
 refine(zhX _ _ b.gs _ _ (HL.o.gs.mono hB1) (by omega) (by omega)).mono ?_;rintro e w2⟨rfl,hb⟩;have hX2:=za hX1 hz1 hb;have hz2:=nLt hz1 hb.size;have hB2:=hB1.trans (hb.mono hB1.size);clear hb hX1 hz1 hB1
 by_cases q2:(zch b.gs:Int)<=left-qH b.os
 rotate_left
 ·have HF:Hid (zL b.sz left=-1):=zC (by unfold Bk.sz;omega)
  rw[zC q2];go_wp2_with fail
  go_ret;exact⟨zo HF.o.symm,hB2⟩
 rw[zM q2];go_wp2_with fail
 refine(zgl _ _ b.ls _ _ (HL.o.ls.mono hB2) (by omega) (by omega)).mono ?_;rintro e w3⟨rfl,hb⟩;have hX3:=za hX2 hz2 hb;have hz3:=nLt hz2 hb.size;have hB3:=hB2.trans (hb.mono hB2.size);clear hb hX2 hz2 hB2
 by_cases q3:(zcQ b.ls:Int)<=left-qH b.os-zch b.gs
 rotate_left
 ·have HF:Hid (zL b.sz left=-1):=zC (by unfold Bk.sz;omega)
  rw[zC q3];go_wp2_with fail
  go_ret;exact⟨zo HF.o.symm,hB3⟩
 rw[zM q3];go_wp2_with fail
 refine(zhP _ _ b.ps _ _ (HL.o.ps.mono hB3) (by omega) (by omega)).mono ?_;rintro e w4⟨rfl,hb⟩;have hX4:=za hX3 hz3 hb;have hz4:=nLt hz3 hb.size;have hB4:=hB3.trans (hb.mono hB3.size);clear hb hX3 hz3 hB3
 by_cases q4:(zdp b.ps:Int)<=left-qH b.os-zch b.gs-zcQ b.ls
 rotate_left
 ·have HF:Hid (zL b.sz left=-1):=zC (by unfold Bk.sz;omega)
  rw[zC q4];go_wp2_with fail
  go_ret;exact⟨zo HF.o.symm,hB4⟩
 have HF:Hid (zL b.sz left=left-qH b.os-zch b.gs-zcQ b.ls-zdp b.ps):=by
  unfold Hid;rw[zM (by unfold Bk.sz;omega)];unfold Bk.sz;omega
 rw[zM q4];go_wp2_with fail
 go_ret;exact⟨zo HF.o.symm,hB4⟩
theorem zbA (b:Bk)(a0 a1 a2 a3:OA)(c0 c1 c2 c3:Nat)(a0' a1' a2' a3':OA)(c0' c1' c2' c3':Nat)(w:World)(hl:ji w b a0 a1 a2 a3)(hl':ji w b a0' a1' a2' a3') :
 Calls Tryz.prog 10 #[.agg (b.cells a0 a1 a2 a3 c0 c1 c2 c3),.agg (b.cells a0' a1' a2' a3' c0' c1' c2' c3')] w fun e w'=>e=.returned (.bool true)/\Bw w w':=by
 have HL:Hid (ji w b a0 a1 a2 a3/\ji w b a0' a1' a2' a3'):=⟨hl,hl'⟩
 clear hl hl';have n1:(b.now != b.now)=false:=by simp
 have n2:(b.tick != b.tick)=false:=by simp
 have n3:(b.given != b.given)=false:=by simp
 unfold Bk.cells;go_enter Tryz.func10,Tryz.ntmps10;go_wp2_with fail
 refine(zgy _ _ _ _ b.os _ (HL.o.1.os.mono (zw _ _ _)) (HL.o.2.os.mono (zw _ _ _))).mono ?_;rintro e w1⟨rfl,hb⟩;have hX1:=za (za (zl w _ _) (by simp) (bAl _ _)) (by simp;omega) hb;have hY1:=za (zl (w.alloc (.cells (bC b a0 a1 a2 a3 c0 c1 c2 c3) 40)) (bC b a0' a1' a2' a3' c0' c1' c2' c3') 40) (by simp) hb;have hz1:w.heap.size+1<w1.heap.size:=by have:=hb.size;simp at this;omega
 have hB1:=(zw w _ _).trans (hb.mono (by simp;omega));rw[World.size_alloc]at hY1;clear hb;go_wp2_with fail
 refine(zhI _ _ _ _ b.gs _ (HL.o.1.gs.mono hB1) (HL.o.2.gs.mono hB1)).mono ?_;rintro e w2⟨rfl,hb⟩;have hX2:=za hX1 (nSl hz1) hb;have hY2:=za hY1 hz1 hb;have hz2:=nLt hz1 hb.size;have hB2:=hB1.trans (hb.mono hB1.size);clear hb hX1 hY1 hz1 hB1;go_wp2_with fail
 refine(zgv _ _ _ _ b.ls _ (HL.o.1.ls.mono hB2) (HL.o.2.ls.mono hB2)).mono ?_;rintro e w3⟨rfl,hb⟩;have hX3:=za hX2 (nSl hz2) hb;have hY3:=za hY2 hz2 hb;have hz3:=nLt hz2 hb.size;have hB3:=hB2.trans (hb.mono hB2.size);clear hb hX2 hY2 hz2 hB2;go_wp2_with fail
 refine(zhh _ _ _ _ b.ps _ (HL.o.1.ps.mono hB3) (HL.o.2.ps.mono hB3)).mono ?_;rintro e w4⟨rfl,hb⟩;have hX4:=za hX3 (nSl hz3) hb;have hY4:=za hY3 hz3 hb;have hz4:=nLt hz3 hb.size;have hB4:=hB3.trans (hb.mono hB3.size);clear hb hX3 hY3 hz3 hB3;go_wp2_with fail
 go_ret;exact⟨rfl,hB4⟩
theorem zkH {p:Prop}(h:p):Hid p:=h
theorem qX (w:World)(X Y:AV)(s t:TypeId):(∀j,((w.alloc (.cells X s)).alloc (.cells Y t)).cell? (aD w.heap.size j)=X[j]?)/\∀j,((w.alloc (.cells X s)).alloc (.cells Y t)).cell? (aD (w.heap.size+1) j)=Y[j]?:=by
 refine⟨za (zl w X s) (by simp) (bAl _ _),fun j=>?_⟩;have h:=zl (w.alloc (.cells X s)) Y t j;rw[World.size_alloc]at h;exact h
theorem zk4 (l:Lw)(la lb lc:OA)(lca lcb lcc:Nat)(o:Ob)(oa oa':OA)(ocap ocap':Nat)(res:BA)(w:World)(hl:jA w l la lb lc)(_ho:jU w o oa oa')(hc:¬(zB l.ss o=true/\res.toList.isEmpty=false)) :
 Calls Tryz.prog 99 #[.agg (l.cells la lb lc lca lcb lcc),.agg #[.s o.kd,.s o.nm,.s o.tm,.l oa o.vs.length ocap,.bool o.en,.l oa' o.hs.length ocap',.i o.vr],.s res] w fun e w'=>e=.returned (.i (qW l.ss o res))/\Bw w w':=by
 have HL:=hid hl;have HW:Hid (qW l.ss o res=0):=by unfold Hid qW;rw[if_neg hc]
 have HC:=hid hc;clear hl hc;unfold Lw.cells;go_enter Tryz.func99,Tryz.ntmps99;go_wp2_with fail
 refine(qJ _ _ l.ss o.kd _ (HL.o.ss.mono (zw _ _ _))).mono ?_;rintro e w1⟨fa,fcap,rfl,hfl,hb⟩;obtain⟨hX0,hY0⟩:=qX w #[.l la l.ss.length lca,.l lb l.ms.length lcb,.l lc l.ts.length lcc] (oC o oa oa' ocap ocap') 47 121;have hX1:=za hX0 (by simp;omega) hb;have hY1:=za hY0 (by simp) hb;have hz1:w.heap.size+1<w1.heap.size:=by have:=hb.size;simp at this;omega
 have HB1:Hid (Bw w w1):=(zw w _ _).trans (hb.mono (by simp;omega));clear hfl hb hX0 hY0
 by_cases hk:zJ l.ss o.kd=true
 rotate_left
 ·have hk':zJ l.ss o.kd=false:=by simpa using hk
  rw[hk'];clear hk hk';go_wp2_with fail
  go_ret;exact⟨zo HW.o.symm,HB1.o.alloc HB1.o.size _⟩
 by_cases he:res.toList.isEmpty=true
 ·have HK:=hid hk
  rw[HK.o];clear hk;go_wp2_with fail
  go_ret;exact⟨zo HW.o.symm,HB1.o.alloc HB1.o.size _⟩
 ·have he':res.toList.isEmpty=false:=by simpa using he
  have hne:((o.vs.length:Int) != ((shapeOf l.ss o.kd).fs.length:Int))=true:=by
   have h:=HC.o;unfold zB at h;rw[hk]at h;simp only[Bool.true_and,decide_eq_true_eq]at h;have h2:¬o.vs.length=(shapeOf l.ss o.kd).fs.length:=fun e=>h ⟨e,he'⟩
   simp;omega
  have HK:=hid hk;rw[HK.o];clear he hk;go_wp2_with fail
  go_ret;exact⟨zo HW.o.symm,HB1.o.alloc HB1.o.size _⟩
theorem zkv (l:Lw)(la lb lc:OA)(lca lcb lcc:Nat)(o:Ob)(oa oa':OA)(ocap ocap':Nat)(res:BA)(w:World)(hl:jA w l la lb lc)(ho:jU w o oa oa')(hc:zB l.ss o=true)(he:res.toList.isEmpty=false)(hlen:o.vs.length<=1048576) :
 Calls Tryz.prog 99 #[.agg (l.cells la lb lc lca lcb lcc),.agg #[.s o.kd,.s o.nm,.s o.tm,.l oa o.vs.length ocap,.bool o.en,.l oa' o.hs.length ocap',.i o.vr],.s res] w fun e w'=>e=.returned (.i (qW l.ss o res))/\Bw w w':=by
 have HL:=hid hl;have HO:=hid ho;have HW:Hid (qW l.ss o res=(if res=o.kd then 1 else 0)+zd8 (shapeOf l.ss o.kd).fs o.vs res (shapeOf l.ss o.kd).fs.length):=by unfold Hid qW;rw[if_pos ⟨hc,he⟩]
 have HK:Hid (zJ l.ss o.kd=true/\o.vs.length=(shapeOf l.ss o.kd).fs.length):=by unfold zB at hc;unfold Hid;simpa using hc
 have HN:=hid hlen;clear hl ho hc hlen;unfold Lw.cells;go_enter Tryz.func99,Tryz.ntmps99;go_wp2_with fail
 refine(qJ _ _ l.ss o.kd _ (HL.o.ss.mono (zw _ _ _))).mono ?_;rintro e w1⟨fa,fcap,rfl,hfl,hb⟩;obtain⟨hX0,hY0⟩:=qX w #[.l la l.ss.length lca,.l lb l.ms.length lcb,.l lc l.ts.length lcc] (oC o oa oa' ocap ocap') 47 121;have hY1:=za hY0 (by simp) hb;have hz1:w.heap.size+1<w1.heap.size:=by have:=hb.size;simp at this;omega
 have HB1:Hid (Bw w w1):=(zw w _ _).trans (hb.mono (by simp;omega));have HFl:=hid (hfl.mono hb);clear hfl hb hX0 hY0;rw[HK.o.1];obtain⟨S,HS⟩:∃S,Hid (S=shapeOf l.ss o.kd):=⟨_,rfl⟩
 rw[<- HS.o]at HFl HK HW ⊢;have hne:((o.vs.length:Int) != (S.fs.length:Int))=false:=by have:=HK.o.2;simp[this]
 obtain⟨n0,hn0⟩:∃n0:Int,n0=if res=o.kd then 1 else 0:=⟨_,rfl⟩
 have hb0:0<=n0/\n0<=1:=by rw[hn0];split <;> omega
 rw[<- hn0]at HW;have HN0:=hid hn0;clear hn0
 by_cases hk:res=o.kd
 all_goals (
  first
  | (have hq:(res.toList == o.kd.toList)=true:=by rw[beq_toList];simpa using hk)
  | (have hq:(res.toList == o.kd.toList)=false:=by rw[beq_toList];simpa using hk)
  have HKE:=zkH hk;clear hk;go_wp2_with fail
  go_loopw [9,44] (fun nv iv wr=>∃(k:Nat) (s:Int),k<=S.fs.length/\iv=.i k/\nv=.i s/\Hid (s=n0+zd8 S.fs o.vs res k/\Bw w1 wr)) (fun _ iv _=>S.fs.length-(intOf iv).toNat)
  case atStart=>exact⟨0,n0,Nat.zero_le _,rfl,by have:=HN0.o;first|(rw[if_pos HKE.o]at this;rw[this])|(rw[if_neg HKE.o]at this;rw[this]),by simp[zd8],bAl _ _⟩
  case round=>
   obtain⟨k,s,hk,rfl,rfl,HQ⟩:=hrel;have hsb:0<=s/\s<=1+k*10000000:=by have h1:=HQ.o.1;have h2:=zcO S.fs o.vs res k;omega
   have hkn:k<=1048576:=by have:=HN.o;have:=HK.o.2;omega
   by_cases hlt:k<S.fs.length
   ·obtain⟨b,off,rfl,hb,hr⟩:=HFl.o.rows (by intro e;rw[e]at hlt;simp at hlt)
    obtain⟨wa,wcap,hf⟩:=hr k hlt;obtain⟨c0,c1,c2,c3,c4,c5,c6,c7,c8,c9,c10⟩:=(hf.mono hb HQ.o.2).load;have hlv:k<o.vs.length:=by have:=HK.o.2;omega
    have hltI:(k:Int)<(S.fs.length:Int):=by omega
    have hlvI:(k:Int)<(o.vs.length:Int):=by omega
    obtain⟨vb,voff,rfl,hvb,hvc0⟩:=HO.o.vals.cells (by intro e;rw[e]at hlv;simp at hlv);have hvc:=((HB1.o.trans (HQ.o.2.mono HB1.o.size)).cell (p:=(aD vb (voff+k))) hvb).trans (hvc0 k hlv);have hvb':=nLt hvb (HB1.o.trans (HQ.o.2.mono HB1.o.size)).size;have hb':=nLt hb HQ.o.2.size;have hY:=za hY1 hz1 HQ.o.2;have hz:=nLt hz1 HQ.o.2.size;have HSt:=zpq S.fs o.vs res k hlt hlv;have HSt:Hid (zd8 S.fs o.vs res (k+1)=zd8 S.fs o.vs res k+yK S.fs[k] o.vs[k] res):=HSt;have HVs:Hid (o.vs[k].size<=maxLen):=HO.o.vals.small _ (List.getElem_mem _);have HBo:Hid (∀ob,Bw w1 (wr.alloc ob)):=fun ob=>HQ.o.2.alloc HQ.o.2.size _
    clear hf hr hvc0
    by_cases h1:S.fs[k].kd=1
    ·have e1:(S.fs[k].kd == 1)=true:=by simpa using h1
     by_cases h2:S.fs[k].wg=res
     ·have e2:(S.fs[k].wg.toList == res.toList)=true:=by rw[beq_toList];simpa using h2
      have HFw:Hid (yK S.fs[k] o.vs[k] res=zay o.vs[k]):=by unfold Hid yK;rw[if_pos ⟨h1,h2⟩]
      have hdb:=zd4 o.vs[k];clear h1 h2;go_wp2_with fail
      refine(zdr o.vs[k] _ HVs.o).mono ?_;rintro e w2⟨rfl,rfl⟩;go_wp2_with fail
      exact⟨⟨k+1,s+zay o.vs[k],by omega,by go_num,by go_num,by rw[HSt.o,HFw.o,HQ.o.1];omega,HBo.o _⟩,zq hlt⟩
     ·have e2:(S.fs[k].wg.toList == res.toList)=false:=by rw[beq_toList];simpa using h2
      have HFw:Hid (yK S.fs[k] o.vs[k] res=0):=by unfold Hid yK;rw[if_neg (fun h=>h2 h.2)]
      clear h1 h2;go_wp2_with fail
      exact⟨⟨k+1,s,by omega,by go_num,rfl,by rw[HSt.o,HFw.o,HQ.o.1];omega,HBo.o _⟩,zq hlt⟩
    ·have e1:(S.fs[k].kd == 1)=false:=by simpa using h1
     have HFw:Hid (yK S.fs[k] o.vs[k] res=0):=by unfold Hid yK;rw[if_neg (fun h=>h1 h.1)]
     clear h1;go_wp2_with fail
     exact⟨⟨k+1,s,by omega,by go_num,rfl,by rw[HSt.o,HFw.o,HQ.o.1];omega,HBo.o _⟩,zq hlt⟩
   ·have e:k=S.fs.length:=by omega
    subst e;have HE:Hid (qW l.ss o res=s):=by unfold Hid;rw[HW.o,HQ.o.1]
    clear hlt hk;go_wp2_with fail
    go_ret;exact⟨zo HE.o.symm,HB1.o.trans (HQ.o.2.mono HB1.o.size)⟩)
structure Marked (lo hi:Nat)(w w':World):Prop where
 os:w'.os=w.os
 tape:w'.tape=w.tape
 output:w'.output=w.output
 size:w.heap.size<=w'.heap.size
 out:∀k,k<w.heap.size->(k<lo \/ hi<=k)->w'.heap[k]?=w.heap[k]?
 inn:∀(k:Nat) (C:AV) (t:TypeId),lo<=k->k<hi->w.heap[k]?=some (.cells C t)->∃C':AV,w'.heap[k]?=some (.cells C' t)/\C'.size=C.size/\∀(j:Nat) a n c,C'[j]?=some (Value.slice a n c)↔C[j]?=some (Value.slice a n c)
theorem Marked.refl (lo hi:Nat)(w:World):Marked lo hi w w:=⟨rfl,rfl,rfl,Nat.le_refl _,fun _ _ _=>rfl,fun _ C _ _ _ h=>⟨C,h,rfl,fun _ _ _ _=>Iff.rfl⟩⟩
theorem Marked.trans {lo hi:Nat}{a b c:World}(h:Marked lo hi a b)(k:Marked lo hi b c):Marked lo hi a c:=
 ⟨k.os.trans h.os,k.tape.trans h.tape,k.output.trans h.output,Nat.le_trans h.size k.size,
  fun i hi ho=>(k.out i (nLt hi h.size) ho).trans (h.out i hi ho),
  fun i C t h1 h2 hC=>by
   obtain⟨C1,hC1,hs1,hk1⟩:=h.inn i C t h1 h2 hC;obtain⟨C2,hC2,hs2,hk2⟩:=k.inn i C1 t h1 h2 hC1;exact⟨C2,hC2,hs2.trans hs1,fun j a n c=>(hk2 j a n c).trans (hk1 j a n c)⟩⟩
theorem Marked.of_below {lo hi:Nat}{w w':World}(h:Bw w w'):Marked lo hi w w':=
 ⟨h.os,h.tape,h.output,h.size,fun k hk _=>h.block k hk,fun k C _ _ _ hC=>⟨C,(h.block k (gES hC).1).trans hC,rfl,fun _ _ _ _=>Iff.rfl⟩⟩
theorem Marked.wide {lo hi lo' hi':Nat}{w w':World}(h:Marked lo hi w w')(h1:lo'<=lo)(h2:hi<=hi'):Marked lo' hi' w w':=
 ⟨h.os,h.tape,h.output,h.size,fun k hk ho=>h.out k hk (by omega),fun k C t g1 g2 hC=>by
  by_cases hin:lo<=k/\k<hi
  ·exact h.inn k C t hin.1 hin.2 hC
  ·exact⟨C,(h.out k (gES hC).1 (by omega)).trans hC,rfl,fun _ _ _ _=>Iff.rfl⟩⟩
theorem Marked.put {lo hi b j:Nat}{w w1:World}{C:AV}{t:TypeId}(h:Marked lo hi w w1)(hlo:lo<=b)(hhi:b<hi)(hC:w.heap[b]?=some (.cells C t))(hj:∀a n c,C[j]?≠some (Value.slice a n c))(v:Value)(hv:∀a n c,v≠Value.slice a n c):Marked lo hi w (w1.setCell (aD b j) v):=by
 refine⟨h.os,h.tape,h.output,by have:=h.size;simpa[World.setCell] using this,fun k hk ho=>?_,fun k C0 t0 g1 g2 hC0=>?_⟩
 ·rw[Below.heap_setCell _ _ _ _ (by show k≠b;omega)];exact h.out k hk ho
 ·obtain⟨C1,hC1,hs1,hk1⟩:=h.inn k C0 t0 g1 g2 hC0
  by_cases hkb:k=b
  ·subst hkb
   rw[hC]at hC0;simp only[Option.some.injEq,Obj.cells.injEq]at hC0;obtain⟨rfl,rfl,_⟩:=hC0;refine⟨C1.setIfInBounds j v,zi hC1 _,by simpa using hs1,fun i a n c=>?_⟩
   by_cases hij:j=i
   ·subst hij
    refine⟨fun h=>?_,fun h=>absurd h (hj a n c)⟩
    exfalso
    rw[Array.getElem?_setIfInBounds]at h;simp only[if_true]at h
    split at h
    ·exact hv a n c (Option.some.inj h)
    ·cases h
   ·rw[Array.getElem?_setIfInBounds_ne hij];exact hk1 i a n c
  ·exact⟨C1,(Below.heap_setCell _ _ _ _ (by show k≠b;exact hkb)).trans hC1,hs1,hk1⟩
theorem Marked.cell {lo hi:Nat}{w w':World}(h:Marked lo hi w w'){p:Addr}(hp:p.block<w.heap.size)(ho:p.block<lo \/ hi<=p.block):w'.cell? p=w.cell? p:=by
 unfold World.cell?;rw[h.out p.block hp ho]
theorem Marked.box {lo hi b:Nat}{w w':World}{X:AV}(h:Marked lo hi w w')(hX:∀o,w.cell? (aD b o)=X[o]?)(hb:b<w.heap.size)(ho:b<lo \/ hi<=b):∀o,w'.cell? (aD b o)=X[o]?:=
 fun o=>(h.cell (p:=(aD b o)) hb ho).trans (hX o)
theorem Marked.below {lo hi B:Nat}{w w':World}(h:Marked lo hi w w')(h1:B<=lo)(h2:B<=w.heap.size):Below B w w':=
 ⟨h.os,h.tape,h.output,h.size,fun k hk=>h.out k (by omega) (Or.inl (by omega))⟩
def zc0 (n:Nat):BA:=⟨#[UInt8.ofNat (48+n)]⟩
def digits (n:Nat)(acc:BA):BA:=if n=0 then acc else digits (n / 10) (zc0 (n % 10)++acc)
termination_by n
decreasing_by omega
theorem zfd (acc:BA):digits 0 acc=acc:=by rw[digits];rfl
theorem zjy {n:Nat}(h:0<n)(acc:BA):digits n acc=digits (n / 10) (zc0 (n % 10)++acc):=by
 conv=>lhs;rw[digits]
 rw[if_neg (by omega)]
def zaG (k:Nat):BA:=⟨#[109]⟩++digits k ByteArray.empty
theorem zmG (n:Nat)(h:n<9000000000000000000):wrap64 ((n:Int) / 10)=((n / 10:Nat):Int):=by
 rw[zA _ ⟨by omega,by omega⟩];omega
theorem zpm {k:Nat}(h:k<9000000000000000000):k<10 ^ 19:=Nat.lt_trans h (by decide)
theorem zon (n:Nat)(hn:0<n)(h:n<9000000000000000000):(intOf (.i (wrap64 ((n:Int) / 10)))).toNat<(intOf (.i (n:Int))).toNat:=by
 rw[zmG n h]
 show(((n / 10:Nat):Int)).toNat<((n:Nat):Int).toNat
 rw[Int.toNat_natCast,Int.toNat_natCast];omega
theorem zp0 (n:Nat):((UInt8.ofNat (48+n % 10)).toNat:Int)=48+(n:Int) % 10:=by
 rw[UInt8.toNat_ofNat',Nat.mod_eq_of_lt (by omega)];omega
theorem zoA (w:World)(n:Nat):(convert 195 9 (.l (some (aD w.heap.size 0)) 1 1)).run Tryz.prog (w.alloc (.cells #[.int .u8 (48+(n:Int) % 10)] 5))=.ok (.s (zc0 (n % 10))) (w.alloc (.cells #[.int .u8 (48+(n:Int) % 10)] 5)):=by
 refine run_convert_bytes_back _ _ _ 5 (aD w.heap.size 0) 1 [UInt8.ofNat (48+n % 10)] Tryz.underlying195 Tryz.underlying5 Tryz.underlying9 (fun j hj=>?_);have e:j=0:=by simp at hj;omega
 subst e;rw[List.getElem_cons_zero,zp0];have e2:((aD w.heap.size 0):Addr).add 0=(aD w.heap.size 0):=rfl;rw[e2,World.cell?_alloc_at (hn:=rfl)]
 rfl
set_option maxRecDepth 20000 in
theorem zcH (k:Nat)(w:World)(hk:0<k)(hk2:k<9000000000000000000) :
 Calls Tryz.prog 107 #[.i k] w fun e w'=>e=.returned (.s (zaG k))/\Bw w w':=by
 have hk0:decide ((k:Int)<=0)=false:=by simp;omega
 go_enter Tryz.func107,Tryz.ntmps107;go_wp2_with fail
 go_loopw [0,3] (fun kv ov wr=>∃(n:Nat) (acc:BA) (d:Nat),kv=.i n/\ov=.s acc/\n<=k/\n<10 ^ d/\acc.size+d<=19/\digits n acc=digits k ByteArray.empty/\Bw w wr) (fun kv _ _=>(intOf kv).toNat)
 case atStart=>exact⟨k,ByteArray.empty,19,rfl,rfl,Nat.le_refl _,zpm hk2,by simp,rfl,bRf _ _⟩
 case round=>
  obtain⟨n,acc,d,rfl,rfl,hnk,hnd,had,hdig,hB⟩:=hrel;have HF:Hid (n<=k/\n<10 ^ d/\acc.size+d<=19/\digits n acc=digits k ByteArray.empty/\Bw w wr):=⟨hnk,hnd,had,hdig,hB⟩
  have HK:Hid (k<9000000000000000000):=hk2;have hacc:acc.size<=19:=by omega
  clear hnk hnd had hdig hB hk2
  by_cases hn:0<n
  ·have hn0:decide ((n:Int) > 0)=true:=by simp;omega
   have hcv:=zoA wr n;have hds:(zc0 (n % 10)).size=1:=rfl;go_wp2_with fail
   go_roundw
   case rel=>
    obtain⟨hnk,hnd,had,hdig,hB⟩:=HF.o;have hk2:=HK.o;have hd0:d≠0:=by rintro rfl;simp at hnd;omega
    obtain⟨e,rfl⟩:∃e,d=e+1:=⟨d-1,by omega⟩
    exact⟨n / 10,zc0 (n % 10)++acc,e,by rw[zmG n (by omega)],rfl,by omega,by rw[Nat.pow_succ]at hnd;omega,by rw[ByteArray.size_append,hds];omega,by rw[<- zjy hn];exact hdig,hB.alloc hB.size _⟩
   case measure=>
    have hnk:=HF.o.1;have hk2:=HK.o;exact zon n hn (by omega)
  ·have hn0:decide ((n:Int) > 0)=false:=by simp;omega
   go_wp2_with fail
   go_ret;have e0:n=0:=by omega
   obtain⟨_,_,_,hdig,hB⟩:=HF.o;subst e0;rw[zfd]at hdig;exact⟨by unfold zaG;rw[<- hdig];rfl,hB⟩
theorem zpB {w w':World}{g:Nat}{ws:List BA}(h:zG w (some (aD g 0)) ws)(hl:Bw w w')(i:Nat)(hi:i<ws.length):g<w.heap.size/\w'.cell? (aD g i)=some (.s ws[i]):=by
 obtain⟨b,off,e,hb,hr⟩:=h.cells (by rintro rfl;simp at hi);simp only[Option.some.injEq,Addr.mk.injEq]at e;obtain⟨rfl,rfl,_⟩:=e;refine⟨hb,?_⟩
 have:=hr i hi
 rw[Nat.zero_add]at this;exact(hl.cell (p:=(aD g i)) hb).trans this
theorem zps {w w':World}{a:OA}{fs:List Fld}(h:yg w a fs)(hl:Bw w w')(i:Nat)(hi:i<fs.length):∃b off fw fc,a=some (aD b off)/\b<w.heap.size/\zeX w' b (off+i*11) fs[i] fw fc:=by
 obtain⟨b,off,ha,hb,hr⟩:=(h.mono hl).rows (by rintro rfl;simp at hi);obtain⟨b',off',ha',hb',_⟩:=h.rows (by rintro rfl;simp at hi);have e:=ha.symm.trans ha';simp only[Option.some.injEq,Addr.mk.injEq]at e;obtain⟨rfl,rfl,_⟩:=e;obtain⟨fw,fc,hf⟩:=hr i hi;exact⟨b,off,fw,fc,ha,hb',hf⟩
end Go.Proofs.YtcgpjfcocmcodaaGreat
