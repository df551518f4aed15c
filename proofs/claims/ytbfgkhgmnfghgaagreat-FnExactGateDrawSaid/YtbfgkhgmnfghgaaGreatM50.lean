import Derived.Test.YtbfgkhgmnfghgaaGreatM47
import Derived.Test.YtbfgkhgmnfghgaaGreatM49
import Derived.Test.YtbfgkhgmnfghgaaGreatM32
import Derived.Deep.Cut
set_option maxHeartbeats 4000000
namespace Go.Proofs.YtbfgkhgmnfghgaaGreat
open Go.RowKit
noncomputable def zaI (l:Lw)(b:Bk):Bool:=zaN b&&(z8 l b&&(yK b&&(yR l.ts b&&(yY b&&zdd l b))))
noncomputable def jG (l:Lw)(b:Bk):Bool:=zcD l&&zaI l b
theorem zce {ts:List Tm}{b:Bk}(h:yR ts b=true):rising qG b.ls/\b.ls.length<=10/\∀i (hi:i<b.ls.length),yJ ts b.ls[i]=true:=by
 unfold yR at h;simp only[Bool.and_eq_true,decide_eq_true_eq]at h;exact⟨(zjI _ _).1 h.2.1,h.1,fun i hi=>List.all_eq_true.1 h.2.2 _ (List.getElem_mem _)⟩
theorem zgT {b:Bk}(h:zaN b=true):0<=b.tick/\b.tick<=1000000:=by
 unfold zaN within at h;simp only[Bool.and_eq_true,decide_eq_true_eq]at h;exact h.2.1
theorem zhc {b:Bk}(h:yY b=true):b.ps.length<=24/\∀i (hi:i<b.ps.length),yx b.ls b.tick b.ps[i]=true:=by
 unfold yY at h;simp only[Bool.and_eq_true,decide_eq_true_eq]at h;exact⟨h.1,fun i hi=>List.all_eq_true.1 h.2.2 _ (List.getElem_mem _)⟩
theorem zol {b:Bk}(h:rising qG b.ls):∀i j (hi:i<b.ls.length) (hj:j<b.ls.length),b.ls[i].tm=b.ls[j].tm->b.ls[i].rs=b.ls[j].rs->i=j:=by
 intro i j hi hj e1 e2
 have hz:∀i j (hi:i<b.ls.length) (hj:j<b.ls.length),i<j->b.ls[i].tm=b.ls[j].tm->b.ls[i].rs=b.ls[j].rs->False:=by
  intro i j hi hj hlt e1 e2;have h1:=zaz (fun a b c=>zbs (a:=a) (b:=b) (c:=c)) h j hj i hlt;have h2:qG b.ls[i] b.ls[j]=0:=by unfold qG;rw[zd6];exact⟨e1,e2⟩
  omega
 rcases Nat.lt_trichotomy i j with h1|h1|h1
 ·exact(hz i j hi hj h1 e1 e2).elim
 ·exact h1
 ·exact(hz j i hj hi h1 e1.symm e2.symm).elim
theorem zqL {ts:List Tm}{b:Bk}(h:yR ts b=true)(h':yY b=true)(hz:qO b.os<=1048576):zjs b:=by
 obtain⟨h1,h2,h3⟩:=zce h;obtain⟨p1,p2⟩:=zhc h';refine⟨zol h1,fun k hk=>?_,fun i hi=>?_,fun i hi=>?_,by omega,by omega,hz⟩
 ·have h4:=p2 k hk
  unfold yx yN at h4;simp only[Bool.and_eq_true]at h4;obtain⟨g,hg,h5⟩:=List.any_eq_true.1 h4.1;obtain⟨j,hj,rfl⟩:=List.mem_iff_getElem.1 hg;simp only[Bool.and_eq_true,decide_eq_true_eq]at h5;exact⟨j,hj,h5.1,h5.2⟩
 ·have h4:=h3 i hi
  unfold yJ jm at h4;simp only[Bool.and_eq_true,decide_eq_true_eq]at h4;omega
 ·have h4:=p2 i hi
  unfold yx within at h4;simp only[Bool.and_eq_true,decide_eq_true_eq]at h4;omega
set_option maxRecDepth 20000 in
theorem zpa (l:Lw)(la lb lc:OA)(lca lcb lcc:Nat)(b:Bk)(a0 a1 a2 a3:OA)(c0 c1 c2 c3:Nat)(w:World)(hb:jk w b a0 a1 a2 a3)(hl:jA w l la lb lc)(hml:l.ms.length<=1048576)(hok:yB l.ss l.ms=true)(hfw:∀i (h:i<b.os.length),b.os[i].vs.length<=1048576/\b.os[i].hs.length<=1048576)(hz:qO b.os<=1048576) :
 Calls Tryz.prog 80 #[.agg #[.l la l.ss.length lca,.l lb l.ms.length lcb,.l lc l.ts.length lcc],.agg #[.i b.now,.i b.tick,.i b.given,.l a0 b.os.length c0,.l a1 b.gs.length c1,.l a2 b.ls.length c2,.l a3 b.ps.length c3]] w fun e w'=>e=.returned (.bool (zaI l b))/\Bw w w':=by
 have HK:=hid hb;have HL:=hid hl;have HF:Hid (l.ms.length<=1048576/\yB l.ss l.ms=true/\(∀i (h:i<b.os.length),b.os[i].vs.length<=1048576/\b.os[i].hs.length<=1048576)/\qO b.os<=1048576):=⟨hml,hok,hfw,hz⟩
 clear hb hl hml hok hfw hz;go_enter Tryz.func80,Tryz.ntmps80;go_wp2_with fail
 obtain⟨hL0,hX0⟩:=q8 w #[.l la l.ss.length lca,.l lb l.ms.length lcb,.l lc l.ts.length lcc] (bC b a0 a1 a2 a3 c0 c1 c2 c3) 47 40;have HBi:Hid (Bw w ((w.alloc (.cells #[.l la l.ss.length lca,.l lb l.ms.length lcb,.l lc l.ts.length lcc] 47)).alloc (.cells (bC b a0 a1 a2 a3 c0 c1 c2 c3) 40))):=zw w _ _;obtain⟨W0,hW0⟩:=nm ((w.alloc (.cells #[.l la l.ss.length lca,.l lb l.ms.length lcb,.l lc l.ts.length lcc] 47)).alloc (.cells (bC b a0 a1 a2 a3 c0 c1 c2 c3) 40));have hz0:w.heap.size+1<W0.heap.size:=by rw[hW0];simp
 rw[<- hW0]at HBi hX0 hL0 ⊢;clear hW0;refine(zlj b a0 a1 a2 a3 c0 c1 c2 c3 _).mono ?_;rintro e w1⟨rfl,hb0⟩;have hX1:=za hX0 hz0 hb0;have hL1:=za hL0 (nSl hz0) hb0;have hz1:=nLt hz0 hb0.size;have hy1:=nSl hz1;have HBi:=hid (HBi.o.trans (hb0.mono HBi.o.size));clear hb0 hX0 hL0 hz0
 by_cases t:zaN b=true
 rotate_left
 ·have HN:Hid (zaI l b=false):=by unfold Hid zaI;rw[bFi t];rfl
  rw[bFi t];clear t;go_wp2_with fail
  go_ret;exact⟨ze HN.o.symm,HBi.o⟩
 have HT0:=hid t;rw[t];clear t;go_wp2_with fail
 refine(zkI l la lb lc lca lcb lcc b a0 a1 a2 a3 c0 c1 c2 c3 _ (HK.o.mono HBi.o) (HL.o.mono HBi.o) HF.o.1 HF.o.2.1 HF.o.2.2.1).mono ?_;rintro e w2⟨rfl,hb1⟩;have hX2:=za hX1 hz1 hb1;have hL2:=za hL1 (nSl hz1) hb1;have hz2:=nLt hz1 hb1.size;have hy2:=nSl hz2;have HBi:=hid (HBi.o.trans (hb1.mono HBi.o.size));clear hb1 hX1 hL1 hz1 hy1
 by_cases t:z8 l b=true
 rotate_left
 ·have HN:Hid (zaI l b=false):=by unfold Hid zaI;rw[HT0.o,bFi t];rfl
  rw[bFi t];clear t;go_wp2_with fail
  go_ret;exact⟨ze HN.o.symm,HBi.o⟩
 have HT1:=hid t;rw[t];clear t;go_wp2_with fail
 refine(zkU b a0 a1 a2 a3 c0 c1 c2 c3 _ (HK.o.mono HBi.o)).mono ?_;rintro e w3⟨rfl,hb2⟩;have hX3:=za hX2 hz2 hb2;have hL3:=za hL2 (nSl hz2) hb2;have hz3:=nLt hz2 hb2.size;have hy3:=nSl hz3;have HBi:=hid (HBi.o.trans (hb2.mono HBi.o.size));clear hb2 hX2 hL2 hz2 hy2
 by_cases t:yK b=true
 rotate_left
 ·have HN:Hid (zaI l b=false):=by unfold Hid zaI;rw[HT0.o,HT1.o,bFi t];rfl
  rw[bFi t];clear t;go_wp2_with fail
  go_ret;exact⟨ze HN.o.symm,HBi.o⟩
 have HT2:=hid t;rw[t];clear t;go_wp2_with fail
 refine(zjQ l la lb lc lca lcb lcc b a0 a1 a2 a3 c0 c1 c2 c3 _ (HK.o.mono HBi.o) (HL.o.mono HBi.o)).mono ?_;rintro e w4⟨rfl,hb3⟩;have hX4:=za hX3 hz3 hb3;have hL4:=za hL3 (nSl hz3) hb3;have hz4:=nLt hz3 hb3.size;have hy4:=nSl hz4;have HBi:=hid (HBi.o.trans (hb3.mono HBi.o.size));clear hb3 hX3 hL3 hz3 hy3
 by_cases t:yR l.ts b=true
 rotate_left
 ·have HN:Hid (zaI l b=false):=by unfold Hid zaI;rw[HT0.o,HT1.o,HT2.o,bFi t];rfl
  rw[bFi t];clear t;go_wp2_with fail
  go_ret;exact⟨ze HN.o.symm,HBi.o⟩
 have HT3:=hid t;rw[t];clear t;go_wp2_with fail
 refine(zlv b a0 a1 a2 a3 c0 c1 c2 c3 _ (HK.o.mono HBi.o) (zce HT3.o).1 (zce HT3.o).2.1 (zgT HT0.o)).mono ?_;rintro e w5⟨rfl,hb4⟩;have hX5:=za hX4 hz4 hb4;have hL5:=za hL4 (nSl hz4) hb4;have hz5:=nLt hz4 hb4.size;have hy5:=nSl hz5;have HBi:=hid (HBi.o.trans (hb4.mono HBi.o.size));clear hb4 hX4 hL4 hz4 hy4
 by_cases t:yY b=true
 rotate_left
 ·have HN:Hid (zaI l b=false):=by unfold Hid zaI;rw[HT0.o,HT1.o,HT2.o,HT3.o,bFi t];rfl
  rw[bFi t];clear t;go_wp2_with fail
  go_ret;exact⟨ze HN.o.symm,HBi.o⟩
 have HT4:=hid t;rw[t];clear t;go_wp2_with fail
 refine(zmW l la lb lc lca lcb lcc b a0 a1 a2 a3 c0 c1 c2 c3 _ (HL.o.mono HBi.o) (HK.o.mono HBi.o) (zqL HT3.o HT4.o HF.o.2.2.2)).mono ?_;rintro e w6⟨rfl,hb5⟩;have HBe:=hid (HBi.o.trans (hb5.mono HBi.o.size));have HN:Hid (zdd l b=zaI l b):=by unfold Hid zaI;rw[HT0.o,HT1.o,HT2.o,HT3.o,HT4.o];rfl
 rw[HN.o];clear hb5 hX5 hL5 hz5 hy5;go_wp2_with fail
 go_ret;exact⟨rfl,HBe.o⟩
set_option maxRecDepth 20000 in
theorem zjN (l:Lw)(la lb lc:OA)(lca lcb lcc:Nat)(b:Bk)(a0 a1 a2 a3:OA)(c0 c1 c2 c3:Nat)(w:World)(hl:jA w l la lb lc)(hb:jk w b a0 a1 a2 a3)(hlf:l.Few)(hbf:b.Few)(hz:qO b.os<=1048576) :
 Calls Tryz.prog 36 #[.agg (l.cells la lb lc lca lcb lcc),.agg (b.cells a0 a1 a2 a3 c0 c1 c2 c3)] w fun e w'=>e=.returned (.bool (jG l b))/\Bw w w':=by
 have HK:=hid hb;have HL:=hid hl;have HF:Hid (l.Few/\b.Few/\qO b.os<=1048576):=⟨hlf,hbf,hz⟩
 clear hb hl hlf hbf hz;unfold Lw.cells Bk.cells;go_enter Tryz.func36,Tryz.ntmps36;go_wp2_with fail
 obtain⟨hL0,hX0⟩:=q8 w #[.l la l.ss.length lca,.l lb l.ms.length lcb,.l lc l.ts.length lcc] (bC b a0 a1 a2 a3 c0 c1 c2 c3) 47 40;have HBi:Hid (Bw w ((w.alloc (.cells #[.l la l.ss.length lca,.l lb l.ms.length lcb,.l lc l.ts.length lcc] 47)).alloc (.cells (bC b a0 a1 a2 a3 c0 c1 c2 c3) 40))):=zw w _ _;obtain⟨W0,hW0⟩:=nm ((w.alloc (.cells #[.l la l.ss.length lca,.l lb l.ms.length lcb,.l lc l.ts.length lcc] 47)).alloc (.cells (bC b a0 a1 a2 a3 c0 c1 c2 c3) 40));have hz0:w.heap.size+1<W0.heap.size:=by rw[hW0];simp
 rw[<- hW0]at HBi hX0 hL0 ⊢;clear hW0;refine(zla l la lb lc lca lcb lcc _ (HL.o.mono HBi.o) HF.o.1).mono ?_;rintro e w1⟨rfl,hb0⟩;have hX1:=za hX0 hz0 hb0;have hL1:=za hL0 (nSl hz0) hb0;have hz1:=nLt hz0 hb0.size;have hy1:=nSl hz1;have HBi:=hid (HBi.o.trans (hb0.mono HBi.o.size));clear hb0 hX0 hL0 hz0
 by_cases t:zcD l=true
 rotate_left
 ·have HN:Hid (jG l b=false):=by unfold Hid jG;rw[bFi t];rfl
  rw[bFi t];clear t;go_wp2_with fail
  go_ret;exact⟨ze HN.o.symm,HBi.o⟩
 have HN:Hid (zaI l b=jG l b):=by unfold Hid jG;rw[t];rfl
 have HM:Hid (yB l.ss l.ms=true):=by unfold zcD at t;simp only[Bool.and_eq_true]at t;exact t.1
 rw[t];clear t;go_wp2_with fail
 refine(zpa l la lb lc lca lcb lcc b a0 a1 a2 a3 c0 c1 c2 c3 _ (HK.o.mono HBi.o) (HL.o.mono HBi.o) HF.o.1.ms HM.o HF.o.2.1.os.2 HF.o.2.2).mono ?_;rintro e w2⟨rfl,hb1⟩;have HBe:=hid (HBi.o.trans (hb1.mono HBi.o.size));rw[HN.o];clear hb1 hX1 hL1 hz1 hy1;go_wp2_with fail
 go_ret;exact⟨rfl,HBe.o⟩
structure Within (ls:List Lg)(n:Nat):Prop where
 fr:∀g∈ls,0<=g.fr/\g.fr<=1000000*((n:Int)+1)
def zaR:Bk:=⟨0,0,0,[],[],[],[]⟩
theorem zbl (l:Lw)(b:Bk):jG l b=(zcD l&&((within b.now 0 1000000&&(within b.tick 0 1000000&&within b.given 0 b.now))&&(z8 l b&&(yK b&&qz l b)))):=rfl
theorem zfv (n lo hi:Int)(w:World):Calls Tryz.prog 26 #[.i n,.i lo,.i hi] w fun e w'=>e=.returned (.bool (within n lo hi))/\w'=w:=yt n lo hi w
theorem zqb {n lo hi:Int}(h:within n lo hi=true):lo<=n/\n<=hi:=by unfold within at h;simpa using h
set_option maxRecDepth 20000 in
theorem zj0 (l:Lw)(la lb lc:OA)(lca lcb lcc:Nat)(b:Bk)(a0 a1 a2 a3:OA)(c0 c1 c2 c3:Nat)(w:World)(hl:jA w l la lb lc)(hb:jk w b a0 a1 a2 a3)(hh:zcv w a0 b.os)(hbf:b.Few)(hz:qO b.os<=1048576) :
 Calls Tryz.prog 22 #[.agg (l.cells la lb lc lca lcb lcc),.agg (b.cells a0 a1 a2 a3 c0 c1 c2 c3)] w fun e w'=>e=.returned (.bool (jG l b))/\Bw w w':=by
 have HK:=hid hb;have HL:=hid hl;have HH:=hid hh;have HF:Hid (b.Few/\qO b.os<=1048576):=⟨hbf,hz⟩
 clear hb hl hh hbf hz;unfold Lw.cells Bk.cells;go_enter Tryz.func22,Tryz.ntmps22;go_wp2_with fail
 obtain⟨hL0,hX0⟩:=q8 w #[.l la l.ss.length lca,.l lb l.ms.length lcb,.l lc l.ts.length lcc] (bC b a0 a1 a2 a3 c0 c1 c2 c3) 47 40;have HBi:Hid (Bw w ((w.alloc (.cells #[.l la l.ss.length lca,.l lb l.ms.length lcb,.l lc l.ts.length lcc] 47)).alloc (.cells (bC b a0 a1 a2 a3 c0 c1 c2 c3) 40))):=zw w _ _;obtain⟨W0,hW0⟩:=nm ((w.alloc (.cells #[.l la l.ss.length lca,.l lb l.ms.length lcb,.l lc l.ts.length lcc] 47)).alloc (.cells (bC b a0 a1 a2 a3 c0 c1 c2 c3) 40));have hz0:w.heap.size+1<W0.heap.size:=by rw[hW0];simp
 rw[<- hW0]at HBi hX0 hL0 ⊢;clear hW0;refine(zld l la lb lc lca lcb lcc _ (HL.o.mono HBi.o)).mono ?_;rintro e w1⟨rfl,hb0⟩;have hX1:=za hX0 hz0 hb0;have hL1:=za hL0 (nSl hz0) hb0;have hz1:=nLt hz0 hb0.size;have HBi:=hid (HBi.o.trans (hb0.mono HBi.o.size));clear hb0 hX0 hL0 hz0;have hy1:=nSl hz1
 by_cases t:zcD l=true
 rotate_left
 ·have HN:Hid (jG l b=false):=by rw[Hid,zbl,bFi t];simp
  rw[bFi t];clear t;go_wp2_with fail
  go_ret;exact⟨ze HN.o.symm,HBi.o⟩
 have HT0:=hid t;rw[t];clear t;go_wp2_with fail
 have HM:Hid (yB l.ss l.ms=true):=by have t:=HT0.o;unfold zcD at t;simp only[Bool.and_eq_true]at t;exact t.1
 refine(zfv b.now (0) (1000000) _).mono ?_;rintro e w2⟨rfl,rfl⟩;have hX2:=hX1;have hL2:=hL1;have hz2:=hz1;clear hX1 hL1 hz1;have hy2:=nSl hz2;have hcv:within b.now 0 1000000=within b.now 0 1000000:=rfl;clear hcv
 by_cases t:within b.now 0 1000000=true
 rotate_left
 ·have HN:Hid (jG l b=false):=by rw[Hid,zbl,HT0.o,bFi t];simp
  rw[bFi t];clear t;go_wp2_with fail
  go_ret;exact⟨ze HN.o.symm,HBi.o⟩
 have HT1:=hid t;rw[t];clear t;go_wp2_with fail
 refine(zfv b.tick (0) (1000000) _).mono ?_;rintro e w3⟨rfl,rfl⟩;have hX3:=hX2;have hL3:=hL2;have hz3:=hz2;clear hX2 hL2 hz2;have hy3:=nSl hz3;have hcv:within b.tick 0 1000000=within b.tick 0 1000000:=rfl;clear hcv
 by_cases t:within b.tick 0 1000000=true
 rotate_left
 ·have HN:Hid (jG l b=false):=by rw[Hid,zbl,HT0.o,HT1.o,bFi t];simp
  rw[bFi t];clear t;go_wp2_with fail
  go_ret;exact⟨ze HN.o.symm,HBi.o⟩
 have HT2:=hid t;rw[t];clear t;go_wp2_with fail
 refine(zfv b.given (0) (b.now) _).mono ?_;rintro e w4⟨rfl,rfl⟩;have hX4:=hX3;have hL4:=hL3;have hz4:=hz3;clear hX3 hL3 hz3;have hy4:=nSl hz4;have hcv:within b.given 0 b.now=within b.given 0 b.now:=rfl;clear hcv
 by_cases t:within b.given 0 b.now=true
 rotate_left
 ·have HN:Hid (jG l b=false):=by rw[Hid,zbl,HT0.o,HT1.o,HT2.o,bFi t];simp
  rw[bFi t];clear t;go_wp2_with fail
  go_ret;exact⟨ze HN.o.symm,HBi.o⟩
 have HT3:=hid t;rw[t];clear t;go_wp2_with fail
 refine(ziO l la lb lc lca lcb lcc b a0 a1 a2 a3 c0 c1 c2 c3 _ (HL.o.mono HBi.o) (HK.o.mono HBi.o) (HH.o.mono HBi.o) HM.o HF.o.1.os.2).mono ?_;rintro e w5⟨rfl,hb4⟩;have hX5:=za hX4 hz4 hb4;have hL5:=za hL4 (nSl hz4) hb4;have hz5:=nLt hz4 hb4.size;have HBi:=hid (HBi.o.trans (hb4.mono HBi.o.size));clear hb4 hX4 hL4 hz4;have hy5:=nSl hz5
 by_cases t:z8 l b=true
 rotate_left
 ·have HN:Hid (jG l b=false):=by rw[Hid,zbl,HT0.o,HT1.o,HT2.o,HT3.o,bFi t];simp
  rw[bFi t];clear t;go_wp2_with fail
  go_ret;exact⟨ze HN.o.symm,HBi.o⟩
 have HT4:=hid t;rw[t];clear t;go_wp2_with fail
 refine(zjz b a0 a1 a2 a3 c0 c1 c2 c3 _ (HK.o.mono HBi.o)).mono ?_;rintro e w6⟨rfl,hb5⟩;have hX6:=za hX5 hz5 hb5;have hL6:=za hL5 (nSl hz5) hb5;have hz6:=nLt hz5 hb5.size;have HBi:=hid (HBi.o.trans (hb5.mono HBi.o.size));clear hb5 hX5 hL5 hz5;have hy6:=nSl hz6
 by_cases t:yK b=true
 rotate_left
 ·have HN:Hid (jG l b=false):=by rw[Hid,zbl,HT0.o,HT1.o,HT2.o,HT3.o,HT4.o,bFi t];simp
  rw[bFi t];clear t;go_wp2_with fail
  go_ret;exact⟨ze HN.o.symm,HBi.o⟩
 have HT5:=hid t;rw[t];clear t;go_wp2_with fail
 refine(zmu l la lb lc lca lcb lcc b a0 a1 a2 a3 c0 c1 c2 c3 _ (HL.o.mono HBi.o) (HK.o.mono HBi.o) (zqb HT2.o) HF.o.2).mono ?_;rintro e w7⟨rfl,hb6⟩;have hX7:=za hX6 hz6 hb6;have hL7:=za hL6 (nSl hz6) hb6;have hz7:=nLt hz6 hb6.size;have HBi:=hid (HBi.o.trans (hb6.mono HBi.o.size));clear hb6 hX6 hL6 hz6;have hy7:=nSl hz7;have HN:Hid (qz l b=jG l b):=by rw[Hid,zbl,HT0.o,HT1.o,HT2.o,HT3.o,HT4.o,HT5.o];rfl
 rw[HN.o];go_wp2_with fail
 go_ret;exact⟨rfl,HBi.o⟩
structure zkr (lo:Nat)(w:World)(e:Ending)(r:Bk × Int):Prop where
 ex:∃hi own d0 d1 d2 d3 e0 e1 e2 e3,e=.returned (.tuple #[.agg (r.1.cells d0 d1 d2 d3 e0 e1 e2 e3),.i r.2])/\BkL lo hi w own r.1 d0 d1 d2 d3
theorem BkF.low {lo lo' hi:Nat}{w:World}{own:Nat->Lb}{a0 a1 a2 a3:OA}{n0 n1 n2 n3:Nat}{f0:Nat->Ob}{f1:Nat->Gr}{f2:Nat->Lg}{f3:Nat->Pu}(h:BkF lo hi w own a0 a1 a2 a3 n0 n1 n2 n3 f0 f1 f2 f3)(hl:lo'<=lo):BkF lo' hi w own a0 a1 a2 a3 n0 n1 n2 n3 f0 f1 f2 f3:=
 ⟨h.os.low hl,h.gs.low hl,h.ls.low hl,h.ps.low hl,fun k hk=>h.out k (by omega),Nat.le_trans hl h.le,h.hi⟩
structure zrW (b:Bk):Prop where
 rise:rising qG b.ls
 len:b.ls.length<=10
 fr:Within b.ls 0
 plen:b.ps.length<=24
 has:∀i (h:i<b.ps.length),yN b.ls b.ps[i].tm b.ps[i].rs=true
 am:∀p∈b.ps,1<=p.am/\p.am<=1000000
 tick:0<=b.tick/\b.tick<=1000000
theorem zpI {l:Lw}{b:Bk}(h:jG l b=true):zrW b:=by
 unfold jG zaI at h;simp only[Bool.and_eq_true]at h;obtain⟨h1,h2,h3⟩:=zce h.2.2.2.2.1;obtain⟨h4,h5⟩:=zhc h.2.2.2.2.2.1
 have hp:∀i (hi:i<b.ps.length),yN b.ls b.ps[i].tm b.ps[i].rs=true/\1<=b.ps[i].am/\b.ps[i].am<=1000000:=fun i hi=>by
  have h6:=h5 i hi;unfold yx within at h6;simp only[Bool.and_eq_true,decide_eq_true_eq]at h6;exact⟨h6.1,h6.2.2.1⟩
 refine⟨h1,h2,⟨fun g hg=>?_⟩,h4,fun i hi=>(hp i hi).1,fun p hp'=>?_,zgT h.2.1⟩
 ·obtain⟨i,hi,rfl⟩:=List.mem_iff_getElem.1 hg
  have h6:=h3 i hi;unfold yJ jm at h6;simp only[Bool.and_eq_true,decide_eq_true_eq]at h6;omega
 ·obtain⟨i,hi,rfl⟩:=List.mem_iff_getElem.1 hp'
  exact(hp i hi).2
theorem zc8.idx {ls:List Lg}{tm rs:BA}{k:Nat}(h:zc8 ls tm rs k)(hr:rising qG ls)(hh:yN ls tm rs=true):ls.findIdx (zam tm rs)=k:=by
 obtain⟨hk,he⟩:=(h.found hr).1 hh;rw[List.findIdx_eq hk];refine⟨by unfold zam;simp[he.1,he.2],fun j hj=>?_⟩;have h1:=h.below j (by omega) hj;rw[Bool.eq_false_iff];intro h2;unfold zam at h2;simp only[Bool.and_eq_true,decide_eq_true_eq]at h2;rw[zd6.2 h2]at h1;omega
theorem zq4 {ls:List Lg}{tm rs:BA}(h:yN ls tm rs=true):zbZ (zam tm rs) ls=(ls.findIdx (zam tm rs):Nat)/\ls.findIdx (zam tm rs)<ls.length:=⟨if_pos h,List.findIdx_lt_length.2 (List.any_eq_true.1 h)⟩
theorem zpP {ls:List Lg}{tm rs:BA}(h:yN ls tm rs=false):zbZ (zam tm rs) ls=-1/\¬ls.findIdx (zam tm rs)<ls.length:=by
 have h':ls.any (zam tm rs)=false:=h;refine⟨if_neg (by rw[h'];simp),fun h2=>?_⟩;have h3:=List.any_eq_true.2 (List.findIdx_lt_length.1 h2);rw[h3]at h'
 cases h'
theorem zbf.idx {ps:List Pu}{dr tm rs:BA}{k:Nat}(h:zbf ps dr tm rs k)(hr:rising yg ps)(hh:yP ps dr tm rs=true):ps.findIdx (zcB dr tm rs)=k:=by
 obtain⟨hk,he⟩:=(h.found hr).1 hh;rw[List.findIdx_eq hk];refine⟨by unfold zcB;simp[he.1,he.2.1,he.2.2],fun j hj=>?_⟩;have h1:=h.below 0 0 j (by omega) hj;rw[Bool.eq_false_iff];intro h2;unfold zcB at h2;simp only[Bool.and_eq_true,decide_eq_true_eq]at h2
 have:=zbV (a:=ps[j]'(by omega)) (b:=⟨dr,tm,rs,0,0⟩)
 rw[this.2 h2]at h1;omega
theorem zrn {ps:List Pu}{dr tm rs:BA}(h:yP ps dr tm rs=true):zbZ (zcB dr tm rs) ps=(ps.findIdx (zcB dr tm rs):Nat)/\ps.findIdx (zcB dr tm rs)<ps.length:=⟨if_pos h,List.findIdx_lt_length.2 (List.any_eq_true.1 h)⟩
theorem zmg {ps:List Pu}{dr tm rs:BA}(h:yP ps dr tm rs=false):zbZ (zcB dr tm rs) ps=-1/\¬ps.findIdx (zcB dr tm rs)<ps.length:=by
 refine⟨if_neg (by unfold yP at h;rw[h];simp),fun h2=>?_⟩;have h3:=List.any_eq_true.2 (List.findIdx_lt_length.1 h2);unfold yP at h;rw[h3]at h
 cases h
theorem zpJ {w:World}{b:Nat}{x0 x1 x2 x3 x4 x5 x6:Value}{t:TypeId}(h:w.heap[b]?=some (.cells #[x0,x1,x2,x3,x4,x5,x6] t))(v0 v1 v2 v3 v4 v5 v6:Value):(zfa w b v0 v1 v2 v3 v4 v5 v6).heap[b]?=some (.cells #[v0,v1,v2,v3,v4,v5,v6] t):=by
 unfold zfa;rw[zi (zi (zi (zi (zi (zi (zi h v0) v1) v2) v3) v4) v5) v6]
 rfl
theorem Left.zfa {S:Nat->Prop}{w W:World}(h:Left S w W){b:Nat}(hb:S b)(v0 v1 v2 v3 v4 v5 v6:Value):Left S w (zfa W b v0 v1 v2 v3 v4 v5 v6):=
 ((((((h.set hb 0 v0).set hb 1 v1).set hb 2 v2).set hb 3 v3).set hb 4 v4).set hb 5 v5).set hb 6 v6
theorem BkL.mono {lo hi:Nat}{w w':World}{own:Nat->Lb}{b:Bk}{a0 a1 a2 a3:OA}(h:BkL lo hi w own b a0 a1 a2 a3)(hb:Bw w w'):BkL lo hi w' own b a0 a1 a2 a3:=BkF.mono h hb
theorem BkM.mono {lo hi:Nat}{w w':World}{own:Nat->Lb}{b:Bk}{a0 a1 a2 a3:OA}(h:BkM lo hi w own b a0 a1 a2 a3)(hb:Bw w w'):BkM lo hi w' own b a0 a1 a2 a3:=BkF.mono h hb
theorem BkL.zfa {lo hi:Nat}{w:World}{own:Nat->Lb}{b:Bk}{a0 a1 a2 a3:OA}(h:BkL lo hi w own b a0 a1 a2 a3)(z:Nat)(hz:z<lo)(v0 v1 v2 v3 v4 v5 v6:Value):BkL lo hi (zfa w z v0 v1 v2 v3 v4 v5 v6) own b a0 a1 a2 a3:=
 BkF.left h ((Left.refl (fun k=>k=z) w).zfa rfl v0 v1 v2 v3 v4 v5 v6) (fun k hk h2=>by subst h2;have:=BkF.out h k (Or.inl hz);omega)
theorem Left.box {S:Nat->Prop}{b:Nat}{w w':World}{X:AV}(h:Left S w w')(hX:∀o,w.cell? (aD b o)=X[o]?)(hb:b<w.heap.size)(hn:¬S b):∀o,w'.cell? (aD b o)=X[o]?:=
 fun o=>by rw[<- hX o];unfold World.cell?;rw[h.out b hb hn]
structure zpv (w:World)(b:Bk)(a0 a1 a2 a3:OA):Prop where
 bk:jk w b a0 a1 a2 a3
 has:zcv w a0 b.os
theorem zpv.mono {w w':World}{b:Bk}{a0 a1 a2 a3:OA}(h:zpv w b a0 a1 a2 a3)(hb:Bw w w'):zpv w' b a0 a1 a2 a3:=⟨h.bk.mono hb,h.has.mono hb⟩
theorem zfL (b:Bk)(a0 a1 a2 a3:OA)(c0 c1 c2 c3:Nat)(w:World)(hl:jk w b a0 a1 a2 a3)(hf:b.Few) :
 Calls Tryz.prog 8 #[.agg (b.cells a0 a1 a2 a3 c0 c1 c2 c3)] w fun e w'=>∃d e' f g,e=.returned (.agg (b.cells d e' f g b.os.length b.gs.length b.ls.length b.ps.length))/\zpv w' b d e' f g/\Bw w w':=by
 refine(zkn b a0 a1 a2 a3 c0 c1 c2 c3 w hl hf).mono ?_;rintro e w'⟨d,e',f,g,rfl,h1,h2,hb⟩;exact⟨d,e',f,g,rfl,⟨h1,h2⟩,hb⟩
def zrS (lo:Nat)(w:World)(e:Ending)(rb:Bk)(rc:Int):Prop:=∃hi own d0 d1 d2 d3 e0 e1 e2 e3,e=.returned (.tuple #[.agg #[.i rb.now,.i rb.tick,.i rb.given,.l d0 rb.os.length e0,.l d1 rb.gs.length e1,.l d2 rb.ls.length e2,.l d3 rb.ps.length e3],.i rc])/\BkL lo hi w own rb d0 d1 d2 d3
theorem zkr.res {lo:Nat}{w:World}{e:Ending}{r:Bk × Int}{rb:Bk}{rc:Int}(h:zkr lo w e r)(hr:r=(rb,rc)):zrS lo w e rb rc:=by
 obtain⟨hi,own,d0,d1,d2,d3,e0,e1,e2,e3,h1,h2⟩:=h.ex;subst hr;exact⟨hi,own,d0,d1,d2,d3,e0,e1,e2,e3,h1,h2⟩
theorem zhM {f:Nat}{args:AV}{w:World}{r:Bk × Int}{rb:Bk}{rc:Int}(hr:r=(rb,rc))(h:Calls Tryz.prog f args w fun e w'=>zkr w.heap.size w' e r/\Bw w w'):Calls Tryz.prog f args w fun e w'=>zrS w.heap.size w' e rb rc/\Bw w w':=h.mono fun _ _ h=>⟨h.1.res hr,h.2⟩
end Go.Proofs.YtbfgkhgmnfghgaaGreat
