import Derived.Test.YtcgpjfcocmcodaaGreatM48
import Derived.Test.YtcgpjfcocmcodaaGreatM50
import Derived.Test.YtcgpjfcocmcodaaGreatM31
import Derived.Deep.Cut
import Derived.Test.YtcgpjfcocmcodaaGreatM40
set_option maxHeartbeats 8000000
namespace Go.Proofs.YtcgpjfcocmcodaaGreat
open Go.RowKit
noncomputable def zaT (l:Lw)(b:Bk):Bool:=zaI b&&(yc l b&&(yL b&&(yP l.ts b&&(y8 b&&zcP l b))))
noncomputable def jI (l:Lw)(b:Bk):Bool:=zcv l&&zaT l b
theorem za8 {ts:List Tm}{b:Bk}(h:yP ts b=true):rising y9 b.ls/\b.ls.length<=10/\∀i (hi:i<b.ls.length),yG ts b.ls[i]=true:=by
 unfold yP at h;simp only[Bool.and_eq_true,decide_eq_true_eq]at h;exact⟨(znk _ _).1 h.2.1,h.1,fun i hi=>List.all_eq_true.1 h.2.2 _ (List.getElem_mem _)⟩
theorem zg6 {b:Bk}(h:zaI b=true):0<=b.tick/\b.tick<=1000000:=by
 unfold zaI within at h;simp only[Bool.and_eq_true,decide_eq_true_eq]at h;exact h.2.1
theorem zgQ {b:Bk}(h:y8 b=true):b.ps.length<=24/\∀i (hi:i<b.ps.length),yw b.ls b.tick b.ps[i]=true:=by
 unfold y8 at h;simp only[Bool.and_eq_true,decide_eq_true_eq]at h;exact⟨h.1,fun i hi=>List.all_eq_true.1 h.2.2 _ (List.getElem_mem _)⟩
theorem zoI {b:Bk}(h:rising y9 b.ls):∀i j (hi:i<b.ls.length) (hj:j<b.ls.length),b.ls[i].tm=b.ls[j].tm->b.ls[i].rs=b.ls[j].rs->i=j:=by
 intro i j hi hj e1 e2
 have hz:∀i j (hi:i<b.ls.length) (hj:j<b.ls.length),i<j->b.ls[i].tm=b.ls[j].tm->b.ls[i].rs=b.ls[j].rs->False:=by
  intro i j hi hj hlt e1 e2;have h1:=zdW (fun a b c=>zbu (a:=a) (b:=b) (c:=c)) h j hj i hlt;have h2:y9 b.ls[i] b.ls[j]=0:=by unfold y9;rw[zdU];exact⟨e1,e2⟩
  omega
 rcases Nat.lt_trichotomy i j with h1|h1|h1
 ·exact(hz i j hi hj h1 e1 e2).elim
 ·exact h1
 ·exact(hz j i hj hi h1 e1.symm e2.symm).elim
theorem zq1 {ts:List Tm}{b:Bk}(h:yP ts b=true)(h':y8 b=true)(hz:qH b.os<=1048576):zjd b:=by
 obtain⟨h1,h2,h3⟩:=za8 h;obtain⟨p1,p2⟩:=zgQ h';refine⟨zoI h1,fun k hk=>?_,fun i hi=>?_,fun i hi=>?_,by omega,by omega,hz⟩
 ·have h4:=p2 k hk
  unfold yw yJ at h4;simp only[Bool.and_eq_true]at h4;obtain⟨g,hg,h5⟩:=List.any_eq_true.1 h4.1;obtain⟨j,hj,rfl⟩:=List.mem_iff_getElem.1 hg;simp only[Bool.and_eq_true,decide_eq_true_eq]at h5;exact⟨j,hj,h5.1,h5.2⟩
 ·have h4:=h3 i hi
  unfold yG q9 at h4;simp only[Bool.and_eq_true,decide_eq_true_eq]at h4;omega
 ·have h4:=p2 i hi
  unfold yw within at h4;simp only[Bool.and_eq_true,decide_eq_true_eq]at h4;omega
set_option maxRecDepth 20000 in
theorem zoi (l:Lw)(la lb lc:OA)(lca lcb lcc:Nat)(b:Bk)(a0 a1 a2 a3:OA)(c0 c1 c2 c3:Nat)(w:World)(hb:ji w b a0 a1 a2 a3)(hl:jA w l la lb lc)(hml:l.ms.length<=1048576)(hok:yB l.ss l.ms=true)(hfw:∀i (h:i<b.os.length),b.os[i].vs.length<=1048576/\b.os[i].hs.length<=1048576)(hz:qH b.os<=1048576) :
 Calls Tryz.prog 87 #[.agg #[.l la l.ss.length lca,.l lb l.ms.length lcb,.l lc l.ts.length lcc],.agg #[.i b.now,.i b.tick,.i b.given,.l a0 b.os.length c0,.l a1 b.gs.length c1,.l a2 b.ls.length c2,.l a3 b.ps.length c3]] w fun e w'=>e=.returned (.bool (zaT l b))/\Bw w w':=by
 have HK:=hid hb;have HL:=hid hl;have HF:Hid (l.ms.length<=1048576/\yB l.ss l.ms=true/\(∀i (h:i<b.os.length),b.os[i].vs.length<=1048576/\b.os[i].hs.length<=1048576)/\qH b.os<=1048576):=⟨hml,hok,hfw,hz⟩
 clear hb hl hml hok hfw hz;go_enter Tryz.func87,Tryz.ntmps87;go_wp2_with fail
 obtain⟨hL0,hX0⟩:=qX w #[.l la l.ss.length lca,.l lb l.ms.length lcb,.l lc l.ts.length lcc] (bC b a0 a1 a2 a3 c0 c1 c2 c3) 47 40;have HBi:Hid (Bw w ((w.alloc (.cells #[.l la l.ss.length lca,.l lb l.ms.length lcb,.l lc l.ts.length lcc] 47)).alloc (.cells (bC b a0 a1 a2 a3 c0 c1 c2 c3) 40))):=zw w _ _;obtain⟨W0,hW0⟩:=xN ((w.alloc (.cells #[.l la l.ss.length lca,.l lb l.ms.length lcb,.l lc l.ts.length lcc] 47)).alloc (.cells (bC b a0 a1 a2 a3 c0 c1 c2 c3) 40));have hz0:w.heap.size+1<W0.heap.size:=by rw[hW0];simp
 rw[<- hW0]at HBi hX0 hL0 ⊢;clear hW0;refine(zkT b a0 a1 a2 a3 c0 c1 c2 c3 _).mono ?_;rintro e w1⟨rfl,hb0⟩;have hX1:=za hX0 hz0 hb0;have hL1:=za hL0 (nSl hz0) hb0;have hz1:=nLt hz0 hb0.size;have hy1:=nSl hz1;have HBi:=hid (HBi.o.trans (hb0.mono HBi.o.size));clear hb0 hX0 hL0 hz0
 by_cases t:zaI b=true
 rotate_left
 ·have HN:Hid (zaT l b=false):=by unfold Hid zaT;rw[bFi t];rfl
  rw[bFi t];clear t;go_wp2_with fail
  go_ret;exact⟨ze HN.o.symm,HBi.o⟩
 have HT0:=hid t;rw[t];clear t;go_wp2_with fail
 refine(zjV l la lb lc lca lcb lcc b a0 a1 a2 a3 c0 c1 c2 c3 _ (HK.o.mono HBi.o) (HL.o.mono HBi.o) HF.o.1 HF.o.2.1 HF.o.2.2.1).mono ?_;rintro e w2⟨rfl,hb1⟩;have hX2:=za hX1 hz1 hb1;have hL2:=za hL1 (nSl hz1) hb1;have hz2:=nLt hz1 hb1.size;have hy2:=nSl hz2;have HBi:=hid (HBi.o.trans (hb1.mono HBi.o.size));clear hb1 hX1 hL1 hz1 hy1
 by_cases t:yc l b=true
 rotate_left
 ·have HN:Hid (zaT l b=false):=by unfold Hid zaT;rw[HT0.o,bFi t];rfl
  rw[bFi t];clear t;go_wp2_with fail
  go_ret;exact⟨ze HN.o.symm,HBi.o⟩
 have HT1:=hid t;rw[t];clear t;go_wp2_with fail
 refine(zk3 b a0 a1 a2 a3 c0 c1 c2 c3 _ (HK.o.mono HBi.o)).mono ?_;rintro e w3⟨rfl,hb2⟩;have hX3:=za hX2 hz2 hb2;have hL3:=za hL2 (nSl hz2) hb2;have hz3:=nLt hz2 hb2.size;have hy3:=nSl hz3;have HBi:=hid (HBi.o.trans (hb2.mono HBi.o.size));clear hb2 hX2 hL2 hz2 hy2
 by_cases t:yL b=true
 rotate_left
 ·have HN:Hid (zaT l b=false):=by unfold Hid zaT;rw[HT0.o,HT1.o,bFi t];rfl
  rw[bFi t];clear t;go_wp2_with fail
  go_ret;exact⟨ze HN.o.symm,HBi.o⟩
 have HT2:=hid t;rw[t];clear t;go_wp2_with fail
 refine(zjQ l la lb lc lca lcb lcc b a0 a1 a2 a3 c0 c1 c2 c3 _ (HK.o.mono HBi.o) (HL.o.mono HBi.o)).mono ?_;rintro e w4⟨rfl,hb3⟩;have hX4:=za hX3 hz3 hb3;have hL4:=za hL3 (nSl hz3) hb3;have hz4:=nLt hz3 hb3.size;have hy4:=nSl hz4;have HBi:=hid (HBi.o.trans (hb3.mono HBi.o.size));clear hb3 hX3 hL3 hz3 hy3
 by_cases t:yP l.ts b=true
 rotate_left
 ·have HN:Hid (zaT l b=false):=by unfold Hid zaT;rw[HT0.o,HT1.o,HT2.o,bFi t];rfl
  rw[bFi t];clear t;go_wp2_with fail
  go_ret;exact⟨ze HN.o.symm,HBi.o⟩
 have HT3:=hid t;rw[t];clear t;go_wp2_with fail
 refine(zk0 b a0 a1 a2 a3 c0 c1 c2 c3 _ (HK.o.mono HBi.o) (za8 HT3.o).1 (za8 HT3.o).2.1 (zg6 HT0.o)).mono ?_;rintro e w5⟨rfl,hb4⟩;have hX5:=za hX4 hz4 hb4;have hL5:=za hL4 (nSl hz4) hb4;have hz5:=nLt hz4 hb4.size;have hy5:=nSl hz5;have HBi:=hid (HBi.o.trans (hb4.mono HBi.o.size));clear hb4 hX4 hL4 hz4 hy4
 by_cases t:y8 b=true
 rotate_left
 ·have HN:Hid (zaT l b=false):=by unfold Hid zaT;rw[HT0.o,HT1.o,HT2.o,HT3.o,bFi t];rfl
  rw[bFi t];clear t;go_wp2_with fail
  go_ret;exact⟨ze HN.o.symm,HBi.o⟩
 have HT4:=hid t;rw[t];clear t;go_wp2_with fail
 refine(znL l la lb lc lca lcb lcc b a0 a1 a2 a3 c0 c1 c2 c3 _ (HL.o.mono HBi.o) (HK.o.mono HBi.o) (zq1 HT3.o HT4.o HF.o.2.2.2)).mono ?_;rintro e w6⟨rfl,hb5⟩;have HBe:=hid (HBi.o.trans (hb5.mono HBi.o.size));have HN:Hid (zcP l b=zaT l b):=by unfold Hid zaT;rw[HT0.o,HT1.o,HT2.o,HT3.o,HT4.o];rfl
 rw[HN.o];clear hb5 hX5 hL5 hz5 hy5;go_wp2_with fail
 go_ret;exact⟨rfl,HBe.o⟩
set_option maxRecDepth 20000 in
theorem zj6 (l:Lw)(la lb lc:OA)(lca lcb lcc:Nat)(b:Bk)(a0 a1 a2 a3:OA)(c0 c1 c2 c3:Nat)(w:World)(hl:jA w l la lb lc)(hb:ji w b a0 a1 a2 a3)(hlf:l.Few)(hbf:b.Few)(hz:qH b.os<=1048576) :
 Calls Tryz.prog 37 #[.agg (l.cells la lb lc lca lcb lcc),.agg (b.cells a0 a1 a2 a3 c0 c1 c2 c3)] w fun e w'=>e=.returned (.bool (jI l b))/\Bw w w':=by
 have HK:=hid hb;have HL:=hid hl;have HF:Hid (l.Few/\b.Few/\qH b.os<=1048576):=⟨hlf,hbf,hz⟩
 clear hb hl hlf hbf hz;unfold Lw.cells Bk.cells;go_enter Tryz.func37,Tryz.ntmps37;go_wp2_with fail
 obtain⟨hL0,hX0⟩:=qX w #[.l la l.ss.length lca,.l lb l.ms.length lcb,.l lc l.ts.length lcc] (bC b a0 a1 a2 a3 c0 c1 c2 c3) 47 40;have HBi:Hid (Bw w ((w.alloc (.cells #[.l la l.ss.length lca,.l lb l.ms.length lcb,.l lc l.ts.length lcc] 47)).alloc (.cells (bC b a0 a1 a2 a3 c0 c1 c2 c3) 40))):=zw w _ _;obtain⟨W0,hW0⟩:=xN ((w.alloc (.cells #[.l la l.ss.length lca,.l lb l.ms.length lcb,.l lc l.ts.length lcc] 47)).alloc (.cells (bC b a0 a1 a2 a3 c0 c1 c2 c3) 40));have hz0:w.heap.size+1<W0.heap.size:=by rw[hW0];simp
 rw[<- hW0]at HBi hX0 hL0 ⊢;clear hW0;refine(zlc l la lb lc lca lcb lcc _ (HL.o.mono HBi.o) HF.o.1).mono ?_;rintro e w1⟨rfl,hb0⟩;have hX1:=za hX0 hz0 hb0;have hL1:=za hL0 (nSl hz0) hb0;have hz1:=nLt hz0 hb0.size;have hy1:=nSl hz1;have HBi:=hid (HBi.o.trans (hb0.mono HBi.o.size));clear hb0 hX0 hL0 hz0
 by_cases t:zcv l=true
 rotate_left
 ·have HN:Hid (jI l b=false):=by unfold Hid jI;rw[bFi t];rfl
  rw[bFi t];clear t;go_wp2_with fail
  go_ret;exact⟨ze HN.o.symm,HBi.o⟩
 have HN:Hid (zaT l b=jI l b):=by unfold Hid jI;rw[t];rfl
 have HM:Hid (yB l.ss l.ms=true):=by unfold zcv at t;simp only[Bool.and_eq_true]at t;exact t.1
 rw[t];clear t;go_wp2_with fail
 refine(zoi l la lb lc lca lcb lcc b a0 a1 a2 a3 c0 c1 c2 c3 _ (HK.o.mono HBi.o) (HL.o.mono HBi.o) HF.o.1.ms HM.o HF.o.2.1.os.2 HF.o.2.2).mono ?_;rintro e w2⟨rfl,hb1⟩;have HBe:=hid (HBi.o.trans (hb1.mono HBi.o.size));rw[HN.o];clear hb1 hX1 hL1 hz1 hy1;go_wp2_with fail
 go_ret;exact⟨rfl,HBe.o⟩
structure Within (ls:List Lg)(n:Nat):Prop where
 fr:∀g∈ls,0<=g.fr/\g.fr<=1000000*((n:Int)+1)
def zaO:Bk:=⟨0,0,0,[],[],[],[]⟩
theorem zbj (l:Lw)(b:Bk):jI l b=(zcv l&&((within b.now 0 1000000&&(within b.tick 0 1000000&&within b.given 0 b.now))&&(yc l b&&(yL b&&qx l b)))):=rfl
theorem ze1 (n lo hi:Int)(w:World):Calls Tryz.prog 26 #[.i n,.i lo,.i hi] w fun e w'=>e=.returned (.bool (within n lo hi))/\w'=w:=yt n lo hi w
theorem zqf {n lo hi:Int}(h:within n lo hi=true):lo<=n/\n<=hi:=by unfold within at h;simpa using h
set_option maxRecDepth 20000 in
theorem zj9 (l:Lw)(la lb lc:OA)(lca lcb lcc:Nat)(b:Bk)(a0 a1 a2 a3:OA)(c0 c1 c2 c3:Nat)(w:World)(hl:jA w l la lb lc)(hb:ji w b a0 a1 a2 a3)(hh:zcp w a0 b.os)(hbf:b.Few)(hz:qH b.os<=1048576) :
 Calls Tryz.prog 22 #[.agg (l.cells la lb lc lca lcb lcc),.agg (b.cells a0 a1 a2 a3 c0 c1 c2 c3)] w fun e w'=>e=.returned (.bool (jI l b))/\Bw w w':=by
 have HK:=hid hb;have HL:=hid hl;have HH:=hid hh;have HF:Hid (b.Few/\qH b.os<=1048576):=⟨hbf,hz⟩
 clear hb hl hh hbf hz;unfold Lw.cells Bk.cells;go_enter Tryz.func22,Tryz.ntmps22;go_wp2_with fail
 obtain⟨hL0,hX0⟩:=qX w #[.l la l.ss.length lca,.l lb l.ms.length lcb,.l lc l.ts.length lcc] (bC b a0 a1 a2 a3 c0 c1 c2 c3) 47 40;have HBi:Hid (Bw w ((w.alloc (.cells #[.l la l.ss.length lca,.l lb l.ms.length lcb,.l lc l.ts.length lcc] 47)).alloc (.cells (bC b a0 a1 a2 a3 c0 c1 c2 c3) 40))):=zw w _ _;obtain⟨W0,hW0⟩:=xN ((w.alloc (.cells #[.l la l.ss.length lca,.l lb l.ms.length lcb,.l lc l.ts.length lcc] 47)).alloc (.cells (bC b a0 a1 a2 a3 c0 c1 c2 c3) 40));have hz0:w.heap.size+1<W0.heap.size:=by rw[hW0];simp
 rw[<- hW0]at HBi hX0 hL0 ⊢;clear hW0;refine(zkW l la lb lc lca lcb lcc _ (HL.o.mono HBi.o)).mono ?_;rintro e w1⟨rfl,hb0⟩;have hX1:=za hX0 hz0 hb0;have hL1:=za hL0 (nSl hz0) hb0;have hz1:=nLt hz0 hb0.size;have HBi:=hid (HBi.o.trans (hb0.mono HBi.o.size));clear hb0 hX0 hL0 hz0;have hy1:=nSl hz1
 by_cases t:zcv l=true
 rotate_left
 ·have HN:Hid (jI l b=false):=by rw[Hid,zbj,bFi t];simp
  rw[bFi t];clear t;go_wp2_with fail
  go_ret;exact⟨ze HN.o.symm,HBi.o⟩
 have HT0:=hid t;rw[t];clear t;go_wp2_with fail
 have HM:Hid (yB l.ss l.ms=true):=by have t:=HT0.o;unfold zcv at t;simp only[Bool.and_eq_true]at t;exact t.1
 refine(ze1 b.now (0) (1000000) _).mono ?_;rintro e w2⟨rfl,rfl⟩;have hX2:=hX1;have hL2:=hL1;have hz2:=hz1;clear hX1 hL1 hz1;have hy2:=nSl hz2;have hcv:within b.now 0 1000000=within b.now 0 1000000:=rfl;clear hcv
 by_cases t:within b.now 0 1000000=true
 rotate_left
 ·have HN:Hid (jI l b=false):=by rw[Hid,zbj,HT0.o,bFi t];simp
  rw[bFi t];clear t;go_wp2_with fail
  go_ret;exact⟨ze HN.o.symm,HBi.o⟩
 have HT1:=hid t;rw[t];clear t;go_wp2_with fail
 refine(ze1 b.tick (0) (1000000) _).mono ?_;rintro e w3⟨rfl,rfl⟩;have hX3:=hX2;have hL3:=hL2;have hz3:=hz2;clear hX2 hL2 hz2;have hy3:=nSl hz3;have hcv:within b.tick 0 1000000=within b.tick 0 1000000:=rfl;clear hcv
 by_cases t:within b.tick 0 1000000=true
 rotate_left
 ·have HN:Hid (jI l b=false):=by rw[Hid,zbj,HT0.o,HT1.o,bFi t];simp
  rw[bFi t];clear t;go_wp2_with fail
  go_ret;exact⟨ze HN.o.symm,HBi.o⟩
 have HT2:=hid t;rw[t];clear t;go_wp2_with fail
 refine(ze1 b.given (0) (b.now) _).mono ?_;rintro e w4⟨rfl,rfl⟩;have hX4:=hX3;have hL4:=hL3;have hz4:=hz3;clear hX3 hL3 hz3;have hy4:=nSl hz4;have hcv:within b.given 0 b.now=within b.given 0 b.now:=rfl;clear hcv
 by_cases t:within b.given 0 b.now=true
 rotate_left
 ·have HN:Hid (jI l b=false):=by rw[Hid,zbj,HT0.o,HT1.o,HT2.o,bFi t];simp
  rw[bFi t];clear t;go_wp2_with fail
  go_ret;exact⟨ze HN.o.symm,HBi.o⟩
 have HT3:=hid t;rw[t];clear t;go_wp2_with fail
 refine(zi0 l la lb lc lca lcb lcc b a0 a1 a2 a3 c0 c1 c2 c3 _ (HL.o.mono HBi.o) (HK.o.mono HBi.o) (HH.o.mono HBi.o) HM.o HF.o.1.os.2).mono ?_;rintro e w5⟨rfl,hb4⟩;have hX5:=za hX4 hz4 hb4;have hL5:=za hL4 (nSl hz4) hb4;have hz5:=nLt hz4 hb4.size;have HBi:=hid (HBi.o.trans (hb4.mono HBi.o.size));clear hb4 hX4 hL4 hz4;have hy5:=nSl hz5
 by_cases t:yc l b=true
 rotate_left
 ·have HN:Hid (jI l b=false):=by rw[Hid,zbj,HT0.o,HT1.o,HT2.o,HT3.o,bFi t];simp
  rw[bFi t];clear t;go_wp2_with fail
  go_ret;exact⟨ze HN.o.symm,HBi.o⟩
 have HT4:=hid t;rw[t];clear t;go_wp2_with fail
 refine(zkG b a0 a1 a2 a3 c0 c1 c2 c3 _ (HK.o.mono HBi.o)).mono ?_;rintro e w6⟨rfl,hb5⟩;have hX6:=za hX5 hz5 hb5;have hL6:=za hL5 (nSl hz5) hb5;have hz6:=nLt hz5 hb5.size;have HBi:=hid (HBi.o.trans (hb5.mono HBi.o.size));clear hb5 hX5 hL5 hz5;have hy6:=nSl hz6
 by_cases t:yL b=true
 rotate_left
 ·have HN:Hid (jI l b=false):=by rw[Hid,zbj,HT0.o,HT1.o,HT2.o,HT3.o,HT4.o,bFi t];simp
  rw[bFi t];clear t;go_wp2_with fail
  go_ret;exact⟨ze HN.o.symm,HBi.o⟩
 have HT5:=hid t;rw[t];clear t;go_wp2_with fail
 refine(zlU l la lb lc lca lcb lcc b a0 a1 a2 a3 c0 c1 c2 c3 _ (HL.o.mono HBi.o) (HK.o.mono HBi.o) (zqf HT2.o) HF.o.2).mono ?_;rintro e w7⟨rfl,hb6⟩;have hX7:=za hX6 hz6 hb6;have hL7:=za hL6 (nSl hz6) hb6;have hz7:=nLt hz6 hb6.size;have HBi:=hid (HBi.o.trans (hb6.mono HBi.o.size));clear hb6 hX6 hL6 hz6;have hy7:=nSl hz7;have HN:Hid (qx l b=jI l b):=by rw[Hid,zbj,HT0.o,HT1.o,HT2.o,HT3.o,HT4.o,HT5.o];rfl
 rw[HN.o];go_wp2_with fail
 go_ret;exact⟨rfl,HBi.o⟩
structure zka (lo:Nat)(w:World)(e:Ending)(r:Bk × Int):Prop where
 ex:∃hi own d0 d1 d2 d3 e0 e1 e2 e3,e=.returned (.tuple #[.agg (r.1.cells d0 d1 d2 d3 e0 e1 e2 e3),.i r.2])/\BkL lo hi w own r.1 d0 d1 d2 d3
theorem BkF.low {lo lo' hi:Nat}{w:World}{own:Nat->Lb}{a0 a1 a2 a3:OA}{n0 n1 n2 n3:Nat}{f0:Nat->Ob}{f1:Nat->Gr}{f2:Nat->Lg}{f3:Nat->Pu}(h:BkF lo hi w own a0 a1 a2 a3 n0 n1 n2 n3 f0 f1 f2 f3)(hl:lo'<=lo):BkF lo' hi w own a0 a1 a2 a3 n0 n1 n2 n3 f0 f1 f2 f3:=
 ⟨h.os.low hl,h.gs.low hl,h.ls.low hl,h.ps.low hl,fun k hk=>h.out k (by omega),Nat.le_trans hl h.le,h.hi⟩
structure zrC (b:Bk):Prop where
 rise:rising y9 b.ls
 len:b.ls.length<=10
 fr:Within b.ls 0
 plen:b.ps.length<=24
 has:∀i (h:i<b.ps.length),yJ b.ls b.ps[i].tm b.ps[i].rs=true
 am:∀p∈b.ps,1<=p.am/\p.am<=1000000
 tick:0<=b.tick/\b.tick<=1000000
theorem zjk {l:Lw}{b:Bk}(h:jI l b=true):zrC b:=by
 unfold jI zaT at h;simp only[Bool.and_eq_true]at h;obtain⟨h1,h2,h3⟩:=za8 h.2.2.2.2.1;obtain⟨h4,h5⟩:=zgQ h.2.2.2.2.2.1
 have hp:∀i (hi:i<b.ps.length),yJ b.ls b.ps[i].tm b.ps[i].rs=true/\1<=b.ps[i].am/\b.ps[i].am<=1000000:=fun i hi=>by
  have h6:=h5 i hi;unfold yw within at h6;simp only[Bool.and_eq_true,decide_eq_true_eq]at h6;exact⟨h6.1,h6.2.2.1⟩
 refine⟨h1,h2,⟨fun g hg=>?_⟩,h4,fun i hi=>(hp i hi).1,fun p hp'=>?_,zg6 h.2.1⟩
 ·obtain⟨i,hi,rfl⟩:=List.mem_iff_getElem.1 hg
  have h6:=h3 i hi;unfold yG q9 at h6;simp only[Bool.and_eq_true,decide_eq_true_eq]at h6;omega
 ·obtain⟨i,hi,rfl⟩:=List.mem_iff_getElem.1 hp'
  exact(hp i hi).2
theorem zbK.idx {ls:List Lg}{tm rs:BA}{k:Nat}(h:zbK ls tm rs k)(hr:rising y9 ls)(hh:yJ ls tm rs=true):ls.findIdx (j3 tm rs)=k:=by
 obtain⟨hk,he⟩:=(h.found hr).1 hh;rw[List.findIdx_eq hk];refine⟨by unfold j3;simp[he.1,he.2],fun j hj=>?_⟩;have h1:=h.below j (by omega) hj;rw[Bool.eq_false_iff];intro h2;unfold j3 at h2;simp only[Bool.and_eq_true,decide_eq_true_eq]at h2;rw[zdU.2 h2]at h1;omega
theorem zqr {ls:List Lg}{tm rs:BA}(h:yJ ls tm rs=true):zdc (j3 tm rs) ls=(ls.findIdx (j3 tm rs):Nat)/\ls.findIdx (j3 tm rs)<ls.length:=⟨if_pos h,List.findIdx_lt_length.2 (List.any_eq_true.1 h)⟩
theorem zmC {ls:List Lg}{tm rs:BA}(h:yJ ls tm rs=false):zdc (j3 tm rs) ls=-1/\¬ls.findIdx (j3 tm rs)<ls.length:=by
 have h':ls.any (j3 tm rs)=false:=h;refine⟨if_neg (by rw[h'];simp),fun h2=>?_⟩;have h3:=List.any_eq_true.2 (List.findIdx_lt_length.1 h2);rw[h3]at h'
 cases h'
theorem zpy {w:World}{b:Nat}{x0 x1 x2 x3 x4 x5 x6:Value}{t:TypeId}(h:w.heap[b]?=some (.cells #[x0,x1,x2,x3,x4,x5,x6] t))(v0 v1 v2 v3 v4 v5 v6:Value):(zeT w b v0 v1 v2 v3 v4 v5 v6).heap[b]?=some (.cells #[v0,v1,v2,v3,v4,v5,v6] t):=by
 unfold zeT;rw[zi (zi (zi (zi (zi (zi (zi h v0) v1) v2) v3) v4) v5) v6]
 rfl
theorem Left.zeT {S:Nat->Prop}{w W:World}(h:Left S w W){b:Nat}(hb:S b)(v0 v1 v2 v3 v4 v5 v6:Value):Left S w (zeT W b v0 v1 v2 v3 v4 v5 v6):=
 ((((((h.set hb 0 v0).set hb 1 v1).set hb 2 v2).set hb 3 v3).set hb 4 v4).set hb 5 v5).set hb 6 v6
theorem BkL.mono {lo hi:Nat}{w w':World}{own:Nat->Lb}{b:Bk}{a0 a1 a2 a3:OA}(h:BkL lo hi w own b a0 a1 a2 a3)(hb:Bw w w'):BkL lo hi w' own b a0 a1 a2 a3:=BkF.mono h hb
theorem BkM.mono {lo hi:Nat}{w w':World}{own:Nat->Lb}{b:Bk}{a0 a1 a2 a3:OA}(h:BkM lo hi w own b a0 a1 a2 a3)(hb:Bw w w'):BkM lo hi w' own b a0 a1 a2 a3:=BkF.mono h hb
theorem BkL.zeT {lo hi:Nat}{w:World}{own:Nat->Lb}{b:Bk}{a0 a1 a2 a3:OA}(h:BkL lo hi w own b a0 a1 a2 a3)(z:Nat)(hz:z<lo)(v0 v1 v2 v3 v4 v5 v6:Value):BkL lo hi (zeT w z v0 v1 v2 v3 v4 v5 v6) own b a0 a1 a2 a3:=
 BkF.left h ((Left.refl (fun k=>k=z) w).zeT rfl v0 v1 v2 v3 v4 v5 v6) (fun k hk h2=>by subst h2;have:=BkF.out h k (Or.inl hz);omega)
theorem Left.box {S:Nat->Prop}{b:Nat}{w w':World}{X:AV}(h:Left S w w')(hX:∀o,w.cell? (aD b o)=X[o]?)(hb:b<w.heap.size)(hn:¬S b):∀o,w'.cell? (aD b o)=X[o]?:=
 fun o=>by rw[<- hX o];unfold World.cell?;rw[h.out b hb hn]
structure zpr (w:World)(b:Bk)(a0 a1 a2 a3:OA):Prop where
 bk:ji w b a0 a1 a2 a3
 has:zcp w a0 b.os
theorem zpr.mono {w w':World}{b:Bk}{a0 a1 a2 a3:OA}(h:zpr w b a0 a1 a2 a3)(hb:Bw w w'):zpr w' b a0 a1 a2 a3:=⟨h.bk.mono hb,h.has.mono hb⟩
theorem zfO (b:Bk)(a0 a1 a2 a3:OA)(c0 c1 c2 c3:Nat)(w:World)(hl:ji w b a0 a1 a2 a3)(hf:b.Few) :
 Calls Tryz.prog 8 #[.agg (b.cells a0 a1 a2 a3 c0 c1 c2 c3)] w fun e w'=>∃d e' f g,e=.returned (.agg (b.cells d e' f g b.os.length b.gs.length b.ls.length b.ps.length))/\zpr w' b d e' f g/\Bw w w':=by
 refine(zke b a0 a1 a2 a3 c0 c1 c2 c3 w hl hf).mono ?_;rintro e w'⟨d,e',f,g,rfl,h1,h2,hb⟩;exact⟨d,e',f,g,rfl,⟨h1,h2⟩,hb⟩
def zrv (lo:Nat)(w:World)(e:Ending)(rb:Bk)(rc:Int):Prop:=∃hi own d0 d1 d2 d3 e0 e1 e2 e3,e=.returned (.tuple #[.agg #[.i rb.now,.i rb.tick,.i rb.given,.l d0 rb.os.length e0,.l d1 rb.gs.length e1,.l d2 rb.ls.length e2,.l d3 rb.ps.length e3],.i rc])/\BkL lo hi w own rb d0 d1 d2 d3
theorem zka.res {lo:Nat}{w:World}{e:Ending}{r:Bk × Int}{rb:Bk}{rc:Int}(h:zka lo w e r)(hr:r=(rb,rc)):zrv lo w e rb rc:=by
 obtain⟨hi,own,d0,d1,d2,d3,e0,e1,e2,e3,h1,h2⟩:=h.ex;subst hr;exact⟨hi,own,d0,d1,d2,d3,e0,e1,e2,e3,h1,h2⟩
theorem zhK {f:Nat}{args:AV}{w:World}{r:Bk × Int}{rb:Bk}{rc:Int}(hr:r=(rb,rc))(h:Calls Tryz.prog f args w fun e w'=>zka w.heap.size w' e r/\Bw w w'):Calls Tryz.prog f args w fun e w'=>zrv w.heap.size w' e rb rc/\Bw w w':=h.mono fun _ _ h=>⟨h.1.res hr,h.2⟩
noncomputable def jg (ls:List Lg)(g:Lg):Nat:=ls.findIdx fun h=>decide (0<y9 h g)
noncomputable def zbp (ls:List Lg)(g:Lg):List Lg:=ls.take (jg ls g)++g :: ls.drop (jg ls g)
noncomputable def qZ (ls:List Lg)(g:Lg):List Lg × Int:=
 if h:ls.findIdx (j3 g.tm g.rs)<ls.length then
  (if ls[ls.findIdx (j3 g.tm g.rs)].fr+g.mo-ls[ls.findIdx (j3 g.tm g.rs)].mo<0 then (ls,3) else (ls.set (ls.findIdx (j3 g.tm g.rs)) ⟨g.tm,g.rs,g.mo,ls[ls.findIdx (j3 g.tm g.rs)].fr+g.mo-ls[ls.findIdx (j3 g.tm g.rs)].mo⟩,0))
 else if g.fr<0 then (ls,3) else if ls.length=10 then (ls,4) else (zbp ls g,0)
noncomputable def ze3 (b:Bk)(g:Lg):Bk × Int:=({ b with ls:=(qZ b.ls g).1 },(qZ b.ls g).2)
noncomputable def bound (l:Lw)(b:Bk)(tm rs:BA)(mo:Int):Bk × Int:=if jI l b=true then (if (z8 l.ts tm&&(zx rs&&within mo 0 1000000))=true then ze3 b ⟨tm,rs,mo,mo-used l b.os tm rs⟩ else (b,2)) else (zaO,1)
theorem zbK.free {ls:List Lg}{g:Lg}{k:Nat}(h:zbK ls g.tm g.rs k)(hh:yJ ls g.tm g.rs=false):jg ls g=k:=by
 have hno:∀i (hi:i<ls.length),y9 ls[i] g≠0:=fun i hi e=>by
  unfold y9 at e;have e1:=zdU.1 e;unfold yJ at hh;rw[List.any_eq_false]at hh;exact hh ls[i] (List.getElem_mem hi) (by simp[e1.1,e1.2])
 unfold jg
 by_cases hk:k<ls.length
 ·rw[List.findIdx_eq hk]
  refine⟨?_,fun j hj=>?_⟩
  ·have h1:0<=y9 ls[k] g:=h.above k hk (Nat.le_refl _)
   have h2:=hno k hk;simp only[decide_eq_true_eq];omega
  ·have h1:y9 ls[j] g<0:=h.below j (by omega) hj
   simp only[decide_eq_false_iff_not];omega
 ·have hle:=h.le
  rw[show k=ls.length by omega,List.findIdx_eq_length];intro x hx;obtain⟨j,hj,rfl⟩:=List.mem_iff_getElem.1 hx;have h1:y9 ls[j] g<0:=h.below j hj (by omega);simp only[decide_eq_false_iff_not];omega
theorem zmg (ls:List Lg)(g:Lg):(zbp ls g).length=ls.length+1:=by
 unfold zbp;rw[List.length_append,List.length_take,List.length_cons,List.length_drop]
 have:jg ls g<=ls.length:=List.findIdx_le_length
 omega
theorem zpb (ls:List Lg)(g:Lg){P:Lg->Prop}(h:∀x∈ls,P x)(hg:∀fr,P ⟨g.tm,g.rs,g.mo,fr⟩):∀x∈(qZ ls g).1,P x:=by
 unfold qZ
 split
 ·split
  ·exact h
  ·intro x hx
   rcases List.mem_or_eq_of_mem_set hx with h1|h1
   ·exact h x h1
   ·rw[h1];exact hg _
 ·split
  ·exact h
  ·split
   ·exact h
   ·intro x hx
    unfold zbp at hx
    rcases List.mem_append.1 hx with h1|h1
    ·exact h x (List.mem_of_mem_take h1)
    ·rcases List.mem_cons.1 h1 with h2|h2
     ·rw[h2];exact hg g.fr
     ·exact h x (List.mem_of_mem_drop h2)
theorem zhj {b:Bk}{g:Lg}{c:Int}(h:qZ b.ls g=(b.ls,c)):ze3 b g=(b,c):=by unfold ze3;rw[h]
theorem zku (ls:List Lg)(g:Lg)(h:ls.length<=10):(qZ ls g).1.length<=10:=by
 unfold qZ
 split
 ·split <;> simpa using h
 ·split
  ·exact h
  ·split
   ·exact h
   ·show(zbp ls g).length<=_
    rw[zmg];omega
theorem zp5 {l:Lw}{b rb:Bk}{rc mo:Int}{tm rs:BA}(h:bound l b tm rs mo=(rb,rc))(hf:b.Few):rb.Few:=by
 have e:rb=(bound l b tm rs mo).1:=by rw[h]
 rw[e];unfold bound
 split
 ·rename_i hok
  split
  ·refine⟨hf.os,hf.gs,?_,hf.ps⟩
   have h1:=zku b.ls ⟨tm,rs,mo,mo-used l b.os tm rs⟩ (zjk hok).len
   show(qZ _ _).1.length<=_
   omega
  ·exact hf
 ·exact⟨⟨Nat.zero_le _,fun i hi=>absurd hi (Nat.not_lt_zero i)⟩,⟨Nat.zero_le _,fun i hi=>absurd hi (Nat.not_lt_zero i)⟩,Nat.zero_le _,Nat.zero_le _⟩
theorem znc {l:Lw}{b rb:Bk}{rc mo:Int}{tm rs:BA}(ht:tm.size<=maxLen)(hr:rs.size<=maxLen)(h:bound l b tm rs mo=(rb,rc))(hs:b.Small):rb.Small:=by
 have e:rb=(bound l b tm rs mo).1:=by rw[h]
 rw[e];unfold bound
 split
 ·rename_i hok
  split
  ·refine⟨hs.os,hs.lo,hs.gs,hs.lg,fun i hi=>?_,?_,hs.ps,hs.lp⟩
   ·exact zpb b.ls ⟨tm,rs,mo,mo-used l b.os tm rs⟩ (P:=Lg.Small) (fun g hg=>by obtain⟨z,hz,rfl⟩:=List.mem_iff_getElem.1 hg;exact hs.ls z hz) (fun fr=>⟨ht,hr⟩) _ (List.getElem_mem hi)
   ·have h1:=zku b.ls ⟨tm,rs,mo,mo-used l b.os tm rs⟩ (zjk hok).len
    show(qZ _ _).1.length<=_
    unfold maxLen;omega
  ·exact hs
 ·refine⟨⟨fun i hi=>absurd hi (Nat.not_lt_zero i)⟩,Nat.zero_le _,⟨fun i hi=>absurd hi (Nat.not_lt_zero i)⟩,Nat.zero_le _,fun i hi=>absurd hi (Nat.not_lt_zero i),Nat.zero_le _,fun i hi=>absurd hi (Nat.not_lt_zero i),Nat.zero_le _⟩
theorem zcw {lo hi R:Nat}{w w4 W:World}{own:Nat->Lb}{b:Bk}{d0 d1 d2 d3:OA}{e0 e1 e2 e3:Nat}{r:Bk × Int}{c:Int}(hr:r=(b,c))(h:BkL lo hi w4 own b d0 d1 d2 d3)(hb:Bw w4 W)(hB:Bw w w4)(hR:R<lo)(hwR:w.heap.size<=R)(v0 v1 v2 v3 v4 v5 v6:Value) :
 zka w.heap.size (zeT W R v0 v1 v2 v3 v4 v5 v6) (.returned (.tuple #[.agg #[.i b.now,.i b.tick,.i b.given,.l d0 b.os.length e0,.l d1 b.gs.length e1,.l d2 b.ls.length e2,.l d3 b.ps.length e3],.i c])) r/\Bw w (zeT W R v0 v1 v2 v3 v4 v5 v6):=by
 subst hr;exact⟨⟨hi,own,d0,d1,d2,d3,e0,e1,e2,e3,rfl,BkF.low ((BkL.mono h hb).zeT R hR v0 v1 v2 v3 v4 v5 v6) (by omega)⟩,jq (hB.trans (hb.mono hB.size)) R hwR v0 v1 v2 v3 v4 v5 v6⟩
theorem zey {lo hi R:Nat}{w w3 w4:World}{own own':Nat->Lb}{b:Bk}{d0 d1 d2 d3 va:OA}{e0 e1 e3 vc:Nat}{ls:List Lg}{c:Int}{r:Bk × Int}(hr:r=({ b with ls:=ls },c))(h:BkL lo hi w3 own b d0 d1 d2 d3)(hL:Left (fun q=>(own q).1=2 \/ (own q).1=9) w3 w4)(hag:∀q,q<w3.heap.size->own' q=own q)(hl:zdb lo w4 own' (.l va ls.length vc) ls)(hB:Bw w w4)(hR:R<lo)(hwR:w.heap.size<=R)(v0 v1 v2 v3 v4 v5 v6:Value) :
 zka w.heap.size (zeT w4 R v0 v1 v2 v3 v4 v5 v6) (.returned (.tuple #[.agg #[.i b.now,.i b.tick,.i b.given,.l d0 b.os.length e0,.l d1 b.gs.length e1,.l va ls.length vc,.l d3 b.ps.length e3],.i c])) r/\Bw w (zeT w4 R v0 v1 v2 v3 v4 v5 v6):=by
 subst hr;have hz4:=hL.size;have hle:=h.le;have hhi:=h.hi;obtain⟨o2,ho2⟩:∃o2:Nat->Lb,o2=fun k=>if k<w3.heap.size then own k else if k<w4.heap.size then own' k else (9,0,0):=⟨_,rfl⟩
 have hoo:∀k,(own k).1≠9->o2 k=own k:=fun k hk=>by
  rw[ho2];exact if_pos (Nat.lt_of_not_le fun h9=>hk (h.out k (Or.inr (by omega))))
 have hlo:∀k,k<w4.heap.size->(own' k).1=2->o2 k=own' k:=fun k hk _=>by
  rw[ho2]
  show(if _ then _ else _:Lb)=_
  by_cases h8:k<w3.heap.size
  ·rw[if_pos h8,hag k h8]
  ·rw[if_neg h8,if_pos hk]
 obtain⟨a',c',he,hls⟩:=(hl.own hlo).lie;simp only[Value.slice.injEq]at he;obtain⟨rfl,_,rfl⟩:=he
 have hN:BkL lo w4.heap.size w4 o2 { b with ls:=ls } d0 d1 va d3:=by
  refine⟨(h.os.left hL (fun k h1 h2=>by omega)).own (fun k _ h=>hoo k (by omega)),(h.gs.left hL (fun k h1 h2=>by omega)).own (fun k _ h=>hoo k (by omega)),hls,(h.ps.left hL (fun k h1 h2=>by omega)).own (fun k _ h=>hoo k (by omega)),fun k hk=>?_,by omega,Nat.le_refl _⟩;rw[ho2]
  show(if _ then _ else _:Lb).1=_
  rcases hk with hk|hk
  ·rw[if_pos (by omega)];exact h.out k (Or.inl hk)
  ·rw[if_neg (by omega),if_neg (by omega)]
 exact⟨⟨w4.heap.size,o2,d0,d1,va,d3,e0,e1,vc,e3,rfl,BkF.low (hN.zeT R hR v0 v1 v2 v3 v4 v5 v6) (by omega)⟩,jq hB R hwR v0 v1 v2 v3 v4 v5 v6⟩
structure zrG (ls:List Lg)(g:Lg):Prop where
 lm:∀x∈ls,x.Small
 ll:ls.length<=10
 lr:rising y9 ls
 lf:∀x∈ls,(0<=x.fr/\x.fr<=1000000000)/\0<=x.mo/\x.mo<=1000000
 mo:0<=g.mo/\g.mo<=1000000
theorem zfM {l:Lw}{b:Bk}(h:jI l b=true):∀g∈b.ls,(0<=g.fr/\g.fr<=1000000000)/\0<=g.mo/\g.mo<=1000000:=by
 unfold jI zaT at h;simp only[Bool.and_eq_true]at h;obtain⟨_,_,h3⟩:=za8 h.2.2.2.2.1;intro g hg;obtain⟨i,hi,rfl⟩:=List.mem_iff_getElem.1 hg;have h6:=h3 i hi;unfold yG q9 at h6;simp only[Bool.and_eq_true,decide_eq_true_eq]at h6;omega
theorem zrk {lo:Nat}{w:World}{g cap k:Nat}{qs:List Lg}(h:w.ownsRow lo 69 4 (.l (some (aD g 0)) qs.length cap) qs.length (qs.flatMap Lg.row))(hk:k<qs.length)(y:Lg) :
 ((((w.setCell (aD g (k*4)) (.s y.tm)).setCell (aD g (k*4+1)) (.s y.rs)).setCell (aD g (k*4+2)) (.i y.mo)).setCell (aD g (k*4+3)) (.i y.fr)).ownsRow lo 69 4 (.l (some (aD g 0)) qs.length cap) qs.length ((qs.set k y).flatMap Lg.row):=by
 have h2:=zfu (zfu (zfu (zfu h (k*4) (.s y.tm)) (k*4+1) (.s y.rs)) (k*4+2) (.i y.mo)) (k*4+3) (.i y.fr);have e0:=zc3 Lg.row 4 (fun _=>rfl) qs k hk 0 (.s y.tm) ⟨y.tm,qs[k].rs,qs[k].mo,qs[k].fr⟩ (by omega) rfl;have e1:=zc3 Lg.row 4 (fun _=>rfl) (qs.set k ⟨y.tm,qs[k].rs,qs[k].mo,qs[k].fr⟩) k (by simpa using hk) 1 (.s y.rs) ⟨y.tm,y.rs,qs[k].mo,qs[k].fr⟩ (by omega) (by rw[List.getElem_set_self];rfl);have e2:=zc3 Lg.row 4 (fun _=>rfl) (qs.set k ⟨y.tm,y.rs,qs[k].mo,qs[k].fr⟩) k (by simpa using hk) 2 (.i y.mo) ⟨y.tm,y.rs,y.mo,qs[k].fr⟩ (by omega) (by rw[List.getElem_set_self];rfl);have e3:=zc3 Lg.row 4 (fun _=>rfl) (qs.set k ⟨y.tm,y.rs,y.mo,qs[k].fr⟩) k (by simpa using hk) 3 (.i y.fr) y (by omega) (by rw[List.getElem_set_self];rfl);rw[List.set_set]at e1 e2 e3;rw[e3,e2,e1,e0];exact h2
theorem zlZ {S S':Nat->Prop}{w w2 W:World}(hB:Bw w w2)(hL:Left S w2 W)(hS:∀q,q<w.heap.size->S q->S' q):Left S' w W:=⟨hL.os.trans hB.os,hL.tape.trans hB.tape,hL.output.trans hB.output,Nat.le_trans hB.size hL.size,fun q hq hn=>(hL.out q (by have:=hB.size;omega) (fun h=>hn (hS q hq h))).trans (hB.block q hq)⟩
set_option maxRecDepth 20000 in
theorem zrh (lo x:Nat)(own:Nat->Lb)(now tick given:Int)(v0 v1 v3:Value)(a2:OA)(c2:Nat)(ls:List Lg)(g:Lg)(w:World)(hx:w.heap[x]?=some (.cells #[.i now,.i tick,.i given,v0,v1,.l a2 ls.length c2,v3] 40))
 (hl:zdb lo w own (.l a2 ls.length c2) ls) (hxo:(own x).1≠2) (hnw:∀q,w.heap.size<=q->(own q).1≠2) (hlo:lo<=w.heap.size) (ho:zrG ls g) :
 Calls Tryz.prog 42 #[.pointer (some (aD x 0)),.agg #[.s g.tm,.s g.rs,.i g.mo,.i g.fr]] w fun e w'=>e=.returned (.i (qZ ls g).2)/\∃v own',(∀q,q<w.heap.size->own' q=own q)/\w'.heap[x]?=some (.cells #[.i now,.i tick,.i given,v0,v1,v,v3] 40)/\zdb lo w' own' v (qZ ls g).1/\Left (fun q=>q=x \/ (own q).1=2) w w':=by
 have HX:=hid hx;have HL:=hid hl;have HO:=zbX ho hxo hlo hnw;have hxw:=(gES hx).1;have hBa:=(bRf w.heap.size w).alloc (Nat.le_refl _) (.cells #[.s g.tm,.s g.rs,.i g.mo,.i g.fr] 69);have kP:=alloc_at w (.cells #[.s g.tm,.s g.rs,.i g.mo,.i g.fr] 69);obtain⟨W0,hW0⟩:=xN (w.alloc (.cells #[.s g.tm,.s g.rs,.i g.mo,.i g.fr] 69));have hz0:W0.heap.size=w.heap.size+1:=by rw[hW0];simp
 clear hx hl hxo hlo ho hnw;go_enter Tryz.func42,Tryz.ntmps42;go_wp2_with fail
 rw[<- hW0]at hBa kP ⊢;clear hW0;have kX:=(hBa.block x hxw).trans HX.o;have HB0:=hid hBa;have HSS:Hid (∀W,Bw W0 W->(∀j,W.cell? (aD x j)=(#[.i now,.i tick,.i given,v0,v1,.l a2 ls.length c2,v3]:AV)[j]?)/\∀j,W.cell? (aD w.heap.size j)=(#[.s g.tm,.s g.rs,.i g.mo,.i g.fr]:AV)[j]?):=fun W hW=>⟨fun j=>(hW.cell (p:=(aD x j)) (by show x<_;omega)).trans (cell_of_block kX),fun j=>(hW.cell (p:=(aD w.heap.size j)) (by show w.heap.size<_;omega)).trans (cell_of_block kP)⟩
 have HKK:=ql kX kP;have hBd:Bw W0 W0.drew:=(bRf _ _).drew;have hS:=HSS.o W0.drew hBd
 have HLA:Hid (∀W,Bw w W->zbn W a2 ls):=fun W hW=>by
  obtain⟨a',c',he,hp⟩:=HL.o.lie
  cases he
  exact(hp.at (fun i hi=>HO.o.1.lm _ (List.getElem_mem hi)) (by have:=HO.o.1.ll;unfold maxLen;omega)).mono hW
 clear kX kP hBa
 go_region_held3 (fun w'=>(∀j,w'.cell? (aD x j)=(#[.i now,.i tick,.i given,v0,v1,.l a2 ls.length c2,v3]:AV)[j]?)/\∀j,w'.cell? (aD w.heap.size j)=(#[.s g.tm,.s g.rs,.i g.mo,.i g.fr]:AV)[j]?) (exact hS) (first
  | (go_at_call 96;refine(zaE g _).mono ?_;rintro e w1⟨rfl,hb1⟩;have hBd:=hBd.trans (hb1.mono hBd.size);have hS:=HSS.o w1 hBd;clear hb1)
  | (go_at_call 95;refine(zeM a2 c2 ls g.tm g.rs _ (HLA.o _ (HB0.o.trans (hBd.mono HB0.o.size))) (by have:=HO.o.1.ll;omega) HO.o.1.lr).mono ?_;rintro e w2⟨⟨k,rfl,hk⟩,hb2⟩;have hBd:=hBd.trans (hb2.mono hBd.size);have hS:=HSS.o w2 hBd;clear hb2))
 have HB2:=ql hBd (HB0.o.trans (hBd.mono HB0.o.size));have hz2:=hBd.size;have kX2:=(hBd.block x (by omega)).trans HKK.o.1;have kG2:=(hBd.block w.heap.size (by omega)).trans HKK.o.2;have HR2:=hid (HL.o.left (Left.of_below (fun _=>False) HB2.o.2) (fun _ _ h=>h));have HK:=hid hk;clear hS hBd hk HSS;have HX9:=hid HO.o.2.1;have cX:=fun j=>cell_of_block (o:=j) kX2
 have cG:=fun j=>cell_of_block (o:=j) kG2
 have fG:=fun j=>zh (o:=j) kG2
 have hxz:x<w2.heap.size:=by omega
 have hgz:w.heap.size<w2.heap.size:=by omega
 have HXG:Hid (x<w.heap.size):=hxw
 by_cases hh:yJ ls g.tm g.rs=true
 ·obtain⟨hkl,hke⟩:=(HK.o.found HO.o.1.lr).1 hh
  have e1:=HK.o.idx HO.o.1.lr hh;obtain⟨gb,C,rfl,hgl,hgb,hCz,hCc⟩:=zee HR2.o.1 (by omega);have hgo:=HR2.o.2 gb rfl;have hgx:gb≠x:=by rintro rfl;exact HX9.o (by rw[hgo])
  have hgw:gb<w.heap.size:=(HL.o.1.lt gb rfl).2
  have hce:∀j,j<4->w2.cell? (aD gb (k*4+j))=(#[.s ls[k].tm,.s ls[k].rs,.i ls[k].mo,.i ls[k].fr]:AV)[j]?:=fun j hj=>by
   rw[cell_of_block hgb,hCc _ (by omega),zaz Lg.row 4 (fun _=>rfl) ls k hkl j hj];unfold Lg.row;simp
  have d0:w2.cell? (aD gb (k*4))=some (.s ls[k].tm):=hce 0 (by omega);have d1:w2.cell? (aD gb (k*4+1))=some (.s ls[k].rs):=hce 1 (by omega);have d2:w2.cell? (aD gb (k*4+2))=some (.i ls[k].mo):=hce 2 (by omega);have d3:w2.cell? (aD gb (k*4+3))=some (.i ls[k].fr):=hce 3 (by omega);have hgz2:gb<w2.heap.size:=by omega
  have hkI:(k:Int)<(ls.length:Int):=by omega
  have hlf:=HO.o.1.lf _ (List.getElem_mem hkl);have hmo:=HO.o.1.mo;have hw1:wrap64 (ls[k].fr+g.mo)=ls[k].fr+g.mo:=zA _ ⟨by omega,by omega⟩;have hw2:wrap64 (ls[k].fr+g.mo-ls[k].mo)=ls[k].fr+g.mo-ls[k].mo:=zA _ ⟨by omega,by omega⟩;have hs3:=(Left.refl (fun q=>q=w.heap.size) w2).set (b:=w.heap.size) rfl 3 (.i (ls[k].fr+g.mo-ls[k].mo));have hB3:=(bRf (w2.setCell (aD w.heap.size 3) (.i (ls[k].fr+g.mo-ls[k].mo))).heap.size (w2.setCell (aD w.heap.size 3) (.i (ls[k].fr+g.mo-ls[k].mo)))).alloc (Nat.le_refl _) (.cells #[.s ls[k].tm,.s ls[k].rs,.i ls[k].mo,.i ls[k].fr] 69);have kG3:=(hB3.block w.heap.size (by have:=hs3.size;omega)).trans (zi (o:=3) kG2 (.i (ls[k].fr+g.mo-ls[k].mo)));have hL3:Left (fun q=>q=w.heap.size) w2 ((w2.setCell (aD w.heap.size 3) (.i (ls[k].fr+g.mo-ls[k].mo))).alloc (.cells #[.s ls[k].tm,.s ls[k].rs,.i ls[k].mo,.i ls[k].fr] 69)):=hs3.trans (Left.of_below _ hB3);have HG3:=zbQ kG3 hL3 hke;have HLF:=ql hlf hmo;have HE1:=hid e1;rw[hh];clear hce hs3 hB3 kG3 hL3 hlf hmo hke hCz hCc hgl e1
  by_cases hng:ls[k].fr+g.mo-ls[k].mo<0
  ·have HE:Hid (qZ ls g=(ls,3)):=by
    have e1:=HE1.o;unfold Hid qZ;rw[dif_pos (by rw[e1];exact hkl)];simp only[e1];rw[if_pos hng]
   go_wp2_with fail
   go_ret;refine⟨by rw[HE.o];first|done|rfl,?_⟩;rw[HE.o];exact⟨_,own,fun _ _=>rfl,(HG3.o.2.1.out x hxz (by show ¬x=w.heap.size;omega)).trans kX2,HR2.o.left HG3.o.2.1 (fun q h8 h9=>HO.o.2.2.2 q (by have h9':q=w.heap.size:=h9;omega) h8),zlZ HB2.o.2 HG3.o.2.1 (fun q hq h=>by have h':q=w.heap.size:=h;omega)⟩
  ·have HE:Hid (qZ ls g=(ls.set k ⟨g.tm,g.rs,g.mo,ls[k].fr+g.mo-ls[k].mo⟩,0)):=by
    have e1:=HE1.o;unfold Hid qZ;rw[dif_pos (by rw[e1];exact hkl)];simp only[e1];rw[if_neg hng]
   have hng':decide (ls[k].fr+g.mo-ls[k].mo<0)=false:=decide_eq_false hng;clear hng;go_wp2_with fail
   simp only[hw1,hw2];obtain⟨W3,hW3⟩:=xN ((w2.setCell (aD w.heap.size 3) (.i (ls[k].fr+g.mo-ls[k].mo))).alloc (.cells #[.s ls[k].tm,.s ls[k].rs,.i ls[k].mo,.i ls[k].fr] 69));rw[<- hW3]at HG3 ⊢;clear hW3;have hz3:=HG3.o.2.1.size;have kX3:=(HG3.o.2.1.out x hxz (by show ¬x=w.heap.size;omega)).trans kX2;have kL3:=(HG3.o.2.1.out gb hgz2 (by show ¬gb=w.heap.size;omega)).trans hgb;have HR3:=hid (HR2.o.left HG3.o.2.1 (fun q h8 h9=>HO.o.2.2.2 q (by have h9':q=w.heap.size:=h9;omega) h8));have hSd:(∀j,W3.drew.cell? (aD x j)=(#[.i now,.i tick,.i given,v0,v1,.l (some (aD gb 0)) ls.length c2,v3]:AV)[j]?)/\∀j,W3.drew.cell? (aD w.heap.size j)=(#[.s g.tm,.s g.rs,.i g.mo,.i (ls[k].fr+g.mo-ls[k].mo)]:AV)[j]?:=⟨fun j=>cell_of_block (w:=W3) kX3,fun j=>cell_of_block (w:=W3) HG3.o.1⟩
   have hrow:=zrk (show W3.drew.ownsRow _ _ _ _ _ _ from yC HR3.o.1 (bRf W3.heap.size W3).drew) hkl ⟨g.tm,g.rs,g.mo,ls[k].fr+g.mo-ls[k].mo⟩;have hS4:∀(W:World) (o:Nat) (v:Value),Left (fun q=>q=gb) W3 W->Left (fun q=>q=gb) W3 (W.setCell (aD gb o) v):=fun W o v h=>h.set rfl o v
   have hL4:=hS4 _ (k*4+3) (.i (ls[k].fr+g.mo-ls[k].mo)) (hS4 _ (k*4+2) (.i g.mo) (hS4 _ (k*4+1) (.s g.rs) (hS4 _ (k*4) (.s g.tm) (Left.of_below _ (bRf W3.heap.size W3).drew))));have hSe:=(⟨fun j=>cell_of_block ((hL4.out x (by omega) (by show ¬x=gb;omega)).trans kX3),fun j=>cell_of_block ((hL4.out w.heap.size (by omega) (by show ¬w.heap.size=gb;omega)).trans HG3.o.1)⟩:(∀j,World.cell? _ (aD x j)=(#[.i now,.i tick,.i given,v0,v1,.l (some (aD gb 0)) ls.length c2,v3]:AV)[j]?)/\∀j,World.cell? _ (aD w.heap.size j)=(#[.s g.tm,.s g.rs,.i g.mo,.i (ls[k].fr+g.mo-ls[k].mo)]:AV)[j]?)
   have f0:∀o,W3.drew.frozen? (aD gb o)=false:=fun o=>zh (w:=W3) kL3
   have hgz3:gb<W3.drew.heap.size:=(gES kL3).1;have HE4:=ql hrow hL4;have t0:=(cell_of_block (w:=W3) (o:=k*4) kL3).trans ((cell_of_block hgb).symm.trans d0);have t1:=(cell_of_block (w:=W3) (o:=k*4+1) kL3).trans ((cell_of_block hgb).symm.trans d1);have t2:=(cell_of_block (w:=W3) (o:=k*4+2) kL3).trans ((cell_of_block hgb).symm.trans d2);have t3:=(cell_of_block (w:=W3) (o:=k*4+3) kL3).trans ((cell_of_block hgb).symm.trans d3)
   replace t0:W3.drew.cell? (aD gb (k*4))=some (.s ls[k].tm):=t0
   replace t1:W3.drew.cell? (aD gb (k*4+1))=some (.s ls[k].rs):=t1
   replace t2:W3.drew.cell? (aD gb (k*4+2))=some (.i ls[k].mo):=t2
   replace t3:W3.drew.cell? (aD gb (k*4+3))=some (.i ls[k].fr):=t3
   clear hrow hL4 hS4 d0 d1 d2 d3 cX cG fG;refine zcT (fun A A' w'=>∃u39 u40 u41 u42 u43 u44 u45,A'=(((((((A.put (some 39) u39).put (some 40) u40).put (some 41) u41).put (some 42) u42).put (some 43) u43).put (some 44) u44).put (some 45) u45)/\w'.ownsRow lo 69 4 (.l (some (aD gb 0)) ls.length c2) ls.length ((ls.set k ⟨g.tm,g.rs,g.mo,ls[k].fr+g.mo-ls[k].mo⟩).flatMap Lg.row)/\Left (fun q=>q=gb) W3 w') ?_ ?_
   ·refine wp_region_held_drew (S:=fun w'=>(∀j,w'.cell? (aD x j)=(#[.i now,.i tick,.i given,v0,v1,.l (some (aD gb 0)) ls.length c2,v3]:AV)[j]?)/\∀j,w'.cell? (aD w.heap.size j)=(#[.s g.tm,.s g.rs,.i g.mo,.i (ls[k].fr+g.mo-ls[k].mo)]:AV)[j]?) (by kernel_rfl) hSd (fun H_=>?_)
    refine tG 0 ?_ (hQ:=fun _ _ _ h=>by cases h.1);refine tG 1 ?_ (hQ:=fun _ _ _ h=>by cases h.1);refine tG 2 ?_ (hQ:=fun _ _ _ h=>by cases h.1);refine tG 3 ?_ (hQ:=fun _ _ _ h=>by cases h.1);refine tG 4 ?_ (hQ:=fun _ _ _ h=>by cases h.1);refine tG 5 ?_ (hQ:=fun _ _ _ h=>by cases h.1);refine tG 6 ?_ (hQ:=fun _ _ _ h=>by cases h.1)
    generalize W3.drew=V at *
    refine cH 7 rfl fun K hK=>?_
    go_simp
    refine hK.out _ _ hSe (fun H_=>?_);clear hK K
    (try simp only[Act.put,sA,s0,sS])
    refine wpAnyH_done (by kernel_rfl) ?_ _;exact⟨rfl,_,_,_,_,_,_,_,rfl,HE4.o.1,HE4.o.2⟩
   rintro A' w4⟨u39,u40,u41,u42,u43,u44,u45,rfl,ho4,hL4⟩
   (try simp only[Act.put,sA,s0,sS])
   go_wp2_with fail
   go_ret;refine⟨by rw[HE.o];first|done|rfl,?_⟩;rw[HE.o];exact⟨_,own,fun _ _=>rfl,(hL4.out x (by omega) (by show ¬x=gb;omega)).trans kX3,⟨by rw[List.length_set];exact ho4,HR2.o.2⟩,zlZ HB2.o.2 ((HG3.o.2.1.wide (S':=fun q=>q=w.heap.size \/ q=gb) (fun _ h=>Or.inl h)).trans (hL4.wide (fun _ h=>Or.inr h))) (fun q hq h=>by rcases h with h|h;omega;exact Or.inr (by rw[h,hgo]))⟩
 ·have hno:yJ ls g.tm g.rs=false:=bFi hh
  have HN:=ql (zmC hno).2 (HK.o.free (g:=g) hno);rw[hno];clear hh hno
  by_cases hng:g.fr<0
  ·have HE:Hid (qZ ls g=(ls,3)):=by unfold Hid qZ;rw[dif_neg HN.o.1,if_pos hng]
   go_wp2_with fail
   go_ret;refine⟨by rw[HE.o];first|done|rfl,?_⟩;rw[HE.o];exact⟨_,own,fun _ _=>rfl,kX2,HR2.o,Left.of_below _ HB2.o.2⟩
  have hng':decide (g.fr<0)=false:=decide_eq_false hng
  by_cases hten:ls.length=10
  ·have HE:Hid (qZ ls g=(ls,4)):=by unfold Hid qZ;rw[dif_neg HN.o.1,if_neg hng,if_pos hten]
   have hte:((ls.length:Int) == 10)=true:=by simp;omega
   clear hng hten;go_wp2_with fail
   go_ret;refine⟨by rw[HE.o];first|done|rfl,?_⟩;rw[HE.o];exact⟨_,own,fun _ _=>rfl,kX2,HR2.o,Left.of_below _ HB2.o.2⟩
  have HE:Hid (qZ ls g=(ls.take k++g :: ls.drop k,0)):=by
   unfold Hid qZ;rw[dif_neg HN.o.1,if_neg hng,if_neg hten];unfold zbp;rw[HN.o.2]
  have hte:((ls.length:Int) == 10)=false:=by simp;omega
  clear hng hten;go_wp2_with fail
  have kV:=alloc_at w2.drew (.cells #[.s g.tm,.s g.rs,.i g.mo,.i g.fr] 69);have hBv:Bw w2 (w2.drew.alloc (.cells #[.s g.tm,.s g.rs,.i g.mo,.i g.fr] 69)):=(bRf _ _).drew.alloc (Nat.le_refl _) _;have hS1:∀j,w2.drew.cell? (aD w.heap.size j)=(#[.s g.tm,.s g.rs,.i g.mo,.i g.fr]:AV)[j]?:=fun j=>cell_of_block (w:=w2) kG2
  have hS2:∀j,(w2.drew.alloc (.cells #[.s g.tm,.s g.rs,.i g.mo,.i g.fr] 69)).cell? (aD w.heap.size j)=(#[.s g.tm,.s g.rs,.i g.mo,.i g.fr]:AV)[j]?:=fun j=>cell_of_block ((hBv.block w.heap.size hgz).trans kG2)
  have cX1:w2.drew.cell? (aD x 5)=some (.l a2 ls.length c2):=cX 5;have cX2:(w2.drew.alloc (.cells #[.s g.tm,.s g.rs,.i g.mo,.i g.fr] 69)).cell? (aD x 5)=some (.l a2 ls.length c2):=cell_of_block ((hBv.block x hxz).trans kX2);have hxd:x<w2.drew.heap.size:=hxz;have hxa:x<(w2.drew.alloc (.cells #[.s g.tm,.s g.rs,.i g.mo,.i g.fr] 69)).heap.size:=by have:=hBv.size;omega
  have HV:=ql kV hBv;have hkle:=HK.o.le;clear kV hBv cX cG fG;refine zcT (fun A A' w'=>∃u52 u53 u54 u55 u56 u57 u58 u59 u60 u61 u62 v own',A'=(((((((((((A.put (some 52) u52).put (some 53) u53).put (some 54) u54).put (some 55) u55).put (some 56) u56).put (some 57) u57).put (some 58) u58).put (some 59) u59).put (some 60) u60).put (some 61) u61).put (some 62) u62)/\(∀q,q<w.heap.size->own' q=own q)/\w'.heap[x]?=some (.cells #[.i now,.i tick,.i given,v0,v1,v,v3] 40)/\zdb lo w' own' v (ls.take k++g :: ls.drop k)/\Left (fun q=>q=x \/ (own q).1=2) w2 w') ?_ ?_
  ·refine wp_region_held_drew (S:=fun w'=>∀j,w'.cell? (aD w.heap.size j)=(#[.s g.tm,.s g.rs,.i g.mo,.i g.fr]:AV)[j]?) (by kernel_rfl) hS1 (fun H_=>?_)
   refine tG 0 ?_ (hQ:=fun _ _ _ h=>by cases h.1);refine tG 1 ?_ (hQ:=fun _ _ _ h=>by cases h.1);refine tG 2 ?_ (hQ:=fun _ _ _ h=>by cases h.1);refine tG 3 ?_ (hQ:=fun _ _ _ h=>by cases h.1);refine tG 5 ?_ (hQ:=fun _ _ _ h=>by cases h.1);refine tG 6 ?_ (hQ:=fun _ _ _ h=>by cases h.1);refine zoU (i:=4) (j:=7) rfl rfl (fun K hK=>?_) (fun K hK=>?_)
   focus
    go_simp
    refine hK.out _ _ hS1 (fun H_=>?_);clear hK K
    (try simp only[Act.put,sA,s0,sS])
    refine cH 7 rfl fun K hK=>?_
    go_simp
    refine hK.out _ _ hS2 (fun H_=>?_);clear hK K
    (try simp only[Act.put,sA,s0,sS])
   rotate_left
   focus
    go_simp
    refine hK.out _ _ hS2 (fun H_=>?_);clear hK K
    (try simp only[Act.put,sA,s0,sS])
    refine cH 4 rfl fun K hK=>?_
    go_simp
    refine hK.out _ _ hS2 (fun H_=>?_);clear hK K
    (try simp only[Act.put,sA,s0,sS])
   all_goals
    refine cH 8 rfl fun K hK=>?_
    go_simp
    refine(zl1 lo own a2 c2 ls k g w2.heap.size 1 (w2.drew.alloc (.cells #[.s g.tm,.s g.rs,.i g.mo,.i g.fr] 69)) (HR2.o.left (Left.of_below (fun _=>False) HV.o.2) (fun _ _ h=>h)) hkle (by have:=HO.o.1.ll;omega) (by have:=HO.o.2.2.1;have:=HV.o.2.size;omega) HV.o.1 (HO.o.2.2.2 _ (by omega))).mono ?_;rintro e w4⟨v,own',rfl,hag,hr4,hL4⟩;obtain⟨L,hLL⟩:=xN (ls.take k++g :: ls.drop k);rw[<- hLL]at hr4;have HLL:=hid hLL;clear hLL;have hz4:=hL4.size;have hzv:=HV.o.2.size;have kX4:=((hL4.out x hxa HX9.o).trans (HV.o.2.block x hxz)).trans kX2;have hS4:∀j,w4.cell? (aD w.heap.size j)=(#[.s g.tm,.s g.rs,.i g.mo,.i g.fr]:AV)[j]?:=fun j=>cell_of_block (((hL4.out w.heap.size (by omega) (HO.o.2.2.2 _ (Nat.le_refl _))).trans (HV.o.2.block w.heap.size hgz)).trans kG2)
    refine hK.out _ _ hS4 (fun H_=>?_);clear hK K
    (try simp only[Act.put,sA,s0,sS])
    refine tG 9 ?_ (hQ:=fun _ _ _ h=>by cases h.1);refine tG 10 ?_ (hQ:=fun _ _ _ h=>by cases h.1);have cX4:=cell_of_block (o:=5) kX4;have fX4:=zh (o:=5) kX4;have hxz4:x<w4.heap.size:=by omega
    have kX5:=zi (o:=5) kX4 v;obtain⟨va,vc,hva⟩:=jm hr4.1;have hs5:=(Left.refl (fun q=>q=x) w4).set (b:=x) rfl 5 v;have hS5:∀j,(w4.setCell (aD x 5) v).cell? (aD w.heap.size j)=(#[.s g.tm,.s g.rs,.i g.mo,.i g.fr]:AV)[j]?:=fun j=>(World.cell?_of_block (a:=(aD w.heap.size j)) (hs5.out w.heap.size (by omega) (by show ¬w.heap.size=x;omega))).trans (hS4 j)
    have hr5:=hr4.left hs5 (fun q h8 h9=>by have h9':q=x:=h9;rw[h9',hag x (by omega)]at h8;exact HX9.o h8);have hL5:Left (fun q=>q=x \/ (own q).1=2) w2 (w4.setCell (aD x 5) v):=(((Left.of_below _ HV.o.2).trans (hL4.wide (fun _ h=>Or.inr h)))).trans (hs5.wide (fun _ h=>Or.inl h));subst hva;refine cH 11 rfl fun K hK=>?_
    go_simp
    refine hK.out _ _ hS5 (fun H_=>?_);clear hK K
    (try simp only[Act.put,sA,s0,sS])
    refine wpAnyH_done (by kernel_rfl) ?_ _;exact⟨rfl,_,_,_,_,_,_,_,_,_,_,_,_,own',rfl,fun q hq=>hag q (by omega),kX5,by rw[<- HLL.o];exact hr5,hL5⟩
  rintro A' w5⟨u52,u53,u54,u55,u56,u57,u58,u59,u60,u61,u62,v,own',rfl,hag,kX5,hr5,hL5⟩
  (try simp only[Act.put,sA,s0,sS])
  go_wp2_with fail
  go_ret;refine⟨by rw[HE.o];first|done|rfl,?_⟩;rw[HE.o];exact⟨v,own',hag,kX5,hr5,zlZ HB2.o.2 hL5 (fun q hq h=>h)⟩
end Go.Proofs.YtcgpjfcocmcodaaGreat
