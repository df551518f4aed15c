import Derived.Test.YthdfpinbnncghaaGreatM49
import Derived.Test.YthdfpinbnncghaaGreatM51
import Derived.Test.YthdfpinbnncghaaGreatM37
set_option maxHeartbeats 4000000
namespace Go.Proofs.YthdfpinbnncghaaGreat
open Go.RowKit
noncomputable def zar (l:Lw)(b:Bk):Bool:=zaS b&&(yh l b&&(yP b&&(y5 l.ts b&&(qx b&&zc9 l b))))
noncomputable def jy (l:Lw)(b:Bk):Bool:=zbi l&&zar l b
theorem zdK {ts:List Tm}{b:Bk}(h:y5 ts b=true):rising q9 b.ls/\b.ls.length<=10/\∀i (hi:i<b.ls.length),yT ts b.ls[i]=true:=by
 unfold y5 at h;simp only[Bool.and_eq_true,decide_eq_true_eq]at h;exact⟨(zkT _ _).1 h.2.1,h.1,fun i hi=>List.all_eq_true.1 h.2.2 _ (List.getElem_mem _)⟩
theorem zmt {b:Bk}(h:zaS b=true):0<=b.tick/\b.tick<=1000000:=by
 unfold zaS within at h;simp only[Bool.and_eq_true,decide_eq_true_eq]at h;exact h.2.1
theorem zmj {b:Bk}(h:qx b=true):b.ps.length<=24/\∀i (hi:i<b.ps.length),yF b.ls b.tick b.ps[i]=true:=by
 unfold qx at h;simp only[Bool.and_eq_true,decide_eq_true_eq]at h;exact⟨h.1,fun i hi=>List.all_eq_true.1 h.2.2 _ (List.getElem_mem _)⟩
theorem zo0 {b:Bk}(h:rising q9 b.ls):∀i j (hi:i<b.ls.length) (hj:j<b.ls.length),b.ls[i].tm=b.ls[j].tm->b.ls[i].rs=b.ls[j].rs->i=j:=by
 intro i j hi hj e1 e2
 have hz:∀i j (hi:i<b.ls.length) (hj:j<b.ls.length),i<j->b.ls[i].tm=b.ls[j].tm->b.ls[i].rs=b.ls[j].rs->False:=by
  intro i j hi hj hlt e1 e2;have h1:=zd5 (fun a b c=>zbG (a:=a) (b:=b) (c:=c)) h j hj i hlt;have h2:q9 b.ls[i] b.ls[j]=0:=by unfold q9;rw[zhS];exact⟨e1,e2⟩
  omega
 rcases Nat.lt_trichotomy i j with h1|h1|h1
 ·exact(hz i j hi hj h1 e1 e2).elim
 ·exact h1
 ·exact(hz j i hj hi h1 e1.symm e2.symm).elim
theorem zrt {ts:List Tm}{b:Bk}(h:y5 ts b=true)(h':qx b=true)(hz:qR b.os<=1048576):zjA b:=by
 obtain⟨h1,h2,h3⟩:=zdK h;obtain⟨p1,p2⟩:=zmj h';refine⟨zo0 h1,fun k hk=>?_,fun i hi=>?_,fun i hi=>?_,by omega,by omega,hz⟩
 ·have h4:=p2 k hk
  unfold yF jJ at h4;simp only[Bool.and_eq_true]at h4;obtain⟨g,hg,h5⟩:=List.any_eq_true.1 h4.1;obtain⟨j,hj,rfl⟩:=List.mem_iff_getElem.1 hg;simp only[Bool.and_eq_true,decide_eq_true_eq]at h5;exact⟨j,hj,h5.1,h5.2⟩
 ·have h4:=h3 i hi
  unfold yT jN at h4;simp only[Bool.and_eq_true,decide_eq_true_eq]at h4;omega
 ·have h4:=p2 i hi
  unfold yF within at h4;simp only[Bool.and_eq_true,decide_eq_true_eq]at h4;omega
set_option maxRecDepth 20000 in
theorem zjY (l:Lw)(la lb lc:OA)(lca lcb lcc:Nat)(b:Bk)(a0 a1 a2 a3:OA)(c0 c1 c2 c3:Nat)(w:World)(hb:jU w b a0 a1 a2 a3)(hl:yH w l la lb lc)(hml:l.ms.length<=1048576)(hok:yx l.ss l.ms=true)(hfw:∀i (h:i<b.os.length),b.os[i].vs.length<=1048576/\b.os[i].hs.length<=1048576)(hz:qR b.os<=1048576) :
 Calls Tryz.prog 74 #[.agg #[.l la l.ss.length lca,.l lb l.ms.length lcb,.l lc l.ts.length lcc],.agg #[.i b.now,.i b.tick,.i b.given,.l a0 b.os.length c0,.l a1 b.gs.length c1,.l a2 b.ls.length c2,.l a3 b.ps.length c3]] w fun e w'=>e=.returned (.bool (zar l b))/\Bw w w':=by
 have HK:=hid hb;have HL:=hid hl;have HF:Hid (l.ms.length<=1048576/\yx l.ss l.ms=true/\(∀i (h:i<b.os.length),b.os[i].vs.length<=1048576/\b.os[i].hs.length<=1048576)/\qR b.os<=1048576):=⟨hml,hok,hfw,hz⟩
 clear hb hl hml hok hfw hz;go_enter Tryz.func74,Tryz.ntmps74;go_wp2_with fail
 obtain⟨hL0,hX0⟩:=jC w #[.l la l.ss.length lca,.l lb l.ms.length lcb,.l lc l.ts.length lcc] (bC b a0 a1 a2 a3 c0 c1 c2 c3) 44 51;have HBi:Hid (Bw w ((w.alloc (.cells #[.l la l.ss.length lca,.l lb l.ms.length lcb,.l lc l.ts.length lcc] 44)).alloc (.cells (bC b a0 a1 a2 a3 c0 c1 c2 c3) 51))):=zx w _ _;obtain⟨W0,hW0⟩:=xN ((w.alloc (.cells #[.l la l.ss.length lca,.l lb l.ms.length lcb,.l lc l.ts.length lcc] 44)).alloc (.cells (bC b a0 a1 a2 a3 c0 c1 c2 c3) 51));have hz0:w.heap.size+1<W0.heap.size:=by rw[hW0];simp
 rw[<- hW0]at HBi hX0 hL0 ⊢;clear hW0;refine(zlD b a0 a1 a2 a3 c0 c1 c2 c3 _).mono ?_;rintro e w1⟨rfl,hb0⟩;have hX1:=za hX0 hz0 hb0;have hL1:=za hL0 (nSl hz0) hb0;have hz1:=nLt hz0 hb0.size;have hy1:=nSl hz1;have HBi:=hid (HBi.o.trans (hb0.mono HBi.o.size));clear hb0 hX0 hL0 hz0
 by_cases t:zaS b=true
 rotate_left
 ·have HN:Hid (zar l b=false):=by unfold Hid zar;rw[bFi t];rfl
  rw[bFi t];clear t;go_wp2_with fail
  go_ret;exact⟨ze HN.o.symm,HBi.o⟩
 have HT0:=hid t;rw[t];clear t;go_wp2_with fail
 refine(zj7 l la lb lc lca lcb lcc b a0 a1 a2 a3 c0 c1 c2 c3 _ (HK.o.mono HBi.o) (HL.o.mono HBi.o) HF.o.1 HF.o.2.1 HF.o.2.2.1).mono ?_;rintro e w2⟨rfl,hb1⟩;have hX2:=za hX1 hz1 hb1;have hL2:=za hL1 (nSl hz1) hb1;have hz2:=nLt hz1 hb1.size;have hy2:=nSl hz2;have HBi:=hid (HBi.o.trans (hb1.mono HBi.o.size));clear hb1 hX1 hL1 hz1 hy1
 by_cases t:yh l b=true
 rotate_left
 ·have HN:Hid (zar l b=false):=by unfold Hid zar;rw[HT0.o,bFi t];rfl
  rw[bFi t];clear t;go_wp2_with fail
  go_ret;exact⟨ze HN.o.symm,HBi.o⟩
 have HT1:=hid t;rw[t];clear t;go_wp2_with fail
 refine(zlm b a0 a1 a2 a3 c0 c1 c2 c3 _ (HK.o.mono HBi.o)).mono ?_;rintro e w3⟨rfl,hb2⟩;have hX3:=za hX2 hz2 hb2;have hL3:=za hL2 (nSl hz2) hb2;have hz3:=nLt hz2 hb2.size;have hy3:=nSl hz3;have HBi:=hid (HBi.o.trans (hb2.mono HBi.o.size));clear hb2 hX2 hL2 hz2 hy2
 by_cases t:yP b=true
 rotate_left
 ·have HN:Hid (zar l b=false):=by unfold Hid zar;rw[HT0.o,HT1.o,bFi t];rfl
  rw[bFi t];clear t;go_wp2_with fail
  go_ret;exact⟨ze HN.o.symm,HBi.o⟩
 have HT2:=hid t;rw[t];clear t;go_wp2_with fail
 refine(zjE l la lb lc lca lcb lcc b a0 a1 a2 a3 c0 c1 c2 c3 _ (HK.o.mono HBi.o) (HL.o.mono HBi.o)).mono ?_;rintro e w4⟨rfl,hb3⟩;have hX4:=za hX3 hz3 hb3;have hL4:=za hL3 (nSl hz3) hb3;have hz4:=nLt hz3 hb3.size;have hy4:=nSl hz4;have HBi:=hid (HBi.o.trans (hb3.mono HBi.o.size));clear hb3 hX3 hL3 hz3 hy3
 by_cases t:y5 l.ts b=true
 rotate_left
 ·have HN:Hid (zar l b=false):=by unfold Hid zar;rw[HT0.o,HT1.o,HT2.o,bFi t];rfl
  rw[bFi t];clear t;go_wp2_with fail
  go_ret;exact⟨ze HN.o.symm,HBi.o⟩
 have HT3:=hid t;rw[t];clear t;go_wp2_with fail
 refine(zk7 b a0 a1 a2 a3 c0 c1 c2 c3 _ (HK.o.mono HBi.o) (zdK HT3.o).1 (zdK HT3.o).2.1 (zmt HT0.o)).mono ?_;rintro e w5⟨rfl,hb4⟩;have hX5:=za hX4 hz4 hb4;have hL5:=za hL4 (nSl hz4) hb4;have hz5:=nLt hz4 hb4.size;have hy5:=nSl hz5;have HBi:=hid (HBi.o.trans (hb4.mono HBi.o.size));clear hb4 hX4 hL4 hz4 hy4
 by_cases t:qx b=true
 rotate_left
 ·have HN:Hid (zar l b=false):=by unfold Hid zar;rw[HT0.o,HT1.o,HT2.o,HT3.o,bFi t];rfl
  rw[bFi t];clear t;go_wp2_with fail
  go_ret;exact⟨ze HN.o.symm,HBi.o⟩
 have HT4:=hid t;rw[t];clear t;go_wp2_with fail
 refine(zn5 l la lb lc lca lcb lcc b a0 a1 a2 a3 c0 c1 c2 c3 _ (HL.o.mono HBi.o) (HK.o.mono HBi.o) (zrt HT3.o HT4.o HF.o.2.2.2)).mono ?_;rintro e w6⟨rfl,hb5⟩;have HBe:=hid (HBi.o.trans (hb5.mono HBi.o.size));have HN:Hid (zc9 l b=zar l b):=by unfold Hid zar;rw[HT0.o,HT1.o,HT2.o,HT3.o,HT4.o];rfl
 rw[HN.o];clear hb5 hX5 hL5 hz5 hy5;go_wp2_with fail
 go_ret;exact⟨rfl,HBe.o⟩
set_option maxRecDepth 20000 in
theorem ze6 (l:Lw)(la lb lc:OA)(lca lcb lcc:Nat)(b:Bk)(a0 a1 a2 a3:OA)(c0 c1 c2 c3:Nat)(w:World)(hl:yH w l la lb lc)(hb:jU w b a0 a1 a2 a3)(hlf:l.Few)(hbf:b.Few)(hz:qR b.os<=1048576) :
 Calls Tryz.prog 34 #[.agg (l.cells la lb lc lca lcb lcc),.agg (b.cells a0 a1 a2 a3 c0 c1 c2 c3)] w fun e w'=>e=.returned (.bool (jy l b))/\Bw w w':=by
 have HK:=hid hb;have HL:=hid hl;have HF:Hid (l.Few/\b.Few/\qR b.os<=1048576):=⟨hlf,hbf,hz⟩
 clear hb hl hlf hbf hz;unfold Lw.cells Bk.cells;go_enter Tryz.func34,Tryz.ntmps34;go_wp2_with fail
 obtain⟨hL0,hX0⟩:=jC w #[.l la l.ss.length lca,.l lb l.ms.length lcb,.l lc l.ts.length lcc] (bC b a0 a1 a2 a3 c0 c1 c2 c3) 44 51;have HBi:Hid (Bw w ((w.alloc (.cells #[.l la l.ss.length lca,.l lb l.ms.length lcb,.l lc l.ts.length lcc] 44)).alloc (.cells (bC b a0 a1 a2 a3 c0 c1 c2 c3) 51))):=zx w _ _;obtain⟨W0,hW0⟩:=xN ((w.alloc (.cells #[.l la l.ss.length lca,.l lb l.ms.length lcb,.l lc l.ts.length lcc] 44)).alloc (.cells (bC b a0 a1 a2 a3 c0 c1 c2 c3) 51));have hz0:w.heap.size+1<W0.heap.size:=by rw[hW0];simp
 rw[<- hW0]at HBi hX0 hL0 ⊢;clear hW0;refine(zly l la lb lc lca lcb lcc _ (HL.o.mono HBi.o) HF.o.1).mono ?_;rintro e w1⟨rfl,hb0⟩;have hX1:=za hX0 hz0 hb0;have hL1:=za hL0 (nSl hz0) hb0;have hz1:=nLt hz0 hb0.size;have hy1:=nSl hz1;have HBi:=hid (HBi.o.trans (hb0.mono HBi.o.size));clear hb0 hX0 hL0 hz0
 by_cases t:zbi l=true
 rotate_left
 ·have HN:Hid (jy l b=false):=by unfold Hid jy;rw[bFi t];rfl
  rw[bFi t];clear t;go_wp2_with fail
  go_ret;exact⟨ze HN.o.symm,HBi.o⟩
 have HN:Hid (zar l b=jy l b):=by unfold Hid jy;rw[t];rfl
 have HM:Hid (yx l.ss l.ms=true):=by unfold zbi at t;simp only[Bool.and_eq_true]at t;exact t.1
 rw[t];clear t;go_wp2_with fail
 refine(zjY l la lb lc lca lcb lcc b a0 a1 a2 a3 c0 c1 c2 c3 _ (HK.o.mono HBi.o) (HL.o.mono HBi.o) HF.o.1.ms HM.o HF.o.2.1.os.2 HF.o.2.2).mono ?_;rintro e w2⟨rfl,hb1⟩;have HBe:=hid (HBi.o.trans (hb1.mono HBi.o.size));rw[HN.o];clear hb1 hX1 hL1 hz1 hy1;go_wp2_with fail
 go_ret;exact⟨rfl,HBe.o⟩
theorem zbB (l:Lw)(b:Bk):jy l b=(zbi l&&((within b.now 0 1000000&&(within b.tick 0 1000000&&within b.given 0 b.now))&&(yh l b&&(yP b&&qF l b)))):=rfl
theorem zeY (n lo hi:Int)(w:World):Calls Tryz.prog 57 #[.i n,.i lo,.i hi] w fun e w'=>e=.returned (.bool (within n lo hi))/\w'=w:=zM n lo hi w
theorem zqD {n lo hi:Int}(h:within n lo hi=true):lo<=n/\n<=hi:=by unfold within at h;simpa using h
set_option maxRecDepth 20000 in
theorem zdb (l:Lw)(la lb lc:OA)(lca lcb lcc:Nat)(b:Bk)(a0 a1 a2 a3:OA)(c0 c1 c2 c3:Nat)(w:World)(hl:yH w l la lb lc)(hb:jU w b a0 a1 a2 a3)(hh:zcJ w a0 b.os)(hbf:b.Few)(hz:qR b.os<=1048576) :
 Calls Tryz.prog 23 #[.agg (l.cells la lb lc lca lcb lcc),.agg (b.cells a0 a1 a2 a3 c0 c1 c2 c3)] w fun e w'=>e=.returned (.bool (jy l b))/\Bw w w':=by
 have HK:=hid hb;have HL:=hid hl;have HH:=hid hh;have HF:Hid (b.Few/\qR b.os<=1048576):=⟨hbf,hz⟩
 clear hb hl hh hbf hz;unfold Lw.cells Bk.cells;go_enter Tryz.func23,Tryz.ntmps23;go_wp2_with fail
 obtain⟨hL0,hX0⟩:=jC w #[.l la l.ss.length lca,.l lb l.ms.length lcb,.l lc l.ts.length lcc] (bC b a0 a1 a2 a3 c0 c1 c2 c3) 44 51;have HBi:Hid (Bw w ((w.alloc (.cells #[.l la l.ss.length lca,.l lb l.ms.length lcb,.l lc l.ts.length lcc] 44)).alloc (.cells (bC b a0 a1 a2 a3 c0 c1 c2 c3) 51))):=zx w _ _;obtain⟨W0,hW0⟩:=xN ((w.alloc (.cells #[.l la l.ss.length lca,.l lb l.ms.length lcb,.l lc l.ts.length lcc] 44)).alloc (.cells (bC b a0 a1 a2 a3 c0 c1 c2 c3) 51));have hz0:w.heap.size+1<W0.heap.size:=by rw[hW0];simp
 rw[<- hW0]at HBi hX0 hL0 ⊢;clear hW0;refine(zla l la lb lc lca lcb lcc _ (HL.o.mono HBi.o)).mono ?_;rintro e w1⟨rfl,hb0⟩;have hX1:=za hX0 hz0 hb0;have hL1:=za hL0 (nSl hz0) hb0;have hz1:=nLt hz0 hb0.size;have HBi:=hid (HBi.o.trans (hb0.mono HBi.o.size));clear hb0 hX0 hL0 hz0;have hy1:=nSl hz1
 by_cases t:zbi l=true
 rotate_left
 ·have HN:Hid (jy l b=false):=by rw[Hid,zbB,bFi t];simp
  rw[bFi t];clear t;go_wp2_with fail
  go_ret;exact⟨ze HN.o.symm,HBi.o⟩
 have HT0:=hid t;rw[t];clear t;go_wp2_with fail
 have HM:Hid (yx l.ss l.ms=true):=by have t:=HT0.o;unfold zbi at t;simp only[Bool.and_eq_true]at t;exact t.1
 refine(zeY b.now (0) (1000000) _).mono ?_;rintro e w2⟨rfl,rfl⟩;have hX2:=hX1;have hL2:=hL1;have hz2:=hz1;clear hX1 hL1 hz1;have hy2:=nSl hz2;have hcv:within b.now 0 1000000=within b.now 0 1000000:=rfl;clear hcv
 by_cases t:within b.now 0 1000000=true
 rotate_left
 ·have HN:Hid (jy l b=false):=by rw[Hid,zbB,HT0.o,bFi t];simp
  rw[bFi t];clear t;go_wp2_with fail
  go_ret;exact⟨ze HN.o.symm,HBi.o⟩
 have HT1:=hid t;rw[t];clear t;go_wp2_with fail
 refine(zeY b.tick (0) (1000000) _).mono ?_;rintro e w3⟨rfl,rfl⟩;have hX3:=hX2;have hL3:=hL2;have hz3:=hz2;clear hX2 hL2 hz2;have hy3:=nSl hz3;have hcv:within b.tick 0 1000000=within b.tick 0 1000000:=rfl;clear hcv
 by_cases t:within b.tick 0 1000000=true
 rotate_left
 ·have HN:Hid (jy l b=false):=by rw[Hid,zbB,HT0.o,HT1.o,bFi t];simp
  rw[bFi t];clear t;go_wp2_with fail
  go_ret;exact⟨ze HN.o.symm,HBi.o⟩
 have HT2:=hid t;rw[t];clear t;go_wp2_with fail
 refine(zeY b.given (0) (b.now) _).mono ?_;rintro e w4⟨rfl,rfl⟩;have hX4:=hX3;have hL4:=hL3;have hz4:=hz3;clear hX3 hL3 hz3;have hy4:=nSl hz4;have hcv:within b.given 0 b.now=within b.given 0 b.now:=rfl;clear hcv
 by_cases t:within b.given 0 b.now=true
 rotate_left
 ·have HN:Hid (jy l b=false):=by rw[Hid,zbB,HT0.o,HT1.o,HT2.o,bFi t];simp
  rw[bFi t];clear t;go_wp2_with fail
  go_ret;exact⟨ze HN.o.symm,HBi.o⟩
 have HT3:=hid t;rw[t];clear t;go_wp2_with fail
 refine(ziT l la lb lc lca lcb lcc b a0 a1 a2 a3 c0 c1 c2 c3 _ (HL.o.mono HBi.o) (HK.o.mono HBi.o) (HH.o.mono HBi.o) HM.o HF.o.1.os.2).mono ?_;rintro e w5⟨rfl,hb4⟩;have hX5:=za hX4 hz4 hb4;have hL5:=za hL4 (nSl hz4) hb4;have hz5:=nLt hz4 hb4.size;have HBi:=hid (HBi.o.trans (hb4.mono HBi.o.size));clear hb4 hX4 hL4 hz4;have hy5:=nSl hz5
 by_cases t:yh l b=true
 rotate_left
 ·have HN:Hid (jy l b=false):=by rw[Hid,zbB,HT0.o,HT1.o,HT2.o,HT3.o,bFi t];simp
  rw[bFi t];clear t;go_wp2_with fail
  go_ret;exact⟨ze HN.o.symm,HBi.o⟩
 have HT4:=hid t;rw[t];clear t;go_wp2_with fail
 refine(zjW b a0 a1 a2 a3 c0 c1 c2 c3 _ (HK.o.mono HBi.o)).mono ?_;rintro e w6⟨rfl,hb5⟩;have hX6:=za hX5 hz5 hb5;have hL6:=za hL5 (nSl hz5) hb5;have hz6:=nLt hz5 hb5.size;have HBi:=hid (HBi.o.trans (hb5.mono HBi.o.size));clear hb5 hX5 hL5 hz5;have hy6:=nSl hz6
 by_cases t:yP b=true
 rotate_left
 ·have HN:Hid (jy l b=false):=by rw[Hid,zbB,HT0.o,HT1.o,HT2.o,HT3.o,HT4.o,bFi t];simp
  rw[bFi t];clear t;go_wp2_with fail
  go_ret;exact⟨ze HN.o.symm,HBi.o⟩
 have HT5:=hid t;rw[t];clear t;go_wp2_with fail
 refine(zmv l la lb lc lca lcb lcc b a0 a1 a2 a3 c0 c1 c2 c3 _ (HL.o.mono HBi.o) (HK.o.mono HBi.o) (zqD HT2.o) HF.o.2).mono ?_;rintro e w7⟨rfl,hb6⟩;have hX7:=za hX6 hz6 hb6;have hL7:=za hL6 (nSl hz6) hb6;have hz7:=nLt hz6 hb6.size;have HBi:=hid (HBi.o.trans (hb6.mono HBi.o.size));clear hb6 hX6 hL6 hz6;have hy7:=nSl hz7;have HN:Hid (qF l b=jy l b):=by rw[Hid,zbB,HT0.o,HT1.o,HT2.o,HT3.o,HT4.o,HT5.o];rfl
 rw[HN.o];go_wp2_with fail
 go_ret;exact⟨rfl,HBi.o⟩
def j5 (l:Lw)(nm:BA)(s:Sl):Bool:=(!(s.dr.toList == nm.toList))||!zaK l s
noncomputable def jF (l:Lw)(now:Int)(d:Dor):Bool:=zm d.nm&&(zar l d.v&&(decide (d.v.now<=now)&&(decide (d.ss.length<=6)&&((d.up||decide (d.ss.length=0))&&!d.ss.any (j5 l d.nm)))))
theorem zd6 (w:World)(X Y Z:AV)(r s t:TypeId):∃W0,W0=((w.alloc (.cells X r)).alloc (.cells Y s)).alloc (.cells Z t)/\(∀j,W0.cell? (aD w.heap.size j)=X[j]?)/\(∀j,W0.cell? (aD (w.heap.size+1) j)=Y[j]?)/\(∀j,W0.cell? (aD (w.heap.size+1+1) j)=Z[j]?)/\w.heap.size+1+1<W0.heap.size/\Bw w W0:=by
 obtain⟨hA,hB,hC⟩:=zkK w (.cells X r) (.cells Y s) (.cells Z t);exact⟨_,rfl,fun _=>cell_of_block hA,fun _=>cell_of_block hB,fun _=>cell_of_block hC,by simp,below3' _ _ _ _⟩
theorem zcZ (w:World)(X:AV)(t:TypeId):∃W0,W0=w.alloc (.cells X t)/\W0.heap[w.heap.size]?=some (.cells X t)/\w.heap.size<W0.heap.size/\Bw w W0:=
 ⟨_,rfl,(MapKept.heap_alloc w _).1,by simp,bAl _ _⟩
theorem zgX (s:Sl)(p0 p1 p2 p3:OA)(q0 q1 q2 q3:Nat)(l:Lw)(la lb lc:OA)(lca lcb lcc:Nat)(nm:BA)(bd bl:Nat)(w:World)(hs:zdo w s p0 p1 p2 p3)(hl:yH w l la lb lc)(hbd:bd<w.heap.size)(hbl:bl<w.heap.size)(hcd:w.cell? (aD bd 0)=some (.s nm))(hcl:∀j,w.cell? (aD bl j)=(#[.l la l.ss.length lca,.l lb l.ms.length lcb,.l lc l.ts.length lcc]:AV)[j]?) :
 Calls Tryz.prog 179 #[.agg (s.cells p0 p1 p2 p3 q0 q1 q2 q3),.pointer (some (aD bd 0)),.pointer (some (aD bl 0))] w fun e w'=>e=.returned (.bool (j5 l nm s))/\Bw w w':=by
 have HS:=hid hs;have HL:=hid hl;clear hs hl
 by_cases he:s.dr=nm
 ·have e2:(s.dr.toList == nm.toList)=true:=by rw[beq_toList];simpa using he
  have HR:Hid (j5 l nm s=!zaK l s):=by unfold Hid j5;rw[e2];rfl
  clear he;go_enter Tryz.func179,Tryz.ntmps179
  go_upto_region 1 with fail
  obtain⟨W0,hW0,hb0,hz0,hB0⟩:=zcZ w (s.cells p0 p1 p2 p3 q0 q1 q2 q3) 192;rw[<- hW0];clear hW0;have hY0:=(hB0.cell (p:=(aD bd 0)) hbd).trans hcd;have hZ0:=za hcl hbl hB0;have hX0:W0.cell? (aD w.heap.size 0)=some (.s s.dr):=cell_of_block hb0;clear hcd hcl;refine wp_region_list ?_;refine tL ?_;refine tL ?_;refine tL ?_;refine tL ?_;refine tL ?_;refine tL ?_;refine gL ?_;refine mL (zj0 hb0) Tryz.underlying192 rfl (by kernel_rfl) ?_;refine dL fun K hK=>?_
  go_simp
  refine(zoB l la lb lc lca lcb lcc s p0 p1 p2 p3 q0 q1 q2 q3 _ (HL.o.mono hB0) (HS.o.mono hB0)).mono ?_;rintro e w1⟨rfl,hb⟩;have hB1:=hB0.trans (hb.mono hB0.size);clear hb
  (try go_wp2_with fail)
  refine hK.out _ _ ?_;clear hK K
  (try simp only[Act.put,sA,s0,sS])
  refine gL ?_;refine tL ?_;refine tL ?_;refine wpList_nil ?_;go_wp2_with fail
  go_ret;exact⟨ze HR.o.symm,hB1⟩
 ·have e2:(s.dr.toList == nm.toList)=false:=by rw[beq_toList];simpa using he
  have HR:Hid (j5 l nm s=true):=by unfold Hid j5;rw[e2];rfl
  clear he;go_enter Tryz.func179,Tryz.ntmps179
  go_upto_region 1 with fail
  obtain⟨W0,hW0,hb0,hz0,hB0⟩:=zcZ w (s.cells p0 p1 p2 p3 q0 q1 q2 q3) 192;rw[<- hW0];clear hW0;have hY0:=(hB0.cell (p:=(aD bd 0)) hbd).trans hcd;have hX0:W0.cell? (aD w.heap.size 0)=some (.s s.dr):=cell_of_block hb0;clear hcd hcl;refine wp_region_list ?_;refine tL ?_;refine tL ?_;refine tL ?_;refine tL ?_;refine tL ?_;refine tL ?_;refine kL ?_;refine kL ?_;refine kL ?_;refine kL ?_;refine tL ?_;refine tL ?_;refine wpList_nil ?_;go_wp2_with fail
  go_ret;exact⟨ze HR.o.symm,hB0⟩
def zrR (P:Program)(q q':Value)(ss:List Sl)(w:World)(p:Sl->Bool):Prop:=
 ∀w1,Bw w w1->∀i (h:i<ss.length) p0 p1 p2 p3 q0 q1 q2 q3,zdo w1 ss[i] p0 p1 p2 p3->Calls P 179 #[.agg (ss[i].cells p0 p1 p2 p3 q0 q1 q2 q3),q,q'] w1 fun e w'=>e=.returned (.bool (p ss[i]))/\Bw w1 w'
theorem zgs (a:OA)(cap:Nat)(ss:List Sl)(q q':Value)(p:Sl->Bool)(w:World)(hw:zbU w a ss)(hf:zrR Tryz.prog q q' ss w p) :
 Calls Tryz.prog 227 #[.l a ss.length cap,.func (.func 179) #[] #[q,q']] w fun e w'=>∃r:Int,e=.returned (.i r)/\decide (0<=r)=ss.any p/\Bw w w':=by
 have hl:=hw.len;unfold maxLen at hl;go_enter Tryz.func227,Tryz.ntmps227;go_wp2_with fail
 go_loopw [8] (fun i wr=>∃k:Nat,k<=ss.length/\i=.i k/\(ss.take k).any p=false/\Bw w wr) (fun i _=>ss.length-(intOf i).toNat)
 case atStart=>exact⟨0,Nat.zero_le _,rfl,rfl,bRf _ _⟩
 case round=>
  obtain⟨k,hk,rfl,hno,hB⟩:=hrel
  by_cases hlt:k<ss.length
  ·obtain⟨b,off,p0,p1,p2,p3,q0,q1,q2,q3,rfl,hb,hs,hr⟩:=hw.range hB k hlt
   have hltI:(k:Int)<(ss.length:Int):=by omega
   have HC:=ji (hf wr hB k hlt p0 p1 p2 p3 q0 q1 q2 q3 hs) hr;clear hw hf hs hr
   by_cases he:p ss[k]=true
   ·have HA:Hid (ss.any p=true):=zcd _ ss k hlt he
    have HE:Hid (p ss[k]=true):=he;clear he hno
    go_upto_region 4 with fail
    refine wp_region_list ?_;refine tL ?_;refine tL ?_;refine tL ?_;refine tL ?_;refine wpList_load_mid rfl 192 (.tmp 14) rfl b (off+k*18) rfl _ _ HC.o.2 Tryz.underlying192 rfl (by kernel_rfl) ?_;refine cL fun K hK=>?_
    go_simp
    refine(zf HE.o HC.o.1).mono ?_;rintro e w2⟨rfl,hb2⟩
    (try go_wp2_with fail)
    refine hK.out _ _ ?_;clear hK K;refine wpList_nil ?_
    (try simp only[Act.put,sA,s0,sS])
    go_wp2_with fail
    go_ret;exact⟨_,rfl,by rw[HA.o];simp,hB.trans (hb2.mono hB.size)⟩
   ·have he':p ss[k]=false:=by simpa using he
    have HS:Hid ((ss.take (k+1)).any p=false):=by unfold Hid;rw[qO _ ss k hlt,hno,he'];rfl
    have HE:Hid (p ss[k]=false):=he';clear he he' hno
    go_upto_region 4 with fail
    refine wp_region_list ?_;refine tL ?_;refine tL ?_;refine tL ?_;refine tL ?_;refine wpList_load_mid rfl 192 (.tmp 14) rfl b (off+k*18) rfl _ _ HC.o.2 Tryz.underlying192 rfl (by kernel_rfl) ?_;refine cL fun K hK=>?_
    go_simp
    refine(zf HE.o HC.o.1).mono ?_;rintro e w2⟨rfl,hb2⟩
    (try go_wp2_with fail)
    refine hK.out _ _ ?_;clear hK K;refine wpList_nil ?_
    (try simp only[Act.put,sA,s0,sS])
    go_wp2_with fail
    exact⟨⟨k+1,by omega,by go_num,HS.o,hB.trans (hb2.mono hB.size)⟩,by simp[intOf];omega⟩
  ·have HA:Hid (ss.any p=false):=by unfold Hid;rw[<- hno,tOl (by omega)]
   clear hno hw hf;go_wp2_with fail
   go_ret;exact⟨_,rfl,by rw[HA.o];rfl,hB⟩
theorem zct (a:OA)(cap:Nat)(ss:List Sl)(q q':Value)(p:Sl->Bool)(w:World)(hw:zbU w a ss)(hf:zrR Tryz.prog q q' ss w p) :
 Calls Tryz.prog 178 #[.l a ss.length cap,.func (.func 179) #[] #[q,q']] w fun e w'=>e=.returned (.bool (ss.any p))/\Bw w w':=by
 go_enter Tryz.func178,Tryz.ntmps178;go_wp2_with fail
 refine(zgs _ _ _ _ _ _ _ hw hf).mono ?_;rintro e w2⟨r,rfl,hr,hb2⟩;go_wp2_with fail
 go_ret;exact⟨rfl,hb2⟩
theorem zpq (H:Prop)(l:Lw)(la lb lc:OA)(lca lcb lcc:Nat)(b:Bk)(a0 a1 a2 a3:OA)(c0 c1 c2 c3:Nat)(d:Dor)(b0 b1 b2 b3 b4:OA)(e0 e1 e2 e3 e4:Nat)(w:World)(hl:yH w l la lb lc)(hd:zbX H w d b0 b1 b2 b3 b4)(hml:l.ms.length<=1048576)(hok:yx l.ss l.ms=true)(hf:d.Few) :
 Calls Tryz.prog 124 #[.agg (l.cells la lb lc lca lcb lcc),.agg (b.cells a0 a1 a2 a3 c0 c1 c2 c3),.agg (d.cells b0 b1 b2 b3 b4 e0 e1 e2 e3 e4)] w fun e w'=>e=.returned (.bool (jF l b.now d))/\Bw w w':=by
 have hln:=hd.ss.len;have HL:=hid hl;have HD:=hid hd;have HF:=zcl hml hok hf;clear hl hd hml hok hf;unfold maxLen at hln;unfold Lw.cells Bk.cells Dor.cells;go_enter Tryz.func124,Tryz.ntmps124
 go_upto_region 1 with fail
 obtain⟨W0,hW0,hX0,hY0,hZ0,hz0,hB0⟩:=zd6 w #[.l la l.ss.length lca,.l lb l.ms.length lcb,.l lc l.ts.length lcc] #[.i b.now,.i b.tick,.i b.given,.l a0 b.os.length c0,.l a1 b.gs.length c1,.l a2 b.ls.length c2,.l a3 b.ps.length c3] #[.s d.nm,.bool d.up,.i d.v.now,.i d.v.tick,.i d.v.given,.l b0 d.v.os.length e0,.l b1 d.v.gs.length e1,.l b2 d.v.ls.length e2,.l b3 d.v.ps.length e3,.l b4 d.ss.length e4] 44 51 133;rw[<- hW0];clear hW0;go_wp2_with fail
 refine(zB d.nm _ HD.o.nm).mono ?_;rintro e w1⟨rfl,rfl⟩
 cases hn:zm d.nm
 ·have HN:=hid hn
  clear hn;go_wp2_with fail
  go_ret;exact⟨ze (by unfold jF;rw[HN.o];rfl),hB0⟩
 have HN:=hid hn;clear hn;go_wp2_with fail
 refine(zjY l la lb lc lca lcb lcc d.v b0 b1 b2 b3 e0 e1 e2 e3 _ (HD.o.v.mono hB0) (HL.o.mono hB0) HF.o.1 HF.o.2.1 HF.o.2.2.v.os.2 HF.o.2.2.z).mono ?_;rintro e w2⟨rfl,hb⟩;have hX1:=za hX0 (by omega) hb;have hY1:=za hY0 (by omega) hb;have hZ1:=za hZ0 hz0 hb;have hz1:=nLt hz0 hb.size;have hB1:=hB0.trans (hb.mono hB0.size);clear hb hX0 hY0 hZ0 hz0 hB0
 cases hk:zar l d.v
 ·have HK:=hid hk
  clear hk;go_wp2_with fail
  go_ret;exact⟨ze (by unfold jF;rw[HN.o,HK.o];rfl),hB1⟩
 have HK:=hid hk;clear hk
 by_cases hv:d.v.now<=b.now
 rotate_left
 ·have hvd:decide (b.now<d.v.now)=true:=by simp;omega
  have HV:Hid (decide (d.v.now<=b.now)=false):=decide_eq_false hv;clear hv;go_wp2_with fail
  go_ret;exact⟨ze (by unfold jF;rw[HN.o,HK.o,HV.o];rfl),hB1⟩
 have hvd:decide (b.now<d.v.now)=false:=by simp;omega
 have HV:Hid (decide (d.v.now<=b.now)=true):=decide_eq_true hv;clear hv
 by_cases h6:d.ss.length<=6
 rotate_left
 ·have h6d:decide ((6:Int)<(d.ss.length:Int))=true:=by simp;omega
  have H6:Hid (decide (d.ss.length<=6)=false):=decide_eq_false h6;clear h6;go_wp2_with fail
  go_ret;exact⟨ze (by unfold jF;rw[HN.o,HK.o,HV.o,H6.o];rfl),hB1⟩
 have h6d:decide ((6:Int)<(d.ss.length:Int))=false:=by simp;omega
 have H6:Hid (decide (d.ss.length<=6)=true):=decide_eq_true h6;clear h6
 by_cases hu:(d.up||decide (d.ss.length=0))=true
 rotate_left
 ·have hu1:d.up=false/\¬d.ss.length=0:=by simpa using hu
  have hu2:=hu1.1;have hu3:0<d.ss.length:=by have:=hu1.2;omega
  have HU:Hid ((d.up||decide (d.ss.length=0))=false):=bFi hu;clear hu hu1;go_wp2_with fail
  go_ret;exact⟨ze (by unfold jF;rw[HN.o,HK.o,HV.o,H6.o,HU.o];rfl),hB1⟩
 have HU:Hid ((d.up||decide (d.ss.length=0))=true):=hu;have hfin:jF l b.now d=!d.ss.any (j5 l d.nm):=by unfold jF;rw[HN.o,HK.o,HV.o,H6.o,HU.o];simp
 have HFIN:=hid hfin;clear hfin HU HN HK HV H6
 cases hup:d.up
 ·have hu3:¬0<d.ss.length:=by rw[hup]at hu;simp at hu;simp[hu]
  clear hu;go_wp2_with fail
  refine(zct _ _ d.ss _ _ (j5 l d.nm) _ (HD.o.ss.mono hB1) ?_).mono ?_
  ·intro w3 hB3 i hi p0 p1 p2 p3 q0 q1 q2 q3 hs
   exact zgX _ p0 p1 p2 p3 q0 q1 q2 q3 l la lb lc lca lcb lcc d.nm _ _ w3 hs ((HL.o.mono hB1).mono hB3) (nLt hz1 hB3.size) (nLt (by omega) hB3.size) (za hZ1 hz1 hB3 0) (za hX1 (by omega) hB3)
  rintro e w3⟨rfl,hb⟩;have hB2:=hB1.trans (hb.mono hB1.size);clear hb hX1 hY1 hZ1 hz1 hB1;go_wp2_with fail
  go_ret;exact⟨ze HFIN.o.symm,hB2⟩
 ·clear hu
  go_wp2_with fail
  refine(zct _ _ d.ss _ _ (j5 l d.nm) _ (HD.o.ss.mono hB1) ?_).mono ?_
  ·intro w3 hB3 i hi p0 p1 p2 p3 q0 q1 q2 q3 hs
   exact zgX _ p0 p1 p2 p3 q0 q1 q2 q3 l la lb lc lca lcb lcc d.nm _ _ w3 hs ((HL.o.mono hB1).mono hB3) (nLt hz1 hB3.size) (nLt (by omega) hB3.size) (za hZ1 hz1 hB3 0) (za hX1 (by omega) hB3)
  rintro e w3⟨rfl,hb⟩;have hB2:=hB1.trans (hb.mono hB1.size);clear hb hX1 hY1 hZ1 hz1 hB1;go_wp2_with fail
  go_ret;exact⟨ze HFIN.o.symm,hB2⟩
def jI (a b:Dor):Int:=key a.nm b.nm
noncomputable def zaC (l:Lw)(x:Wd):Bool:=decide (x.ds.length<=4)&&(zaQ jI x.ds&&!x.ds.any (fun d=>!jF l x.b.now d))
noncomputable def zbr (l:Lw)(x:Wd):Bool:=jy l x.b&&zaC l x
theorem zlx (o p:Dor)(p0 p1 p2 p3 p4 u0 u1 u2 u3 u4:OA)(q0 q1 q2 q3 q4 v0 v1 v2 v3 v4:Nat)(w:World) :
 Calls Tryz.prog 121 #[.agg (o.cells p0 p1 p2 p3 p4 q0 q1 q2 q3 q4),.agg (p.cells u0 u1 u2 u3 u4 v0 v1 v2 v3 v4)] w fun e w'=>e=.returned (.i (jI o p))/\Bw w w':=by
 unfold Dor.cells;go_enter Tryz.func121,Tryz.ntmps121
 go_upto_region 1 with fail
 obtain⟨W0,hW0,hX0,hY0,hz0,hB0⟩:=zR w #[.s o.nm,.bool o.up,.i o.v.now,.i o.v.tick,.i o.v.given,.l p0 o.v.os.length q0,.l p1 o.v.gs.length q1,.l p2 o.v.ls.length q2,.l p3 o.v.ps.length q3,.l p4 o.ss.length q4] #[.s p.nm,.bool p.up,.i p.v.now,.i p.v.tick,.i p.v.given,.l u0 p.v.os.length v0,.l u1 p.v.gs.length v1,.l u2 p.v.ls.length v2,.l u3 p.v.ps.length v3,.l u4 p.ss.length v4] 133 133;rw[<- hW0];clear hW0;go_wp2_with fail
 refine(zdr _ _ _).mono ?_;rintro e w3⟨rfl,rfl⟩;go_wp2_with fail
 go_ret;exact⟨rfl,hB0⟩
theorem zhv (H:Prop)(a:OA)(cap:Nat)(ms:List Dor)(w:World)(hw:zay H w a ms) :
 Calls Tryz.prog 120 #[.l a ms.length cap,.func (.func 121) #[] #[]] w fun e w'=>e=.returned (.bool (zaQ jI ms))/\Bw w w':=by
 have hl:=hw.len;unfold maxLen at hl;have HW:=hid hw;clear hw;go_enter Tryz.func120,Tryz.ntmps120;go_wp2_with fail
 go_loopw [5] (fun iv wr=>∃m:Nat,iv=.i ((m:Int)+1)/\m<=ms.length/\Hid (zaa jI ms (m+1)/\Bw w wr)) (fun iv _=>ms.length+1-(intOf iv).toNat)
 case atStart=>exact⟨0,rfl,Nat.zero_le _,fun i h h'=>by omega,bRf _ _⟩
 case round=>
  obtain⟨m,rfl,hml,HQ⟩:=hrel
  by_cases hlt:m+1<ms.length
  ·have hm:m<ms.length:=by omega
   obtain⟨b,off,p0,p1,p2,p3,p4,q0,q1,q2,q3,q4,rfl,hb,_,hr⟩:=HW.o.range HQ.o.2.drew m hm;obtain⟨b2,off2,u0,u1,u2,u3,u4,v0,v1,v2,v3,v4,ha2,_,_,hr2⟩:=HW.o.range HQ.o.2.drew (m+1) hlt
   obtain⟨rfl,rfl⟩:b=b2/\off=off2:=by
    have h:=ha2
    simpa using h
   have hltI:(m:Int)+1<(ms.length:Int):=by omega
   have h0m:(0:Int)<=(m:Int):=by omega
   have h01:(0:Int)<=(m:Int)+1:=by omega
   have hsub:IntKind.i64.wrap ((m:Int)+1-1)=(m:Int):=by rw[IntKind.wrap_i64];omega
   have hsub2:IntKind.i64.wrap (m:Int)=(m:Int):=by rw[IntKind.wrap_i64];omega
   have hsub3:wrap64 (m:Int)=(m:Int):=by unfold wrap64;omega
   have htn:((m:Int)+1).toNat=m+1:=by omega
   have hlmI:(m:Int)<(ms.length:Int):=by omega
   have hB1:=HQ.o.2.drew;have hb1:=nLt hb hB1.size;have HM:Hid (zaa jI ms (m+1)):=HQ.o.1;have HR:=ji hr hr2;clear HQ hr hr2 ha2;go_wp2_with fail
   refine wp_region_held_drew (S:=fun w'=>w'.rangeAt b (off+m*10) (ms[m].cells p0 p1 p2 p3 p4 q0 q1 q2 q3 q4).toList/\w'.rangeAt b (off+(m+1)*10) (ms[m+1].cells u0 u1 u2 u3 u4 v0 v1 v2 v3 v4).toList) (by kernel_rfl) HR.o (fun H_=>?_);refine tG 0 ?_;refine tG 1 ?_;refine tG 2 ?_;refine tG 3 ?_;refine tG 4 ?_;refine mH 5 rfl H_ (fun _ h=>h.1) Tryz.underlying133 rfl (by kernel_rfl) ?_;refine tG 6 ?_;refine tG 7 ?_;refine tG 8 ?_;refine mH 9 rfl H_ (fun _ h=>h.2) Tryz.underlying133 rfl (by kernel_rfl) ?_;refine cH 10 rfl fun K hK=>?_
   go_simp
   refine(zlx ms[m] ms[m+1] p0 p1 p2 p3 p4 u0 u1 u2 u3 u4 q0 q1 q2 q3 q4 v0 v1 v2 v3 v4 _).mono ?_;rintro e w1⟨rfl,hbb⟩;have hB2:=hB1.trans (hbb.mono hB1.size)
   (try go_wp2_with fail)
   refine hK.out _ _ ?_ (fun H_=>?_)
   ·exact⟨qX HR.o.1 hb1 hbb,qX HR.o.2 hb1 hbb⟩
   clear hK K
   (try simp only[Act.put,sA,s0,sS])
   by_cases hk:jI ms[m] ms[m+1]<0
   ·have HA:Hid (zaa jI ms (m+1+1)):=zck HM.o hlt hk
    have hd:¬0<=jI ms[m] ms[m+1]:=by omega
    clear hk;refine tG 11 ?_;refine wpAnyH_done (by kernel_rfl) ?_ _;go_wp2_with fail
    exact⟨⟨m+1,by go_num,by omega,HA.o,hB2⟩,zfp (by omega)⟩
   ·have HA:Hid (zaQ jI ms=false):=zeB hlt hk
    have hd:0<=jI ms[m] ms[m+1]:=by omega
    clear hk;refine tG 11 ?_;refine wpAnyH_done (by kernel_rfl) ?_ _;go_wp2_with fail
    go_ret;exact⟨ze HA.o.symm,hB2⟩
  ·have HA:Hid (zaQ jI ms=true):=zfb HQ.o.1 (by omega)
   have HB:Hid (Bw w wr):=HQ.o.2;clear HQ;go_wp2_with fail
   go_ret;exact⟨ze HA.o.symm,HB.o⟩
theorem zjS (H:Prop)(d:Dor)(p0 p1 p2 p3 p4:OA)(q0 q1 q2 q3 q4:Nat)(l:Lw)(la lb lc:OA)(lca lcb lcc:Nat)(x:Wd)(a0 a1 a2 a3 a4:OA)(c0 c1 c2 c3 c4:Nat)(bl bw:Nat)(w:World)(hd:zbX H w d p0 p1 p2 p3 p4)(hl:yH w l la lb lc)(hml:l.ms.length<=1048576)(hok:yx l.ss l.ms=true)(hf:d.Few)(hbl:bl<w.heap.size)(hbw:bw<w.heap.size)(hcl:∀j,w.cell? (aD bl j)=(#[.l la l.ss.length lca,.l lb l.ms.length lcb,.l lc l.ts.length lcc]:AV)[j]?)(hcw:∀j,w.cell? (aD bw j)=(#[.i x.b.now,.i x.b.tick,.i x.b.given,.l a0 x.b.os.length c0,.l a1 x.b.gs.length c1,.l a2 x.b.ls.length c2,.l a3 x.b.ps.length c3,.l a4 x.ds.length c4]:AV)[j]?) :
 Calls Tryz.prog 123 #[.agg (d.cells p0 p1 p2 p3 p4 q0 q1 q2 q3 q4),.pointer (some (aD bl 0)),.pointer (some (aD bw 0))] w fun e w'=>e=.returned (.bool (!jF l x.b.now d))/\Bw w w':=by
 have HD:=ji hd hl;have HF:=zcl hml hok hf;clear hd hl hml hok hf;unfold Dor.cells;go_enter Tryz.func123,Tryz.ntmps123
 go_upto_region 1 with fail
 obtain⟨W0,hW0,hb0,hz0,hB0⟩:=zcZ w #[.s d.nm,.bool d.up,.i d.v.now,.i d.v.tick,.i d.v.given,.l p0 d.v.os.length q0,.l p1 d.v.gs.length q1,.l p2 d.v.ls.length q2,.l p3 d.v.ps.length q3,.l p4 d.ss.length q4] 133;rw[<- hW0];clear hW0;have hX0:=za hcl hbl hB0;have hY0:=za hcw hbw hB0;have hZ0:=fun j=>cell_of_block (o:=j) hb0
 clear hcl hcw hb0;go_wp2_with fail
 refine(zpq H l la lb lc lca lcb lcc x.b a0 a1 a2 a3 c0 c1 c2 c3 d p0 p1 p2 p3 p4 q0 q1 q2 q3 q4 _ (HD.o.2.mono hB0) (HD.o.1.mono hB0) HF.o.1 HF.o.2.1 HF.o.2.2).mono ?_;rintro e w1⟨rfl,hb⟩;have hB1:=hB0.trans (hb.mono hB0.size);clear hb hX0 hY0 hZ0 hB0;go_wp2_with fail
 go_ret;exact⟨rfl,hB1⟩
def zrh (P:Program)(q q':Value)(ss:List Dor)(w:World)(p:Dor->Bool):Prop:=
 ∀w1,Bw w w1->∀i (h:i<ss.length) p0 p1 p2 p3 p4 q0 q1 q2 q3 q4,zbX True w1 ss[i] p0 p1 p2 p3 p4->Calls P 123 #[.agg (ss[i].cells p0 p1 p2 p3 p4 q0 q1 q2 q3 q4),q,q'] w1 fun e w'=>e=.returned (.bool (p ss[i]))/\Bw w1 w'
theorem zhh (a:OA)(cap:Nat)(ss:List Dor)(q q':Value)(p:Dor->Bool)(w:World)(hw:zay True w a ss)(hf:zrh Tryz.prog q q' ss w p) :
 Calls Tryz.prog 177 #[.l a ss.length cap,.func (.func 123) #[] #[q,q']] w fun e w'=>∃r:Int,e=.returned (.i r)/\decide (0<=r)=ss.any p/\Bw w w':=by
 have hl:=hw.len;unfold maxLen at hl;go_enter Tryz.func177,Tryz.ntmps177;go_wp2_with fail
 go_loopw [8] (fun i wr=>∃k:Nat,k<=ss.length/\i=.i k/\(ss.take k).any p=false/\Bw w wr) (fun i _=>ss.length-(intOf i).toNat)
 case atStart=>exact⟨0,Nat.zero_le _,rfl,rfl,bRf _ _⟩
 case round=>
  obtain⟨k,hk,rfl,hno,hB⟩:=hrel
  by_cases hlt:k<ss.length
  ·obtain⟨b,off,p0,p1,p2,p3,p4,q0,q1,q2,q3,q4,rfl,hb,hs,hr⟩:=hw.range hB k hlt
   have hltI:(k:Int)<(ss.length:Int):=by omega
   have HC:=ji (hf wr hB k hlt p0 p1 p2 p3 p4 q0 q1 q2 q3 q4 hs) hr;clear hw hf hs hr
   by_cases he:p ss[k]=true
   ·have HA:Hid (ss.any p=true):=zcd _ ss k hlt he
    have HE:Hid (p ss[k]=true):=he;clear he hno
    go_upto_region 4 with fail
    refine wp_region_list ?_;refine tL ?_;refine tL ?_;refine tL ?_;refine tL ?_;refine wpList_load_mid rfl 133 (.tmp 14) rfl b (off+k*10) rfl _ _ HC.o.2 Tryz.underlying133 rfl (by kernel_rfl) ?_;refine cL fun K hK=>?_
    go_simp
    refine(zf HE.o HC.o.1).mono ?_;rintro e w2⟨rfl,hb2⟩
    (try go_wp2_with fail)
    refine hK.out _ _ ?_;clear hK K;refine wpList_nil ?_
    (try simp only[Act.put,sA,s0,sS])
    go_wp2_with fail
    go_ret;exact⟨_,rfl,by rw[HA.o];simp,hB.trans (hb2.mono hB.size)⟩
   ·have he':p ss[k]=false:=by simpa using he
    have HS:Hid ((ss.take (k+1)).any p=false):=by unfold Hid;rw[qO _ ss k hlt,hno,he'];rfl
    have HE:Hid (p ss[k]=false):=he';clear he he' hno
    go_upto_region 4 with fail
    refine wp_region_list ?_;refine tL ?_;refine tL ?_;refine tL ?_;refine tL ?_;refine wpList_load_mid rfl 133 (.tmp 14) rfl b (off+k*10) rfl _ _ HC.o.2 Tryz.underlying133 rfl (by kernel_rfl) ?_;refine cL fun K hK=>?_
    go_simp
    refine(zf HE.o HC.o.1).mono ?_;rintro e w2⟨rfl,hb2⟩
    (try go_wp2_with fail)
    refine hK.out _ _ ?_;clear hK K;refine wpList_nil ?_
    (try simp only[Act.put,sA,s0,sS])
    go_wp2_with fail
    exact⟨⟨k+1,by omega,by go_num,HS.o,hB.trans (hb2.mono hB.size)⟩,by simp[intOf];omega⟩
  ·have HA:Hid (ss.any p=false):=by unfold Hid;rw[<- hno,tOl (by omega)]
   clear hno hw hf;go_wp2_with fail
   go_ret;exact⟨_,rfl,by rw[HA.o];rfl,hB⟩
theorem zfn (a:OA)(cap:Nat)(ss:List Dor)(q q':Value)(p:Dor->Bool)(w:World)(hw:zay True w a ss)(hf:zrh Tryz.prog q q' ss w p) :
 Calls Tryz.prog 122 #[.l a ss.length cap,.func (.func 123) #[] #[q,q']] w fun e w'=>e=.returned (.bool (ss.any p))/\Bw w w':=by
 go_enter Tryz.func122,Tryz.ntmps122;go_wp2_with fail
 refine(zhh _ _ _ _ _ _ _ hw hf).mono ?_;rintro e w2⟨r,rfl,hr,hb2⟩;go_wp2_with fail
 go_ret;exact⟨rfl,hb2⟩
theorem zmR (l:Lw)(la lb lc:OA)(lca lcb lcc:Nat)(x:Wd)(a0 a1 a2 a3 a4:OA)(c0 c1 c2 c3 c4:Nat)(w:World)(hl:yH w l la lb lc)(hx:zgc True w x a0 a1 a2 a3 a4)(hml:l.ms.length<=1048576)(hok:yx l.ss l.ms=true)(hf:x.Few) :
 Calls Tryz.prog 75 #[.agg (l.cells la lb lc lca lcb lcc),.agg (x.cells a0 a1 a2 a3 a4 c0 c1 c2 c3 c4)] w fun e w'=>e=.returned (.bool (zaC l x))/\Bw w w':=by
 have hln:=hx.ds.len;have HD:=ji hx hl;have HF:=zcl hml hok hf;clear hx hl hml hok hf;unfold maxLen at hln;unfold Lw.cells Wd.cells;go_enter Tryz.func75,Tryz.ntmps75
 go_upto_region 1 with fail
 obtain⟨W0,hW0,hX0,hY0,hz0,hB0⟩:=zR w #[.l la l.ss.length lca,.l lb l.ms.length lcb,.l lc l.ts.length lcc] #[.i x.b.now,.i x.b.tick,.i x.b.given,.l a0 x.b.os.length c0,.l a1 x.b.gs.length c1,.l a2 x.b.ls.length c2,.l a3 x.b.ps.length c3,.l a4 x.ds.length c4] 44 55;rw[<- hW0];clear hW0
 by_cases h4:x.ds.length<=4
 rotate_left
 ·have h4d:decide ((4:Int)<(x.ds.length:Int))=true:=by simp;omega
  have H4:Hid (decide (x.ds.length<=4)=false):=decide_eq_false h4;clear h4;go_wp2_with fail
  go_ret;exact⟨ze (by unfold zaC;rw[H4.o];rfl),hB0⟩
 have h4d:decide ((4:Int)<(x.ds.length:Int))=false:=by simp;omega
 have H4:Hid (decide (x.ds.length<=4)=true):=decide_eq_true h4;clear h4;go_wp2_with fail
 refine(zhv True _ _ x.ds _ (HD.o.1.ds.mono hB0)).mono ?_;rintro e w1⟨rfl,hb⟩;have hX1:=za hX0 (by omega) hb;have hY1:=za hY0 hz0 hb;have hz1:=nLt hz0 hb.size;have hB1:=hB0.trans (hb.mono hB0.size);clear hb hX0 hY0 hz0 hB0
 cases hk:zaQ jI x.ds
 ·have HK:=hid hk
  clear hk;go_wp2_with fail
  go_ret;exact⟨ze (by unfold zaC;rw[H4.o,HK.o];rfl),hB1⟩
 have HK:=hid hk;clear hk;go_wp2_with fail
 refine(zfn _ _ x.ds _ _ (fun d=>!jF l x.b.now d) _ (HD.o.1.ds.mono hB1) ?_).mono ?_
 ·intro w3 hB3 i hi p0 p1 p2 p3 p4 q0 q1 q2 q3 q4 hs
  exact zjS True _ p0 p1 p2 p3 p4 q0 q1 q2 q3 q4 l la lb lc lca lcb lcc x a0 a1 a2 a3 a4 c0 c1 c2 c3 c4 _ _ w3 hs ((HD.o.2.mono hB1).mono hB3) HF.o.1 HF.o.2.1 (HF.o.2.2.ds.2 i hi) (nLt (by omega) hB3.size) (nLt hz1 hB3.size) (za hX1 (by omega) hB3) (za hY1 hz1 hB3)
 rintro e w3⟨rfl,hb⟩;have hB2:=hB1.trans (hb.mono hB1.size);clear hb hX1 hY1 hz1 hB1;go_wp2_with fail
 go_ret;exact⟨ze (by unfold zaC;rw[H4.o,HK.o];simp),hB2⟩
theorem ziU (l:Lw)(la lb lc:OA)(lca lcb lcc:Nat)(x:Wd)(a0 a1 a2 a3 a4:OA)(c0 c1 c2 c3 c4:Nat)(w:World)(hl:yH w l la lb lc)(hx:zgc True w x a0 a1 a2 a3 a4)(hlf:l.Few)(hf:x.Few) :
 Calls Tryz.prog 35 #[.agg (l.cells la lb lc lca lcb lcc),.agg (x.cells a0 a1 a2 a3 a4 c0 c1 c2 c3 c4)] w fun e w'=>e=.returned (.bool (zbr l x))/\Bw w w':=by
 have HD:=ji hx hl;have HF:=ji hlf hf;clear hx hl hlf hf;unfold Lw.cells Wd.cells;go_enter Tryz.func35,Tryz.ntmps35
 go_upto_region 1 with fail
 obtain⟨W0,hW0,hX0,hY0,hz0,hB0⟩:=zR w #[.l la l.ss.length lca,.l lb l.ms.length lcb,.l lc l.ts.length lcc] #[.i x.b.now,.i x.b.tick,.i x.b.given,.l a0 x.b.os.length c0,.l a1 x.b.gs.length c1,.l a2 x.b.ls.length c2,.l a3 x.b.ps.length c3,.l a4 x.ds.length c4] 44 55;rw[<- hW0];clear hW0;go_wp2_with fail
 refine(ze6 l la lb lc lca lcb lcc x.b a0 a1 a2 a3 c0 c1 c2 c3 _ (HD.o.2.mono hB0) (HD.o.1.b.mono hB0) HF.o.1 HF.o.2.b HF.o.2.z).mono ?_;rintro e w1⟨rfl,hb⟩;have hX1:=za hX0 (by omega) hb;have hY1:=za hY0 hz0 hb;have hz1:=nLt hz0 hb.size;have hB1:=hB0.trans (hb.mono hB0.size);clear hb hX0 hY0 hz0 hB0
 cases hk:jy l x.b
 ·have HK:=hid hk
  clear hk;go_wp2_with fail
  go_ret;exact⟨ze (by unfold zbr;rw[HK.o];rfl),hB1⟩
 have HK:=hid hk;have HM:Hid (yx l.ss l.ms=true):=by unfold jy zbi at hk;simp only[Bool.and_eq_true]at hk;exact hk.1.1
 clear hk;go_wp2_with fail
 refine(zmR l la lb lc lca lcb lcc x a0 a1 a2 a3 a4 c0 c1 c2 c3 c4 _ (HD.o.2.mono hB1) (HD.o.1.mono hB1) HF.o.1.ms HM.o HF.o.2).mono ?_;rintro e w3⟨rfl,hb⟩;have hB2:=hB1.trans (hb.mono hB1.size);clear hb hX1 hY1 hz1 hB1;go_wp2_with fail
 go_ret;exact⟨ze (by unfold zbr;rw[HK.o];rfl),hB2⟩
end Go.Proofs.YthdfpinbnncghaaGreat
