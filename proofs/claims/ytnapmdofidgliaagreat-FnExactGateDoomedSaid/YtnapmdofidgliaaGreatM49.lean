import Derived.Test.YtnapmdofidgliaaGreatM46
import Derived.Test.YtnapmdofidgliaaGreatM48
import Derived.Test.YtnapmdofidgliaaGreatM31
set_option maxHeartbeats 4000000
namespace Go.Proofs.YtnapmdofidgliaaGreat
open Go.RowKit
noncomputable def za5 (l:Lw)(b:Bk):Bool:=zaN b&&(zI l b&&(yK b&&(yV l.ts b&&(y7 b&&zcV l b))))
noncomputable def jM (l:Lw)(b:Bk):Bool:=zcl l&&za5 l b
theorem zdo {ts:List Tm}{b:Bk}(h:yV ts b=true):rising qP b.ls/\b.ls.length<=10/\∀i (hi:i<b.ls.length),yJ ts b.ls[i]=true:=by
 unfold yV at h;simp only[Bool.and_eq_true,decide_eq_true_eq]at h;exact⟨(zkq _ _).1 h.2.1,h.1,fun i hi=>List.all_eq_true.1 h.2.2 _ (List.getElem_mem _)⟩
theorem zmo {b:Bk}(h:zaN b=true):0<=b.tick/\b.tick<=1000000:=by
 unfold zaN within at h;simp only[Bool.and_eq_true,decide_eq_true_eq]at h;exact h.2.1
theorem zl5 {b:Bk}(h:y7 b=true):b.ps.length<=24/\∀i (hi:i<b.ps.length),yE b.ls b.tick b.ps[i]=true:=by
 unfold y7 at h;simp only[Bool.and_eq_true,decide_eq_true_eq]at h;exact⟨h.1,fun i hi=>List.all_eq_true.1 h.2.2 _ (List.getElem_mem _)⟩
theorem zor {b:Bk}(h:rising qP b.ls):∀i j (hi:i<b.ls.length) (hj:j<b.ls.length),b.ls[i].tm=b.ls[j].tm->b.ls[i].rs=b.ls[j].rs->i=j:=by
 intro i j hi hj e1 e2
 have hz:∀i j (hi:i<b.ls.length) (hj:j<b.ls.length),i<j->b.ls[i].tm=b.ls[j].tm->b.ls[i].rs=b.ls[j].rs->False:=by
  intro i j hi hj hlt e1 e2;have h1:=zcJ (fun a b c=>zbC (a:=a) (b:=b) (c:=c)) h j hj i hlt;have h2:qP b.ls[i] b.ls[j]=0:=by unfold qP;rw[zfo];exact⟨e1,e2⟩
  omega
 rcases Nat.lt_trichotomy i j with h1|h1|h1
 ·exact(hz i j hi hj h1 e1 e2).elim
 ·exact h1
 ·exact(hz j i hj hi h1 e1.symm e2.symm).elim
theorem zqC {ts:List Tm}{b:Bk}(h:yV ts b=true)(h':y7 b=true)(hz:qG b.os<=1048576):zi8 b:=by
 obtain⟨h1,h2,h3⟩:=zdo h;obtain⟨p1,p2⟩:=zl5 h';refine⟨zor h1,fun k hk=>?_,fun i hi=>?_,fun i hi=>?_,by omega,by omega,hz⟩
 ·have h4:=p2 k hk
  unfold yE jr at h4;simp only[Bool.and_eq_true]at h4;obtain⟨g,hg,h5⟩:=List.any_eq_true.1 h4.1;obtain⟨j,hj,rfl⟩:=List.mem_iff_getElem.1 hg;simp only[Bool.and_eq_true,decide_eq_true_eq]at h5;exact⟨j,hj,h5.1,h5.2⟩
 ·have h4:=h3 i hi
  unfold yJ jF at h4;simp only[Bool.and_eq_true,decide_eq_true_eq]at h4;omega
 ·have h4:=p2 i hi
  unfold yE within at h4;simp only[Bool.and_eq_true,decide_eq_true_eq]at h4;omega
set_option maxRecDepth 20000 in
theorem zoc (l:Lw)(la lb lc:Option Addr)(lca lcb lcc:Nat)(b:Bk)(a0 a1 a2 a3:Option Addr)(c0 c1 c2 c3:Nat)(w:World)(hb:jk w b a0 a1 a2 a3)(hl:jh w l la lb lc)(hml:l.ms.length<=1048576)(hok:yj l.ss l.ms=true)(hfw:∀i (h:i<b.os.length),b.os[i].vs.length<=1048576/\b.os[i].hs.length<=1048576)(hz:qG b.os<=1048576) :
 Calls Tryz.prog 75 #[.agg #[.slice la l.ss.length lca,.slice lb l.ms.length lcb,.slice lc l.ts.length lcc],.agg #[.int .i64 b.now,.int .i64 b.tick,.int .i64 b.given,.slice a0 b.os.length c0,.slice a1 b.gs.length c1,.slice a2 b.ls.length c2,.slice a3 b.ps.length c3]] w fun e w'=>e=.returned (.bool (za5 l b))/\Below w.heap.size w w':=by
 have HK:=hid hb;have HL:=hid hl;have HF:Hid (l.ms.length<=1048576/\yj l.ss l.ms=true/\(∀i (h:i<b.os.length),b.os[i].vs.length<=1048576/\b.os[i].hs.length<=1048576)/\qG b.os<=1048576):=⟨hml,hok,hfw,hz⟩
 clear hb hl hml hok hfw hz;go_enter Tryz.func75,Tryz.ntmps75;go_wp2_with fail
 obtain⟨hL0,hX0⟩:=qx w #[.slice la l.ss.length lca,.slice lb l.ms.length lcb,.slice lc l.ts.length lcc] #[.int .i64 b.now,.int .i64 b.tick,.int .i64 b.given,.slice a0 b.os.length c0,.slice a1 b.gs.length c1,.slice a2 b.ls.length c2,.slice a3 b.ps.length c3] 41 48;have HBi:Hid (Below w.heap.size w ((w.alloc (.cells #[.slice la l.ss.length lca,.slice lb l.ms.length lcb,.slice lc l.ts.length lcc] 41)).alloc (.cells #[.int .i64 b.now,.int .i64 b.tick,.int .i64 b.given,.slice a0 b.os.length c0,.slice a1 b.gs.length c1,.slice a2 b.ls.length c2,.slice a3 b.ps.length c3] 48))):=zw w _ _;obtain⟨W0,hW0⟩:∃W0,W0=(w.alloc (.cells #[.slice la l.ss.length lca,.slice lb l.ms.length lcb,.slice lc l.ts.length lcc] 41)).alloc (.cells #[.int .i64 b.now,.int .i64 b.tick,.int .i64 b.given,.slice a0 b.os.length c0,.slice a1 b.gs.length c1,.slice a2 b.ls.length c2,.slice a3 b.ps.length c3] 48):=⟨_,rfl⟩
 have hz0:w.heap.size+1<W0.heap.size:=by rw[hW0];simp
 rw[<- hW0]at HBi hX0 hL0 ⊢;clear hW0;refine(zkE b a0 a1 a2 a3 c0 c1 c2 c3 _).mono ?_;rintro e w1⟨rfl,hb0⟩;have hX1:=za hX0 hz0 hb0;have hL1:=za hL0 (nSl hz0) hb0;have hz1:=nLt hz0 hb0.size;have hy1:=nSl hz1;have HBi:=hid (HBi.out.trans (hb0.mono HBi.out.size));clear hb0 hX0 hL0 hz0
 by_cases t:zaN b=true
 rotate_left
 ·have HN:Hid (za5 l b=false):=by unfold Hid za5;rw[bFi t];rfl
  rw[bFi t];clear t;go_wp2_with fail
  go_ret;exact⟨ze HN.out.symm,HBi.out⟩
 have HT0:=hid t;rw[t];clear t;go_wp2_with fail
 refine(zj6 l la lb lc lca lcb lcc b a0 a1 a2 a3 c0 c1 c2 c3 _ (HK.out.mono HBi.out) (HL.out.mono HBi.out) HF.out.1 HF.out.2.1 HF.out.2.2.1).mono ?_;rintro e w2⟨rfl,hb1⟩;have hX2:=za hX1 hz1 hb1;have hL2:=za hL1 (nSl hz1) hb1;have hz2:=nLt hz1 hb1.size;have hy2:=nSl hz2;have HBi:=hid (HBi.out.trans (hb1.mono HBi.out.size));clear hb1 hX1 hL1 hz1 hy1
 by_cases t:zI l b=true
 rotate_left
 ·have HN:Hid (za5 l b=false):=by unfold Hid za5;rw[HT0.out,bFi t];rfl
  rw[bFi t];clear t;go_wp2_with fail
  go_ret;exact⟨ze HN.out.symm,HBi.out⟩
 have HT1:=hid t;rw[t];clear t;go_wp2_with fail
 refine(zkG b a0 a1 a2 a3 c0 c1 c2 c3 _ (HK.out.mono HBi.out)).mono ?_;rintro e w3⟨rfl,hb2⟩;have hX3:=za hX2 hz2 hb2;have hL3:=za hL2 (nSl hz2) hb2;have hz3:=nLt hz2 hb2.size;have hy3:=nSl hz3;have HBi:=hid (HBi.out.trans (hb2.mono HBi.out.size));clear hb2 hX2 hL2 hz2 hy2
 by_cases t:yK b=true
 rotate_left
 ·have HN:Hid (za5 l b=false):=by unfold Hid za5;rw[HT0.out,HT1.out,bFi t];rfl
  rw[bFi t];clear t;go_wp2_with fail
  go_ret;exact⟨ze HN.out.symm,HBi.out⟩
 have HT2:=hid t;rw[t];clear t;go_wp2_with fail
 refine(zjY l la lb lc lca lcb lcc b a0 a1 a2 a3 c0 c1 c2 c3 _ (HK.out.mono HBi.out) (HL.out.mono HBi.out)).mono ?_;rintro e w4⟨rfl,hb3⟩;have hX4:=za hX3 hz3 hb3;have hL4:=za hL3 (nSl hz3) hb3;have hz4:=nLt hz3 hb3.size;have hy4:=nSl hz4;have HBi:=hid (HBi.out.trans (hb3.mono HBi.out.size));clear hb3 hX3 hL3 hz3 hy3
 by_cases t:yV l.ts b=true
 rotate_left
 ·have HN:Hid (za5 l b=false):=by unfold Hid za5;rw[HT0.out,HT1.out,HT2.out,bFi t];rfl
  rw[bFi t];clear t;go_wp2_with fail
  go_ret;exact⟨ze HN.out.symm,HBi.out⟩
 have HT3:=hid t;rw[t];clear t;go_wp2_with fail
 refine(zk1 b a0 a1 a2 a3 c0 c1 c2 c3 _ (HK.out.mono HBi.out) (zdo HT3.out).1 (zdo HT3.out).2.1 (zmo HT0.out)).mono ?_;rintro e w5⟨rfl,hb4⟩;have hX5:=za hX4 hz4 hb4;have hL5:=za hL4 (nSl hz4) hb4;have hz5:=nLt hz4 hb4.size;have hy5:=nSl hz5;have HBi:=hid (HBi.out.trans (hb4.mono HBi.out.size));clear hb4 hX4 hL4 hz4 hy4
 by_cases t:y7 b=true
 rotate_left
 ·have HN:Hid (za5 l b=false):=by unfold Hid za5;rw[HT0.out,HT1.out,HT2.out,HT3.out,bFi t];rfl
  rw[bFi t];clear t;go_wp2_with fail
  go_ret;exact⟨ze HN.out.symm,HBi.out⟩
 have HT4:=hid t;rw[t];clear t;go_wp2_with fail
 refine(zmJ l la lb lc lca lcb lcc b a0 a1 a2 a3 c0 c1 c2 c3 _ (HL.out.mono HBi.out) (HK.out.mono HBi.out) (zqC HT3.out HT4.out HF.out.2.2.2)).mono ?_;rintro e w6⟨rfl,hb5⟩;have HBe:=hid (HBi.out.trans (hb5.mono HBi.out.size));have HN:Hid (zcV l b=za5 l b):=by unfold Hid za5;rw[HT0.out,HT1.out,HT2.out,HT3.out,HT4.out];rfl
 rw[HN.out];clear hb5 hX5 hL5 hz5 hy5;go_wp2_with fail
 go_ret;exact⟨rfl,HBe.out⟩
set_option maxRecDepth 20000 in
theorem zjQ (l:Lw)(la lb lc:Option Addr)(lca lcb lcc:Nat)(b:Bk)(a0 a1 a2 a3:Option Addr)(c0 c1 c2 c3:Nat)(w:World)(hl:jh w l la lb lc)(hb:jk w b a0 a1 a2 a3)(hlf:l.Few)(hbf:b.Few)(hz:qG b.os<=1048576) :
 Calls Tryz.prog 36 #[.agg (l.cells la lb lc lca lcb lcc),.agg (b.cells a0 a1 a2 a3 c0 c1 c2 c3)] w fun e w'=>e=.returned (.bool (jM l b))/\Below w.heap.size w w':=by
 have HK:=hid hb;have HL:=hid hl;have HF:Hid (l.Few/\b.Few/\qG b.os<=1048576):=⟨hlf,hbf,hz⟩
 clear hb hl hlf hbf hz;unfold Lw.cells Bk.cells;go_enter Tryz.func36,Tryz.ntmps36;go_wp2_with fail
 obtain⟨hL0,hX0⟩:=qx w #[.slice la l.ss.length lca,.slice lb l.ms.length lcb,.slice lc l.ts.length lcc] #[.int .i64 b.now,.int .i64 b.tick,.int .i64 b.given,.slice a0 b.os.length c0,.slice a1 b.gs.length c1,.slice a2 b.ls.length c2,.slice a3 b.ps.length c3] 41 48;have HBi:Hid (Below w.heap.size w ((w.alloc (.cells #[.slice la l.ss.length lca,.slice lb l.ms.length lcb,.slice lc l.ts.length lcc] 41)).alloc (.cells #[.int .i64 b.now,.int .i64 b.tick,.int .i64 b.given,.slice a0 b.os.length c0,.slice a1 b.gs.length c1,.slice a2 b.ls.length c2,.slice a3 b.ps.length c3] 48))):=zw w _ _;obtain⟨W0,hW0⟩:∃W0,W0=(w.alloc (.cells #[.slice la l.ss.length lca,.slice lb l.ms.length lcb,.slice lc l.ts.length lcc] 41)).alloc (.cells #[.int .i64 b.now,.int .i64 b.tick,.int .i64 b.given,.slice a0 b.os.length c0,.slice a1 b.gs.length c1,.slice a2 b.ls.length c2,.slice a3 b.ps.length c3] 48):=⟨_,rfl⟩
 have hz0:w.heap.size+1<W0.heap.size:=by rw[hW0];simp
 rw[<- hW0]at HBi hX0 hL0 ⊢;clear hW0;refine(zkF l la lb lc lca lcb lcc _ (HL.out.mono HBi.out) HF.out.1).mono ?_;rintro e w1⟨rfl,hb0⟩;have hX1:=za hX0 hz0 hb0;have hL1:=za hL0 (nSl hz0) hb0;have hz1:=nLt hz0 hb0.size;have hy1:=nSl hz1;have HBi:=hid (HBi.out.trans (hb0.mono HBi.out.size));clear hb0 hX0 hL0 hz0
 by_cases t:zcl l=true
 rotate_left
 ·have HN:Hid (jM l b=false):=by unfold Hid jM;rw[bFi t];rfl
  rw[bFi t];clear t;go_wp2_with fail
  go_ret;exact⟨ze HN.out.symm,HBi.out⟩
 have HN:Hid (za5 l b=jM l b):=by unfold Hid jM;rw[t];rfl
 have HM:Hid (yj l.ss l.ms=true):=by unfold zcl at t;simp only[Bool.and_eq_true]at t;exact t.1
 rw[t];clear t;go_wp2_with fail
 refine(zoc l la lb lc lca lcb lcc b a0 a1 a2 a3 c0 c1 c2 c3 _ (HK.out.mono HBi.out) (HL.out.mono HBi.out) HF.out.1.ms HM.out HF.out.2.1.os.2 HF.out.2.2).mono ?_;rintro e w2⟨rfl,hb1⟩;have HBe:=hid (HBi.out.trans (hb1.mono HBi.out.size));rw[HN.out];clear hb1 hX1 hL1 hz1 hy1;go_wp2_with fail
 go_ret;exact⟨rfl,HBe.out⟩
theorem zgw {l:Lw}{b:Bk}{o:Ob}(hok:yj l.ss l.ms=true)(h:yM l b o=true):o.vs.length=(shapeOf l.ss o.kd).fs.length:=by
 unfold yM zaS at h;simp only[Bool.and_eq_true,decide_eq_true_eq]at h;exact(zb0 (jG hok h.2.2.1.1)).1
theorem zfD {l:Lw}{b:Bk}(hok:yj l.ss l.ms=true)(h:zI l b=true):b.os.length<=40/\∀k (h:k<b.os.length),zy l.ss b.os[k]=true:=by
 unfold zI at h;simp only[Bool.and_eq_true,decide_eq_true_eq]at h;refine⟨h.1,fun k hk=>?_⟩;have h2:=List.all_eq_true.1 h.2.2 _ (List.getElem_mem hk);unfold yM zaS at h2;simp only[Bool.and_eq_true,decide_eq_true_eq]at h2;have h3:=jG hok h2.2.2.1.1;unfold qI at h3;unfold zy;simp only[Bool.and_eq_true,decide_eq_true_eq]at h3 ⊢;exact⟨h3.1,h3.2.1⟩
theorem book_facts {l:Lw}{b:Bk}(h:jM l b=true):yj l.ss l.ms=true/\zI l b=true:=by
 unfold jM za5 zcl at h;simp only[Bool.and_eq_true]at h;exact⟨h.1.1,h.2.2.1⟩
theorem zby (l:Lw)(b:Bk):jM l b=(zcl l&&((within b.now 0 1000000&&(within b.tick 0 1000000&&within b.given 0 b.now))&&(zI l b&&(yK b&&qw l b)))):=rfl
theorem zeU (n lo hi:Int)(w:World):Calls Tryz.prog 61 #[.int .i64 n,.int .i64 lo,.int .i64 hi] w fun e w'=>e=.returned (.bool (within n lo hi))/\w'=w:=yB n lo hi w
theorem zpG {n lo hi:Int}(h:within n lo hi=true):lo<=n/\n<=hi:=by unfold within at h;simpa using h
set_option maxRecDepth 20000 in
theorem zja (l:Lw)(la lb lc:Option Addr)(lca lcb lcc:Nat)(b:Bk)(a0 a1 a2 a3:Option Addr)(c0 c1 c2 c3:Nat)(w:World)(hl:jh w l la lb lc)(hb:jk w b a0 a1 a2 a3)(hh:zcZ w a0 b.os)(hbf:b.Few)(hz:qG b.os<=1048576) :
 Calls Tryz.prog 24 #[.agg (l.cells la lb lc lca lcb lcc),.agg (b.cells a0 a1 a2 a3 c0 c1 c2 c3)] w fun e w'=>e=.returned (.bool (jM l b))/\Below w.heap.size w w':=by
 have HK:=hid hb;have HL:=hid hl;have HH:=hid hh;have HF:Hid (b.Few/\qG b.os<=1048576):=⟨hbf,hz⟩
 clear hb hl hh hbf hz;unfold Lw.cells Bk.cells;go_enter Tryz.func24,Tryz.ntmps24;go_wp2_with fail
 obtain⟨hL0,hX0⟩:=qx w #[.slice la l.ss.length lca,.slice lb l.ms.length lcb,.slice lc l.ts.length lcc] #[.int .i64 b.now,.int .i64 b.tick,.int .i64 b.given,.slice a0 b.os.length c0,.slice a1 b.gs.length c1,.slice a2 b.ls.length c2,.slice a3 b.ps.length c3] 41 48;have HBi:Hid (Below w.heap.size w ((w.alloc (.cells #[.slice la l.ss.length lca,.slice lb l.ms.length lcb,.slice lc l.ts.length lcc] 41)).alloc (.cells #[.int .i64 b.now,.int .i64 b.tick,.int .i64 b.given,.slice a0 b.os.length c0,.slice a1 b.gs.length c1,.slice a2 b.ls.length c2,.slice a3 b.ps.length c3] 48))):=zw w _ _;obtain⟨W0,hW0⟩:∃W0,W0=(w.alloc (.cells #[.slice la l.ss.length lca,.slice lb l.ms.length lcb,.slice lc l.ts.length lcc] 41)).alloc (.cells #[.int .i64 b.now,.int .i64 b.tick,.int .i64 b.given,.slice a0 b.os.length c0,.slice a1 b.gs.length c1,.slice a2 b.ls.length c2,.slice a3 b.ps.length c3] 48):=⟨_,rfl⟩
 have hz0:w.heap.size+1<W0.heap.size:=by rw[hW0];simp
 rw[<- hW0]at HBi hX0 hL0 ⊢;clear hW0;refine(zkU l la lb lc lca lcb lcc _ (HL.out.mono HBi.out)).mono ?_;rintro e w1⟨rfl,hb0⟩;have hX1:=za hX0 hz0 hb0;have hL1:=za hL0 (nSl hz0) hb0;have hz1:=nLt hz0 hb0.size;have HBi:=hid (HBi.out.trans (hb0.mono HBi.out.size));clear hb0 hX0 hL0 hz0;have hy1:=nSl hz1
 by_cases t:zcl l=true
 rotate_left
 ·have HN:Hid (jM l b=false):=by rw[Hid,zby,bFi t];simp
  rw[bFi t];clear t;go_wp2_with fail
  go_ret;exact⟨ze HN.out.symm,HBi.out⟩
 have HT0:=hid t;rw[t];clear t;go_wp2_with fail
 have HM:Hid (yj l.ss l.ms=true):=by have t:=HT0.out;unfold zcl at t;simp only[Bool.and_eq_true]at t;exact t.1
 refine(zeU b.now (0) (1000000) _).mono ?_;rintro e w2⟨rfl,rfl⟩;have hX2:=hX1;have hL2:=hL1;have hz2:=hz1;clear hX1 hL1 hz1;have hy2:=nSl hz2;have hcv:within b.now 0 1000000=within b.now 0 1000000:=rfl;clear hcv
 by_cases t:within b.now 0 1000000=true
 rotate_left
 ·have HN:Hid (jM l b=false):=by rw[Hid,zby,HT0.out,bFi t];simp
  rw[bFi t];clear t;go_wp2_with fail
  go_ret;exact⟨ze HN.out.symm,HBi.out⟩
 have HT1:=hid t;rw[t];clear t;go_wp2_with fail
 refine(zeU b.tick (0) (1000000) _).mono ?_;rintro e w3⟨rfl,rfl⟩;have hX3:=hX2;have hL3:=hL2;have hz3:=hz2;clear hX2 hL2 hz2;have hy3:=nSl hz3;have hcv:within b.tick 0 1000000=within b.tick 0 1000000:=rfl;clear hcv
 by_cases t:within b.tick 0 1000000=true
 rotate_left
 ·have HN:Hid (jM l b=false):=by rw[Hid,zby,HT0.out,HT1.out,bFi t];simp
  rw[bFi t];clear t;go_wp2_with fail
  go_ret;exact⟨ze HN.out.symm,HBi.out⟩
 have HT2:=hid t;rw[t];clear t;go_wp2_with fail
 refine(zeU b.given (0) (b.now) _).mono ?_;rintro e w4⟨rfl,rfl⟩;have hX4:=hX3;have hL4:=hL3;have hz4:=hz3;clear hX3 hL3 hz3;have hy4:=nSl hz4;have hcv:within b.given 0 b.now=within b.given 0 b.now:=rfl;clear hcv
 by_cases t:within b.given 0 b.now=true
 rotate_left
 ·have HN:Hid (jM l b=false):=by rw[Hid,zby,HT0.out,HT1.out,HT2.out,bFi t];simp
  rw[bFi t];clear t;go_wp2_with fail
  go_ret;exact⟨ze HN.out.symm,HBi.out⟩
 have HT3:=hid t;rw[t];clear t;go_wp2_with fail
 refine(ziU l la lb lc lca lcb lcc b a0 a1 a2 a3 c0 c1 c2 c3 _ (HL.out.mono HBi.out) (HK.out.mono HBi.out) (HH.out.mono HBi.out) HM.out HF.out.1.os.2).mono ?_;rintro e w5⟨rfl,hb4⟩;have hX5:=za hX4 hz4 hb4;have hL5:=za hL4 (nSl hz4) hb4;have hz5:=nLt hz4 hb4.size;have HBi:=hid (HBi.out.trans (hb4.mono HBi.out.size));clear hb4 hX4 hL4 hz4;have hy5:=nSl hz5
 by_cases t:zI l b=true
 rotate_left
 ·have HN:Hid (jM l b=false):=by rw[Hid,zby,HT0.out,HT1.out,HT2.out,HT3.out,bFi t];simp
  rw[bFi t];clear t;go_wp2_with fail
  go_ret;exact⟨ze HN.out.symm,HBi.out⟩
 have HT4:=hid t;rw[t];clear t;go_wp2_with fail
 refine(zjd b a0 a1 a2 a3 c0 c1 c2 c3 _ (HK.out.mono HBi.out)).mono ?_;rintro e w6⟨rfl,hb5⟩;have hX6:=za hX5 hz5 hb5;have hL6:=za hL5 (nSl hz5) hb5;have hz6:=nLt hz5 hb5.size;have HBi:=hid (HBi.out.trans (hb5.mono HBi.out.size));clear hb5 hX5 hL5 hz5;have hy6:=nSl hz6
 by_cases t:yK b=true
 rotate_left
 ·have HN:Hid (jM l b=false):=by rw[Hid,zby,HT0.out,HT1.out,HT2.out,HT3.out,HT4.out,bFi t];simp
  rw[bFi t];clear t;go_wp2_with fail
  go_ret;exact⟨ze HN.out.symm,HBi.out⟩
 have HT5:=hid t;rw[t];clear t;go_wp2_with fail
 refine(zmz l la lb lc lca lcb lcc b a0 a1 a2 a3 c0 c1 c2 c3 _ (HL.out.mono HBi.out) (HK.out.mono HBi.out) (zpG HT2.out) HF.out.2).mono ?_;rintro e w7⟨rfl,hb6⟩;have hX7:=za hX6 hz6 hb6;have hL7:=za hL6 (nSl hz6) hb6;have hz7:=nLt hz6 hb6.size;have HBi:=hid (HBi.out.trans (hb6.mono HBi.out.size));clear hb6 hX6 hL6 hz6;have hy7:=nSl hz7;have HN:Hid (qw l b=jM l b):=by rw[Hid,zby,HT0.out,HT1.out,HT2.out,HT3.out,HT4.out,HT5.out];rfl
 rw[HN.out];go_wp2_with fail
 go_ret;exact⟨rfl,HBi.out⟩
end Go.Proofs.YtnapmdofidgliaaGreat
