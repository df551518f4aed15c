import Derived.Test.YtecncindgjdbiaaGreatM46
import Derived.Test.YtecncindgjdbiaaGreatM48
import Derived.Test.YtecncindgjdbiaaGreatM31
import Derived.Deep.Cut
set_option maxHeartbeats 4000000
namespace Go.Proofs.YtecncindgjdbiaaGreat
open Go.RowKit
noncomputable def zaL (l:Lw)(b:Bk):Bool:=zaF b&&(z8 l b&&(yJ b&&(yN l.ts b&&(yS b&&zcX l b))))
noncomputable def jH (l:Lw)(b:Bk):Bool:=zcs l&&zaL l b
theorem zb5 {ts:List Tm}{b:Bk}(h:yN ts b=true):rising qz b.ls/\b.ls.length<=10/\∀i (hi:i<b.ls.length),yH ts b.ls[i]=true:=by
 unfold yN at h;simp only[Bool.and_eq_true,decide_eq_true_eq]at h;exact⟨(zjl _ _).1 h.2.1,h.1,fun i hi=>List.all_eq_true.1 h.2.2 _ (List.getElem_mem _)⟩
theorem zgw {b:Bk}(h:zaF b=true):0<=b.tick/\b.tick<=1000000:=by
 unfold zaF within at h;simp only[Bool.and_eq_true,decide_eq_true_eq]at h;exact h.2.1
theorem zgS {b:Bk}(h:yS b=true):b.ps.length<=24/\∀i (hi:i<b.ps.length),yu b.ls b.tick b.ps[i]=true:=by
 unfold yS at h;simp only[Bool.and_eq_true,decide_eq_true_eq]at h;exact⟨h.1,fun i hi=>List.all_eq_true.1 h.2.2 _ (List.getElem_mem _)⟩
theorem zjY {b:Bk}(h:rising qz b.ls):∀i j (hi:i<b.ls.length) (hj:j<b.ls.length),b.ls[i].tm=b.ls[j].tm->b.ls[i].rs=b.ls[j].rs->i=j:=by
 intro i j hi hj e1 e2
 have hz:∀i j (hi:i<b.ls.length) (hj:j<b.ls.length),i<j->b.ls[i].tm=b.ls[j].tm->b.ls[i].rs=b.ls[j].rs->False:=by
  intro i j hi hj hlt e1 e2;have h1:=zbp (fun a b c=>zbn (a:=a) (b:=b) (c:=c)) h j hj i hlt;have h2:qz b.ls[i] b.ls[j]=0:=by unfold qz;rw[zff];exact⟨e1,e2⟩
  omega
 rcases Nat.lt_trichotomy i j with h1|h1|h1
 ·exact(hz i j hi hj h1 e1 e2).elim
 ·exact h1
 ·exact(hz j i hj hi h1 e1.symm e2.symm).elim
theorem zqR {ts:List Tm}{b:Bk}(h:yN ts b=true)(h':yS b=true)(hz:qO b.os<=1048576):zi6 b:=by
 obtain⟨h1,h2,h3⟩:=zb5 h;obtain⟨p1,p2⟩:=zgS h';refine⟨zjY h1,fun k hk=>?_,fun i hi=>?_,fun i hi=>?_,by omega,by omega,hz⟩
 ·have h4:=p2 k hk
  unfold yu qx at h4;simp only[Bool.and_eq_true]at h4;obtain⟨g,hg,h5⟩:=List.any_eq_true.1 h4.1;obtain⟨j,hj,rfl⟩:=List.mem_iff_getElem.1 hg;simp only[Bool.and_eq_true,decide_eq_true_eq]at h5;exact⟨j,hj,h5.1,h5.2⟩
 ·have h4:=h3 i hi
  unfold yH jl at h4;simp only[Bool.and_eq_true,decide_eq_true_eq]at h4;omega
 ·have h4:=p2 i hi
  unfold yu within at h4;simp only[Bool.and_eq_true,decide_eq_true_eq]at h4;omega
set_option maxRecDepth 20000 in
theorem zn6 (l:Lw)(la lb lc:OA)(lca lcb lcc:Nat)(b:Bk)(a0 a1 a2 a3:OA)(c0 c1 c2 c3:Nat)(w:World)(hb:jc w b a0 a1 a2 a3)(hl:jr w l la lb lc)(hml:l.ms.length<=1048576)(hok:yA l.ss l.ms=true)(hfw:∀i (h:i<b.os.length),b.os[i].vs.length<=1048576/\b.os[i].hs.length<=1048576)(hz:qO b.os<=1048576) :
 Calls Tryz.prog 80 #[.agg #[.l la l.ss.length lca,.l lb l.ms.length lcb,.l lc l.ts.length lcc],.agg #[.i b.now,.i b.tick,.i b.given,.l a0 b.os.length c0,.l a1 b.gs.length c1,.l a2 b.ls.length c2,.l a3 b.ps.length c3]] w fun e w'=>e=.returned (.bool (zaL l b))/\Bw w w':=by
 have HK:=hid hb;have HL:=hid hl;have HF:Hid (l.ms.length<=1048576/\yA l.ss l.ms=true/\(∀i (h:i<b.os.length),b.os[i].vs.length<=1048576/\b.os[i].hs.length<=1048576)/\qO b.os<=1048576):=⟨hml,hok,hfw,hz⟩
 clear hb hl hml hok hfw hz;go_enter Tryz.func80,Tryz.ntmps80;go_wp2_with fail
 obtain⟨hL0,hX0⟩:=qZ w #[.l la l.ss.length lca,.l lb l.ms.length lcb,.l lc l.ts.length lcc] (bC b a0 a1 a2 a3 c0 c1 c2 c3) 47 40;have HBi:Hid (Bw w ((w.alloc (.cells #[.l la l.ss.length lca,.l lb l.ms.length lcb,.l lc l.ts.length lcc] 47)).alloc (.cells (bC b a0 a1 a2 a3 c0 c1 c2 c3) 40))):=zw w _ _;obtain⟨W0,hW0⟩:=nm ((w.alloc (.cells #[.l la l.ss.length lca,.l lb l.ms.length lcb,.l lc l.ts.length lcc] 47)).alloc (.cells (bC b a0 a1 a2 a3 c0 c1 c2 c3) 40));have hz0:w.heap.size+1<W0.heap.size:=by rw[hW0];simp
 rw[<- hW0]at HBi hX0 hL0 ⊢;clear hW0;refine(zkL b a0 a1 a2 a3 c0 c1 c2 c3 _).mono ?_;rintro e w1⟨rfl,hb0⟩;have hX1:=za hX0 hz0 hb0;have hL1:=za hL0 (nSl hz0) hb0;have hz1:=nLt hz0 hb0.size;have hy1:=nSl hz1;have HBi:=hid (HBi.o.trans (hb0.mono HBi.o.size));clear hb0 hX0 hL0 hz0
 by_cases t:zaF b=true
 rotate_left
 ·have HN:Hid (zaL l b=false):=by unfold Hid zaL;rw[bFi t];rfl
  rw[bFi t];clear t;go_wp2_with fail
  go_ret;exact⟨ze HN.o.symm,HBi.o⟩
 have HT0:=hid t;rw[t];clear t;go_wp2_with fail
 refine(zjC l la lb lc lca lcb lcc b a0 a1 a2 a3 c0 c1 c2 c3 _ (HK.o.mono HBi.o) (HL.o.mono HBi.o) HF.o.1 HF.o.2.1 HF.o.2.2.1).mono ?_;rintro e w2⟨rfl,hb1⟩;have hX2:=za hX1 hz1 hb1;have hL2:=za hL1 (nSl hz1) hb1;have hz2:=nLt hz1 hb1.size;have hy2:=nSl hz2;have HBi:=hid (HBi.o.trans (hb1.mono HBi.o.size));clear hb1 hX1 hL1 hz1 hy1
 by_cases t:z8 l b=true
 rotate_left
 ·have HN:Hid (zaL l b=false):=by unfold Hid zaL;rw[HT0.o,bFi t];rfl
  rw[bFi t];clear t;go_wp2_with fail
  go_ret;exact⟨ze HN.o.symm,HBi.o⟩
 have HT1:=hid t;rw[t];clear t;go_wp2_with fail
 refine(zkV b a0 a1 a2 a3 c0 c1 c2 c3 _ (HK.o.mono HBi.o)).mono ?_;rintro e w3⟨rfl,hb2⟩;have hX3:=za hX2 hz2 hb2;have hL3:=za hL2 (nSl hz2) hb2;have hz3:=nLt hz2 hb2.size;have hy3:=nSl hz3;have HBi:=hid (HBi.o.trans (hb2.mono HBi.o.size));clear hb2 hX2 hL2 hz2 hy2
 by_cases t:yJ b=true
 rotate_left
 ·have HN:Hid (zaL l b=false):=by unfold Hid zaL;rw[HT0.o,HT1.o,bFi t];rfl
  rw[bFi t];clear t;go_wp2_with fail
  go_ret;exact⟨ze HN.o.symm,HBi.o⟩
 have HT2:=hid t;rw[t];clear t;go_wp2_with fail
 refine(zkq l la lb lc lca lcb lcc b a0 a1 a2 a3 c0 c1 c2 c3 _ (HK.o.mono HBi.o) (HL.o.mono HBi.o)).mono ?_;rintro e w4⟨rfl,hb3⟩;have hX4:=za hX3 hz3 hb3;have hL4:=za hL3 (nSl hz3) hb3;have hz4:=nLt hz3 hb3.size;have hy4:=nSl hz4;have HBi:=hid (HBi.o.trans (hb3.mono HBi.o.size));clear hb3 hX3 hL3 hz3 hy3
 by_cases t:yN l.ts b=true
 rotate_left
 ·have HN:Hid (zaL l b=false):=by unfold Hid zaL;rw[HT0.o,HT1.o,HT2.o,bFi t];rfl
  rw[bFi t];clear t;go_wp2_with fail
  go_ret;exact⟨ze HN.o.symm,HBi.o⟩
 have HT3:=hid t;rw[t];clear t;go_wp2_with fail
 refine(zk3 b a0 a1 a2 a3 c0 c1 c2 c3 _ (HK.o.mono HBi.o) (zb5 HT3.o).1 (zb5 HT3.o).2.1 (zgw HT0.o)).mono ?_;rintro e w5⟨rfl,hb4⟩;have hX5:=za hX4 hz4 hb4;have hL5:=za hL4 (nSl hz4) hb4;have hz5:=nLt hz4 hb4.size;have hy5:=nSl hz5;have HBi:=hid (HBi.o.trans (hb4.mono HBi.o.size));clear hb4 hX4 hL4 hz4 hy4
 by_cases t:yS b=true
 rotate_left
 ·have HN:Hid (zaL l b=false):=by unfold Hid zaL;rw[HT0.o,HT1.o,HT2.o,HT3.o,bFi t];rfl
  rw[bFi t];clear t;go_wp2_with fail
  go_ret;exact⟨ze HN.o.symm,HBi.o⟩
 have HT4:=hid t;rw[t];clear t;go_wp2_with fail
 refine(zm5 l la lb lc lca lcb lcc b a0 a1 a2 a3 c0 c1 c2 c3 _ (HL.o.mono HBi.o) (HK.o.mono HBi.o) (zqR HT3.o HT4.o HF.o.2.2.2)).mono ?_;rintro e w6⟨rfl,hb5⟩;have HBe:=hid (HBi.o.trans (hb5.mono HBi.o.size));have HN:Hid (zcX l b=zaL l b):=by unfold Hid zaL;rw[HT0.o,HT1.o,HT2.o,HT3.o,HT4.o];rfl
 rw[HN.o];clear hb5 hX5 hL5 hz5 hy5;go_wp2_with fail
 go_ret;exact⟨rfl,HBe.o⟩
set_option maxRecDepth 20000 in
theorem zjx (l:Lw)(la lb lc:OA)(lca lcb lcc:Nat)(b:Bk)(a0 a1 a2 a3:OA)(c0 c1 c2 c3:Nat)(w:World)(hl:jr w l la lb lc)(hb:jc w b a0 a1 a2 a3)(hlf:l.Few)(hbf:b.Few)(hz:qO b.os<=1048576) :
 Calls Tryz.prog 33 #[.agg (l.cells la lb lc lca lcb lcc),.agg (b.cells a0 a1 a2 a3 c0 c1 c2 c3)] w fun e w'=>e=.returned (.bool (jH l b))/\Bw w w':=by
 have HK:=hid hb;have HL:=hid hl;have HF:Hid (l.Few/\b.Few/\qO b.os<=1048576):=⟨hlf,hbf,hz⟩
 clear hb hl hlf hbf hz;unfold Lw.cells Bk.cells;go_enter Tryz.func33,Tryz.ntmps33;go_wp2_with fail
 obtain⟨hL0,hX0⟩:=qZ w #[.l la l.ss.length lca,.l lb l.ms.length lcb,.l lc l.ts.length lcc] (bC b a0 a1 a2 a3 c0 c1 c2 c3) 47 40;have HBi:Hid (Bw w ((w.alloc (.cells #[.l la l.ss.length lca,.l lb l.ms.length lcb,.l lc l.ts.length lcc] 47)).alloc (.cells (bC b a0 a1 a2 a3 c0 c1 c2 c3) 40))):=zw w _ _;obtain⟨W0,hW0⟩:=nm ((w.alloc (.cells #[.l la l.ss.length lca,.l lb l.ms.length lcb,.l lc l.ts.length lcc] 47)).alloc (.cells (bC b a0 a1 a2 a3 c0 c1 c2 c3) 40));have hz0:w.heap.size+1<W0.heap.size:=by rw[hW0];simp
 rw[<- hW0]at HBi hX0 hL0 ⊢;clear hW0;refine(zkS l la lb lc lca lcb lcc _ (HL.o.mono HBi.o) HF.o.1).mono ?_;rintro e w1⟨rfl,hb0⟩;have hX1:=za hX0 hz0 hb0;have hL1:=za hL0 (nSl hz0) hb0;have hz1:=nLt hz0 hb0.size;have hy1:=nSl hz1;have HBi:=hid (HBi.o.trans (hb0.mono HBi.o.size));clear hb0 hX0 hL0 hz0
 by_cases t:zcs l=true
 rotate_left
 ·have HN:Hid (jH l b=false):=by unfold Hid jH;rw[bFi t];rfl
  rw[bFi t];clear t;go_wp2_with fail
  go_ret;exact⟨ze HN.o.symm,HBi.o⟩
 have HN:Hid (zaL l b=jH l b):=by unfold Hid jH;rw[t];rfl
 have HM:Hid (yA l.ss l.ms=true):=by unfold zcs at t;simp only[Bool.and_eq_true]at t;exact t.1
 rw[t];clear t;go_wp2_with fail
 refine(zn6 l la lb lc lca lcb lcc b a0 a1 a2 a3 c0 c1 c2 c3 _ (HK.o.mono HBi.o) (HL.o.mono HBi.o) HF.o.1.ms HM.o HF.o.2.1.os.2 HF.o.2.2).mono ?_;rintro e w2⟨rfl,hb1⟩;have HBe:=hid (HBi.o.trans (hb1.mono HBi.o.size));rw[HN.o];clear hb1 hX1 hL1 hz1 hy1;go_wp2_with fail
 go_ret;exact⟨rfl,HBe.o⟩
def paid (p:Pu)(g:Lg):Lg:=if zcf p.tm p.rs g=true then ⟨g.tm,g.rs,g.mo,g.fr+p.am⟩ else g
def pay (ls:List Lg)(p:Pu):List Lg:=ls.map (paid p)
theorem zaO (ls:List Lg)(p:Pu):(pay ls p).length=ls.length:=List.length_map ..
theorem zrc (ls:List Lg)(p:Pu)(i:Nat)(h:i<ls.length):(pay ls p)[i]'(by rw[zaO];exact h)=paid p ls[i]:=by unfold pay;rw[List.getElem_map]
structure Within (ls:List Lg)(n:Nat):Prop where
 fr:∀g∈ls,0<=g.fr/\g.fr<=1000000*((n:Int)+1)
def zaQ:Bk:=⟨0,0,0,[],[],[],[]⟩
theorem zbb (l:Lw)(b:Bk):jH l b=(zcs l&&((within b.now 0 1000000&&(within b.tick 0 1000000&&within b.given 0 b.now))&&(z8 l b&&(yJ b&&qp l b)))):=rfl
theorem ze8 (n lo hi:Int)(w:World):Calls Tryz.prog 64 #[.i n,.i lo,.i hi] w fun e w'=>e=.returned (.bool (within n lo hi))/\w'=w:=yw n lo hi w
theorem zpy {n lo hi:Int}(h:within n lo hi=true):lo<=n/\n<=hi:=by unfold within at h;simpa using h
set_option maxRecDepth 20000 in
theorem zjt (l:Lw)(la lb lc:OA)(lca lcb lcc:Nat)(b:Bk)(a0 a1 a2 a3:OA)(c0 c1 c2 c3:Nat)(w:World)(hl:jr w l la lb lc)(hb:jc w b a0 a1 a2 a3)(hh:zcn w a0 b.os)(hbf:b.Few)(hz:qO b.os<=1048576) :
 Calls Tryz.prog 22 #[.agg (l.cells la lb lc lca lcb lcc),.agg (b.cells a0 a1 a2 a3 c0 c1 c2 c3)] w fun e w'=>e=.returned (.bool (jH l b))/\Bw w w':=by
 have HK:=hid hb;have HL:=hid hl;have HH:=hid hh;have HF:Hid (b.Few/\qO b.os<=1048576):=⟨hbf,hz⟩
 clear hb hl hh hbf hz;unfold Lw.cells Bk.cells;go_enter Tryz.func22,Tryz.ntmps22;go_wp2_with fail
 obtain⟨hL0,hX0⟩:=qZ w #[.l la l.ss.length lca,.l lb l.ms.length lcb,.l lc l.ts.length lcc] (bC b a0 a1 a2 a3 c0 c1 c2 c3) 47 40;have HBi:Hid (Bw w ((w.alloc (.cells #[.l la l.ss.length lca,.l lb l.ms.length lcb,.l lc l.ts.length lcc] 47)).alloc (.cells (bC b a0 a1 a2 a3 c0 c1 c2 c3) 40))):=zw w _ _;obtain⟨W0,hW0⟩:=nm ((w.alloc (.cells #[.l la l.ss.length lca,.l lb l.ms.length lcb,.l lc l.ts.length lcc] 47)).alloc (.cells (bC b a0 a1 a2 a3 c0 c1 c2 c3) 40));have hz0:w.heap.size+1<W0.heap.size:=by rw[hW0];simp
 rw[<- hW0]at HBi hX0 hL0 ⊢;clear hW0;refine(zkZ l la lb lc lca lcb lcc _ (HL.o.mono HBi.o)).mono ?_;rintro e w1⟨rfl,hb0⟩;have hX1:=za hX0 hz0 hb0;have hL1:=za hL0 (nSl hz0) hb0;have hz1:=nLt hz0 hb0.size;have HBi:=hid (HBi.o.trans (hb0.mono HBi.o.size));clear hb0 hX0 hL0 hz0;have hy1:=nSl hz1
 by_cases t:zcs l=true
 rotate_left
 ·have HN:Hid (jH l b=false):=by rw[Hid,zbb,bFi t];simp
  rw[bFi t];clear t;go_wp2_with fail
  go_ret;exact⟨ze HN.o.symm,HBi.o⟩
 have HT0:=hid t;rw[t];clear t;go_wp2_with fail
 have HM:Hid (yA l.ss l.ms=true):=by have t:=HT0.o;unfold zcs at t;simp only[Bool.and_eq_true]at t;exact t.1
 refine(ze8 b.now (0) (1000000) _).mono ?_;rintro e w2⟨rfl,rfl⟩;have hX2:=hX1;have hL2:=hL1;have hz2:=hz1;clear hX1 hL1 hz1;have hy2:=nSl hz2;have hcv:within b.now 0 1000000=within b.now 0 1000000:=rfl;clear hcv
 by_cases t:within b.now 0 1000000=true
 rotate_left
 ·have HN:Hid (jH l b=false):=by rw[Hid,zbb,HT0.o,bFi t];simp
  rw[bFi t];clear t;go_wp2_with fail
  go_ret;exact⟨ze HN.o.symm,HBi.o⟩
 have HT1:=hid t;rw[t];clear t;go_wp2_with fail
 refine(ze8 b.tick (0) (1000000) _).mono ?_;rintro e w3⟨rfl,rfl⟩;have hX3:=hX2;have hL3:=hL2;have hz3:=hz2;clear hX2 hL2 hz2;have hy3:=nSl hz3;have hcv:within b.tick 0 1000000=within b.tick 0 1000000:=rfl;clear hcv
 by_cases t:within b.tick 0 1000000=true
 rotate_left
 ·have HN:Hid (jH l b=false):=by rw[Hid,zbb,HT0.o,HT1.o,bFi t];simp
  rw[bFi t];clear t;go_wp2_with fail
  go_ret;exact⟨ze HN.o.symm,HBi.o⟩
 have HT2:=hid t;rw[t];clear t;go_wp2_with fail
 refine(ze8 b.given (0) (b.now) _).mono ?_;rintro e w4⟨rfl,rfl⟩;have hX4:=hX3;have hL4:=hL3;have hz4:=hz3;clear hX3 hL3 hz3;have hy4:=nSl hz4;have hcv:within b.given 0 b.now=within b.given 0 b.now:=rfl;clear hcv
 by_cases t:within b.given 0 b.now=true
 rotate_left
 ·have HN:Hid (jH l b=false):=by rw[Hid,zbb,HT0.o,HT1.o,HT2.o,bFi t];simp
  rw[bFi t];clear t;go_wp2_with fail
  go_ret;exact⟨ze HN.o.symm,HBi.o⟩
 have HT3:=hid t;rw[t];clear t;go_wp2_with fail
 refine(ziR l la lb lc lca lcb lcc b a0 a1 a2 a3 c0 c1 c2 c3 _ (HL.o.mono HBi.o) (HK.o.mono HBi.o) (HH.o.mono HBi.o) HM.o HF.o.1.os.2).mono ?_;rintro e w5⟨rfl,hb4⟩;have hX5:=za hX4 hz4 hb4;have hL5:=za hL4 (nSl hz4) hb4;have hz5:=nLt hz4 hb4.size;have HBi:=hid (HBi.o.trans (hb4.mono HBi.o.size));clear hb4 hX4 hL4 hz4;have hy5:=nSl hz5
 by_cases t:z8 l b=true
 rotate_left
 ·have HN:Hid (jH l b=false):=by rw[Hid,zbb,HT0.o,HT1.o,HT2.o,HT3.o,bFi t];simp
  rw[bFi t];clear t;go_wp2_with fail
  go_ret;exact⟨ze HN.o.symm,HBi.o⟩
 have HT4:=hid t;rw[t];clear t;go_wp2_with fail
 refine(zjP b a0 a1 a2 a3 c0 c1 c2 c3 _ (HK.o.mono HBi.o)).mono ?_;rintro e w6⟨rfl,hb5⟩;have hX6:=za hX5 hz5 hb5;have hL6:=za hL5 (nSl hz5) hb5;have hz6:=nLt hz5 hb5.size;have HBi:=hid (HBi.o.trans (hb5.mono HBi.o.size));clear hb5 hX5 hL5 hz5;have hy6:=nSl hz6
 by_cases t:yJ b=true
 rotate_left
 ·have HN:Hid (jH l b=false):=by rw[Hid,zbb,HT0.o,HT1.o,HT2.o,HT3.o,HT4.o,bFi t];simp
  rw[bFi t];clear t;go_wp2_with fail
  go_ret;exact⟨ze HN.o.symm,HBi.o⟩
 have HT5:=hid t;rw[t];clear t;go_wp2_with fail
 refine(zlO l la lb lc lca lcb lcc b a0 a1 a2 a3 c0 c1 c2 c3 _ (HL.o.mono HBi.o) (HK.o.mono HBi.o) (zpy HT2.o) HF.o.2).mono ?_;rintro e w7⟨rfl,hb6⟩;have hX7:=za hX6 hz6 hb6;have hL7:=za hL6 (nSl hz6) hb6;have hz7:=nLt hz6 hb6.size;have HBi:=hid (HBi.o.trans (hb6.mono HBi.o.size));clear hb6 hX6 hL6 hz6;have hy7:=nSl hz7;have HN:Hid (qp l b=jH l b):=by rw[Hid,zbb,HT0.o,HT1.o,HT2.o,HT3.o,HT4.o,HT5.o];rfl
 rw[HN.o];go_wp2_with fail
 go_ret;exact⟨rfl,HBi.o⟩
structure znL (lo:Nat)(w:World)(e:Ending)(r:Bk × Int):Prop where
 ex:∃hi own d0 d1 d2 d3 e0 e1 e2 e3,e=.returned (.tuple #[.agg (r.1.cells d0 d1 d2 d3 e0 e1 e2 e3),.i r.2])/\BkL lo hi w own r.1 d0 d1 d2 d3
theorem BkF.low {lo lo' hi:Nat}{w:World}{own:Nat->Lb}{a0 a1 a2 a3:OA}{n0 n1 n2 n3:Nat}{f0:Nat->Ob}{f1:Nat->Gr}{f2:Nat->Lg}{f3:Nat->Pu}(h:BkF lo hi w own a0 a1 a2 a3 n0 n1 n2 n3 f0 f1 f2 f3)(hl:lo'<=lo):BkF lo' hi w own a0 a1 a2 a3 n0 n1 n2 n3 f0 f1 f2 f3:=
 ⟨h.os.low hl,h.gs.low hl,h.ls.low hl,h.ps.low hl,fun k hk=>h.out k (by omega),Nat.le_trans hl h.le,h.hi⟩
structure zre (b:Bk):Prop where
 rise:rising qz b.ls
 len:b.ls.length<=10
 fr:Within b.ls 0
 plen:b.ps.length<=24
 has:∀i (h:i<b.ps.length),qx b.ls b.ps[i].tm b.ps[i].rs=true
 am:∀p∈b.ps,1<=p.am/\p.am<=1000000
 tick:0<=b.tick/\b.tick<=1000000
theorem zpa {l:Lw}{b:Bk}(h:jH l b=true):zre b:=by
 unfold jH zaL at h;simp only[Bool.and_eq_true]at h;obtain⟨h1,h2,h3⟩:=zb5 h.2.2.2.2.1;obtain⟨h4,h5⟩:=zgS h.2.2.2.2.2.1
 have hp:∀i (hi:i<b.ps.length),qx b.ls b.ps[i].tm b.ps[i].rs=true/\1<=b.ps[i].am/\b.ps[i].am<=1000000:=fun i hi=>by
  have h6:=h5 i hi;unfold yu within at h6;simp only[Bool.and_eq_true,decide_eq_true_eq]at h6;exact⟨h6.1,h6.2.2.1⟩
 refine⟨h1,h2,⟨fun g hg=>?_⟩,h4,fun i hi=>(hp i hi).1,fun p hp'=>?_,zgw h.2.1⟩
 ·obtain⟨i,hi,rfl⟩:=List.mem_iff_getElem.1 hg
  have h6:=h3 i hi;unfold yH jl at h6;simp only[Bool.and_eq_true,decide_eq_true_eq]at h6;omega
 ·obtain⟨i,hi,rfl⟩:=List.mem_iff_getElem.1 hp'
  exact(hp i hi).2
theorem zar.py {lo:Nat}{w w':World}{own:Nat->Lb}{a:OA}{ls:List Lg}{p:Pu}{k g:Nat}{C:AV}(h:zar lo w own a ls.length (za6 ls))(hr:rising qz ls)(hk:k<ls.length)(hp:ls[k].tm=p.tm/\ls[k].rs=p.rs)(ha:a=some (aD g 0))(hC:w.heap[g]?=some (.cells C 130))
 (hR:qH w' g 130 C 4 k #[.s ls[k].tm,.s ls[k].rs,.i ls[k].mo,.i (ls[k].fr+p.am)]):zar lo w' own a ls.length (za6 (pay ls p)):=by
 refine⟨fun hn=>?_⟩;obtain⟨b,C0,ha',hlo,hb,hC0,hs,hx⟩:=h.rows hn;rw[ha]at ha'
 cases ha'
 rw[hC]at hC0
 cases hC0
 obtain⟨C',hC',hs',ho',hd'⟩:=hR.ex;refine⟨g,C',ha,hlo,hb,hC',by omega,fun i hi=>?_⟩;have e1:za6 (pay ls p) i=paid p ls[i]:=by rw[zfh (by rw[zaO];exact hi),zrc ls p i hi]
 rw[e1]
 by_cases ei:i=k
 ·subst ei
  have e2:paid p ls[i]=⟨ls[i].tm,ls[i].rs,ls[i].mo,ls[i].fr+p.am⟩:=if_pos (by unfold zcf;simp[hp.1,hp.2]);rw[e2];exact⟨fun j hj=>hd' j hj⟩
 ·have e2:paid p ls[i]=ls[i]:=by
   refine if_neg fun h9=>ei ?_
   unfold zcf at h9;simp only[Bool.and_eq_true,decide_eq_true_eq]at h9;exact zjY (b:=⟨0,0,0,[],[],ls,[]⟩) hr i k hi hk (h9.1.trans hp.1.symm) (h9.2.trans hp.2.symm)
  rw[e2];have hy:=hx i hi;rw[zfh hi]at hy;exact⟨fun j hj=>(ho' _ (by omega)).trans (hy.cell j hj)⟩
set_option maxRecDepth 20000 in
theorem zmr (lo x:Nat)(own:Nat->Lb)(now tick given:Int)(v0 v1 v3:Value)(a2:OA)(c2:Nat)(ls:List Lg)(p:Pu)(w:World)(hx:w.heap[x]?=some (.cells #[.i now,.i tick,.i given,v0,v1,.l a2 ls.length c2,v3] 40))
 (hl:zar lo w own a2 ls.length (za6 ls)) (hxo:(own x).1≠2) (hs:∀g∈ls,g.Small) (hlen:ls.length<=10) (hr:rising qz ls) (hh:qx ls p.tm p.rs=true) (hb:∀g∈ls,0<=g.fr/\g.fr<=1000000000) (hp:1<=p.am/\p.am<=1000000) :
 Calls Tryz.prog 36 #[.pointer (some (aD x 0)),.agg #[.s p.dr,.s p.tm,.s p.rs,.i p.am,.i p.un]] w fun e w'=>e=.returned (.tuple #[])/\zar lo w' own a2 ls.length (za6 (pay ls p))/\Left (fun q=>(own q).1=2) w w':=by
 have HX:=hid hx;have HL:=hid hl;have HS:=zcg hs hlen hr hh;have HB:=zcR hb hp hxo;have hxw:=(gES hx).1;have hBa:=(bRf w.heap.size w).alloc (Nat.le_refl _) (.cells #[.s p.dr,.s p.tm,.s p.rs,.i p.am,.i p.un] 79);have kP:=alloc_at w (.cells #[.s p.dr,.s p.tm,.s p.rs,.i p.am,.i p.un] 79);obtain⟨W0,hW0⟩:=nm (w.alloc (.cells #[.s p.dr,.s p.tm,.s p.rs,.i p.am,.i p.un] 79));have hz0:W0.heap.size=w.heap.size+1:=by rw[hW0];simp
 clear hx hl hs hlen hr hh hb hp hxo;go_enter Tryz.func36,Tryz.ntmps36;go_wp2_with fail
 rw[<- hW0]at hBa kP ⊢;clear hW0;have kX:=(hBa.block x hxw).trans HX.o;have HB0:=hid hBa;have HSS:Hid (∀W,Bw W0 W->(∀j,W.cell? (aD x j)=(#[.i now,.i tick,.i given,v0,v1,.l a2 ls.length c2,v3]:AV)[j]?)/\∀j,W.cell? (aD w.heap.size j)=(#[.s p.dr,.s p.tm,.s p.rs,.i p.am,.i p.un]:AV)[j]?):=fun W hW=>⟨fun j=>(hW.cell (p:=(aD x j)) (by show x<_;omega)).trans (cell_of_block kX),fun j=>(hW.cell (p:=(aD w.heap.size j)) (by show w.heap.size<_;omega)).trans (cell_of_block kP)⟩
 have hBd:Bw W0 W0.drew:=(bRf _ _).drew;have hS:=HSS.o W0.drew hBd;clear kX kP hBa
 go_region_held3 (fun w'=>(∀j,w'.cell? (aD x j)=(#[.i now,.i tick,.i given,v0,v1,.l a2 ls.length c2,v3]:AV)[j]?)/\∀j,w'.cell? (aD w.heap.size j)=(#[.s p.dr,.s p.tm,.s p.rs,.i p.am,.i p.un]:AV)[j]?) (exact hS) (first
  | (go_at_call 88;refine(zbR p _).mono ?_;rintro e w1⟨rfl,hb1⟩;have hBd:=hBd.trans (hb1.mono hBd.size);have hS:=HSS.o w1 hBd;clear hb1)
  | (go_at_call 87;refine(zeA a2 c2 ls p.tm p.rs _ ((HL.o.at (fun i hi=>HS.o.1 _ (List.getElem_mem hi)) (by have:=HS.o.2.1;unfold maxLen;omega)).mono (HB0.o.trans (hBd.mono HB0.o.size))) (by have:=HS.o.2.1;omega) HS.o.2.2.1).mono ?_;rintro e w2⟨⟨k,rfl,hk⟩,hb2⟩;have hBd:=hBd.trans (hb2.mono hBd.size);have hS:=HSS.o w2 hBd;clear hb2))
 obtain⟨hkl,hkt⟩:=(hk.found HS.o.2.2.1).1 HS.o.2.2.2;obtain⟨g,C,ha,hlo,hgo,hC,hsz,hrow⟩:=HL.o.rows (by omega);subst ha;have hBw:=HB0.o.trans (hBd.mono HB0.o.size);have hgw:g<w.heap.size:=(gES hC).1;have hgx:g≠x:=by rintro rfl;exact HB.o.2.2 (by rw[hgo])
 have hy:=hrow k hkl;rw[zfh hkl]at hy;have hR:qH w2.drew g 130 C 4 k #[.s ls[k].tm,.s ls[k].rs,.i ls[k].mo,.i ls[k].fr]:=qH.new ((hBw.block g hgw).trans hC) hy.cell;have c3:w2.drew.cell? (aD g (k*4+3))=some (.i ls[k].fr):=hR.cell 3 (by omega);have fz:=fun o=>hR.fz o
 have hgd:=hR.lt;have hR2:qH (w2.drew.setCell (aD g (k*4+3)) (.i (ls[k].fr+p.am))) g 130 C 4 k #[.s ls[k].tm,.s ls[k].rs,.i ls[k].mo,.i (ls[k].fr+p.am)]:=hR.set 3 (.i (ls[k].fr+p.am)) (by omega) (by omega) rfl;have hbk:=HB.o.1 _ (List.getElem_mem hkl);have hw1:wrap64 (ls[k].fr+p.am)=ls[k].fr+p.am:=by have:=HB.o.2.1;exact zA _ ⟨by omega,by omega⟩
 have hw2:IntKind.i64.wrap (ls[k].fr+p.am)=ls[k].fr+p.am:=by have:=HB.o.2.1;rw[IntKind.wrap_i64];omega
 have hkI:(k:Int)<(ls.length:Int):=by omega
 have HE:Hid (zar lo (w2.drew.setCell (aD g (k*4+3)) (.i (ls[k].fr+p.am))) own (some (aD g 0)) ls.length (za6 (pay ls p))/\Left (fun q=>(own q).1=2) w (w2.drew.setCell (aD g (k*4+3)) (.i (ls[k].fr+p.am)))):=⟨HL.o.py HS.o.2.2.1 hkl hkt rfl hC hR2,((Left.of_below _ hBw).trans (Left.of_below _ (bRf _ _).drew)).set (by rw[hgo]) _ _⟩
 have hSd:=HSS.o w2.drew (hBd.trans (bRf _ _).drew);have hSe:∀v:Value,(∀j,(w2.drew.setCell (aD g (k*4+3)) v).cell? (aD x j)=(#[.i now,.i tick,.i given,v0,v1,.l (some (aD g 0)) ls.length c2,v3]:AV)[j]?)/\∀j,(w2.drew.setCell (aD g (k*4+3)) v).cell? (aD w.heap.size j)=(#[.s p.dr,.s p.tm,.s p.rs,.i p.am,.i p.un]:AV)[j]?:=fun v=>⟨fun j=>(World.cell?_setCell_far _ _ _ _ hgx).trans (hSd.1 j),fun j=>(World.cell?_setCell_far _ _ _ _ (by show g≠w.heap.size;omega)).trans (hSd.2 j)⟩
 clear hk hkt hlo hgo hC hsz hrow hy hR hR2 hBw hbk hS hBd HL HX HS HSS;go_wp2_with fail
 refine zbW (fun A A' w'=>∃u16 u17 u18 u19 u20 u21 u22 u23 u24 u25 u26 u27 u28,A'=(((((((((((((A.put (some 16) u16).put (some 17) u17).put (some 18) u18).put (some 19) u19).put (some 20) u20).put (some 21) u21).put (some 22) u22).put (some 23) u23).put (some 24) u24).put (some 25) u25).put (some 26) u26).put (some 27) u27).put (some 28) u28)/\zar lo w' own (some (aD g 0)) ls.length (za6 (pay ls p))/\Left (fun q=>(own q).1=2) w w') ?_ ?_
 ·refine wp_region_held_drew (S:=fun w'=>(∀j,w'.cell? (aD x j)=(#[.i now,.i tick,.i given,v0,v1,.l (some (aD g 0)) ls.length c2,v3]:AV)[j]?)/\∀j,w'.cell? (aD w.heap.size j)=(#[.s p.dr,.s p.tm,.s p.rs,.i p.am,.i p.un]:AV)[j]?) (by kernel_rfl) hSd (fun H_=>?_)
  refine tG 0 ?_ (hQ:=fun _ _ _ h=>by cases h.1);refine tG 1 ?_ (hQ:=fun _ _ _ h=>by cases h.1);refine tG 2 ?_ (hQ:=fun _ _ _ h=>by cases h.1);refine tG 3 ?_ (hQ:=fun _ _ _ h=>by cases h.1);refine tG 4 ?_ (hQ:=fun _ _ _ h=>by cases h.1);refine tG 5 ?_ (hQ:=fun _ _ _ h=>by cases h.1);refine tG 6 ?_ (hQ:=fun _ _ _ h=>by cases h.1);refine tG 8 ?_ (hQ:=fun _ _ _ h=>by cases h.1);refine tG 9 ?_ (hQ:=fun _ _ _ h=>by cases h.1);refine cH 7 rfl fun K hK=>?_
  go_simp
  refine hK.out _ _ hSd (fun H_=>?_);clear hK K
  (try simp only[Act.put,sA,s0,sS])
  refine tG 10 ?_ (hQ:=fun _ _ _ h=>by cases h.1);refine tG 11 ?_ (hQ:=fun _ _ _ h=>by cases h.1);refine tG 12 ?_ (hQ:=fun _ _ _ h=>by cases h.1);refine cH 13 rfl fun K hK=>?_
  go_simp
  refine hK.out _ _ (hSe _) (fun H_=>?_);clear hK K
  (try simp only[Act.put,sA,s0,sS])
  refine wpAnyH_done (by kernel_rfl) ?_ _;exact⟨rfl,_,_,_,_,_,_,_,_,_,_,_,_,_,rfl,HE.o⟩
 ·rintro A' w'⟨u16,u17,u18,u19,u20,u21,u22,u23,u24,u25,u26,u27,u28,rfl,hE⟩
  (try simp only[Act.put,sA,s0,sS])
  go_wp2_with fail
  exact bodyPost_end (results_none rfl _ _ _) rfl ⟨rfl,hE⟩
end Go.Proofs.YtecncindgjdbiaaGreat
