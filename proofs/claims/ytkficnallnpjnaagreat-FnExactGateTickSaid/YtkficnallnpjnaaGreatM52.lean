import Derived.Test.YtkficnallnpjnaaGreatM49
import Derived.Test.YtkficnallnpjnaaGreatM51
import Derived.Test.YtkficnallnpjnaaGreatM33
import Derived.Deep.Cut
set_option maxHeartbeats 8000000
namespace Go.Proofs.YtkficnallnpjnaaGreat
open Go.RowKit
noncomputable def za0 (l:Lw)(b:Bk):Bool:=zaN b&&(z8 l b&&(yJ b&&(yO l.ts b&&(yY b&&zcS l b))))
noncomputable def jX (l:Lw)(b:Bk):Bool:=zcq l&&za0 l b
theorem zb2 {ts:List Tm}{b:Bk}(h:yO ts b=true):rising qj b.ls/\b.ls.length<=10/\∀i (hi:i<b.ls.length),yI ts b.ls[i]=true:=by
 unfold yO at h;simp only[Bool.and_eq_true,decide_eq_true_eq]at h;exact⟨(zne _ _).1 h.2.1,h.1,fun i hi=>List.all_eq_true.1 h.2.2 _ (List.getElem_mem _)⟩
theorem zf4 {b:Bk}(h:zaN b=true):0<=b.tick/\b.tick<=1000000:=by
 unfold zaN within at h;simp only[Bool.and_eq_true,decide_eq_true_eq]at h;exact h.2.1
theorem zgL {b:Bk}(h:yY b=true):b.ps.length<=24/\∀i (hi:i<b.ps.length),yj b.ls b.tick b.ps[i]=true:=by
 unfold yY at h;simp only[Bool.and_eq_true,decide_eq_true_eq]at h;exact⟨h.1,fun i hi=>List.all_eq_true.1 h.2.2 _ (List.getElem_mem _)⟩
theorem zkj {b:Bk}(h:rising qj b.ls):∀i j (hi:i<b.ls.length) (hj:j<b.ls.length),b.ls[i].tm=b.ls[j].tm->b.ls[i].rs=b.ls[j].rs->i=j:=by
 intro i j hi hj e1 e2
 have hz:∀i j (hi:i<b.ls.length) (hj:j<b.ls.length),i<j->b.ls[i].tm=b.ls[j].tm->b.ls[i].rs=b.ls[j].rs->False:=by
  intro i j hi hj hlt e1 e2;have h1:=zdM (fun a b c=>zbn (a:=a) (b:=b) (c:=c)) h j hj i hlt;have h2:qj b.ls[i] b.ls[j]=0:=by unfold qj;rw[zhD];exact⟨e1,e2⟩
  omega
 rcases Nat.lt_trichotomy i j with h1|h1|h1
 ·exact(hz i j hi hj h1 e1 e2).elim
 ·exact h1
 ·exact(hz j i hj hi h1 e1.symm e2.symm).elim
theorem zqS {ts:List Tm}{b:Bk}(h:yO ts b=true)(h':yY b=true)(hz:qL b.os<=1048576):zi6 b:=by
 obtain⟨h1,h2,h3⟩:=zb2 h;obtain⟨p1,p2⟩:=zgL h';refine⟨zkj h1,fun k hk=>?_,fun i hi=>?_,fun i hi=>?_,by omega,by omega,hz⟩
 ·have h4:=p2 k hk
  unfold yj yH at h4;simp only[Bool.and_eq_true]at h4;obtain⟨g,hg,h5⟩:=List.any_eq_true.1 h4.1;obtain⟨j,hj,rfl⟩:=List.mem_iff_getElem.1 hg;simp only[Bool.and_eq_true,decide_eq_true_eq]at h5;exact⟨j,hj,h5.1,h5.2⟩
 ·have h4:=h3 i hi
  unfold yI jl at h4;simp only[Bool.and_eq_true,decide_eq_true_eq]at h4;omega
 ·have h4:=p2 i hi
  unfold yj within at h4;simp only[Bool.and_eq_true,decide_eq_true_eq]at h4;omega
set_option maxRecDepth 20000 in
theorem znU (l:Lw)(la lb lc:Option Addr)(lca lcb lcc:Nat)(b:Bk)(a0 a1 a2 a3:Option Addr)(c0 c1 c2 c3:Nat)(w:World)(hb:q8 w b a0 a1 a2 a3)(hl:jr w l la lb lc)(hml:l.ms.length<=1048576)(hok:yA l.ss l.ms=true)(hfw:∀i (h:i<b.os.length),b.os[i].vs.length<=1048576/\b.os[i].hs.length<=1048576)(hz:qL b.os<=1048576) :
 Calls Tryz.prog 77 #[.agg #[.slice la l.ss.length lca,.slice lb l.ms.length lcb,.slice lc l.ts.length lcc],.agg #[.int .i64 b.now,.int .i64 b.tick,.int .i64 b.given,.slice a0 b.os.length c0,.slice a1 b.gs.length c1,.slice a2 b.ls.length c2,.slice a3 b.ps.length c3]] w fun e w'=>e=.returned (.bool (za0 l b))/\Below w.heap.size w w':=by
 have HK:=hid hb;have HL:=hid hl;have HF:Hid (l.ms.length<=1048576/\yA l.ss l.ms=true/\(∀i (h:i<b.os.length),b.os[i].vs.length<=1048576/\b.os[i].hs.length<=1048576)/\qL b.os<=1048576):=⟨hml,hok,hfw,hz⟩
 clear hb hl hml hok hfw hz;go_enter Tryz.func77,Tryz.ntmps77;go_wp2_with fail
 obtain⟨hL0,hX0⟩:=qX w #[.slice la l.ss.length lca,.slice lb l.ms.length lcb,.slice lc l.ts.length lcc] (bC b a0 a1 a2 a3 c0 c1 c2 c3) 47 40;have HBi:Hid (Below w.heap.size w ((w.alloc (.cells #[.slice la l.ss.length lca,.slice lb l.ms.length lcb,.slice lc l.ts.length lcc] 47)).alloc (.cells (bC b a0 a1 a2 a3 c0 c1 c2 c3) 40))):=zw w _ _;obtain⟨W0,hW0⟩:∃W0,W0=(w.alloc (.cells #[.slice la l.ss.length lca,.slice lb l.ms.length lcb,.slice lc l.ts.length lcc] 47)).alloc (.cells (bC b a0 a1 a2 a3 c0 c1 c2 c3) 40):=⟨_,rfl⟩
 have hz0:w.heap.size+1<W0.heap.size:=by rw[hW0];simp
 rw[<- hW0]at HBi hX0 hL0 ⊢;clear hW0;refine(zku b a0 a1 a2 a3 c0 c1 c2 c3 _).mono ?_;rintro e w1⟨rfl,hb0⟩;have hX1:=za hX0 hz0 hb0;have hL1:=za hL0 (nSl hz0) hb0;have hz1:=nLt hz0 hb0.size;have hy1:=nSl hz1;have HBi:=hid (HBi.out.trans (hb0.mono HBi.out.size));clear hb0 hX0 hL0 hz0
 by_cases t:zaN b=true
 rotate_left
 ·have HN:Hid (za0 l b=false):=by unfold Hid za0;rw[bFi t];rfl
  rw[bFi t];clear t;go_wp2_with fail
  go_ret;exact⟨ze HN.out.symm,HBi.out⟩
 have HT0:=hid t;rw[t];clear t;go_wp2_with fail
 refine(zjl l la lb lc lca lcb lcc b a0 a1 a2 a3 c0 c1 c2 c3 _ (HK.out.mono HBi.out) (HL.out.mono HBi.out) HF.out.1 HF.out.2.1 HF.out.2.2.1).mono ?_;rintro e w2⟨rfl,hb1⟩;have hX2:=za hX1 hz1 hb1;have hL2:=za hL1 (nSl hz1) hb1;have hz2:=nLt hz1 hb1.size;have hy2:=nSl hz2;have HBi:=hid (HBi.out.trans (hb1.mono HBi.out.size));clear hb1 hX1 hL1 hz1 hy1
 by_cases t:z8 l b=true
 rotate_left
 ·have HN:Hid (za0 l b=false):=by unfold Hid za0;rw[HT0.out,bFi t];rfl
  rw[bFi t];clear t;go_wp2_with fail
  go_ret;exact⟨ze HN.out.symm,HBi.out⟩
 have HT1:=hid t;rw[t];clear t;go_wp2_with fail
 refine(zkO b a0 a1 a2 a3 c0 c1 c2 c3 _ (HK.out.mono HBi.out)).mono ?_;rintro e w3⟨rfl,hb2⟩;have hX3:=za hX2 hz2 hb2;have hL3:=za hL2 (nSl hz2) hb2;have hz3:=nLt hz2 hb2.size;have hy3:=nSl hz3;have HBi:=hid (HBi.out.trans (hb2.mono HBi.out.size));clear hb2 hX2 hL2 hz2 hy2
 by_cases t:yJ b=true
 rotate_left
 ·have HN:Hid (za0 l b=false):=by unfold Hid za0;rw[HT0.out,HT1.out,bFi t];rfl
  rw[bFi t];clear t;go_wp2_with fail
  go_ret;exact⟨ze HN.out.symm,HBi.out⟩
 have HT2:=hid t;rw[t];clear t;go_wp2_with fail
 refine(zjn l la lb lc lca lcb lcc b a0 a1 a2 a3 c0 c1 c2 c3 _ (HK.out.mono HBi.out) (HL.out.mono HBi.out)).mono ?_;rintro e w4⟨rfl,hb3⟩;have hX4:=za hX3 hz3 hb3;have hL4:=za hL3 (nSl hz3) hb3;have hz4:=nLt hz3 hb3.size;have hy4:=nSl hz4;have HBi:=hid (HBi.out.trans (hb3.mono HBi.out.size));clear hb3 hX3 hL3 hz3 hy3
 by_cases t:yO l.ts b=true
 rotate_left
 ·have HN:Hid (za0 l b=false):=by unfold Hid za0;rw[HT0.out,HT1.out,HT2.out,bFi t];rfl
  rw[bFi t];clear t;go_wp2_with fail
  go_ret;exact⟨ze HN.out.symm,HBi.out⟩
 have HT3:=hid t;rw[t];clear t;go_wp2_with fail
 refine(zkS b a0 a1 a2 a3 c0 c1 c2 c3 _ (HK.out.mono HBi.out) (zb2 HT3.out).1 (zb2 HT3.out).2.1 (zf4 HT0.out)).mono ?_;rintro e w5⟨rfl,hb4⟩;have hX5:=za hX4 hz4 hb4;have hL5:=za hL4 (nSl hz4) hb4;have hz5:=nLt hz4 hb4.size;have hy5:=nSl hz5;have HBi:=hid (HBi.out.trans (hb4.mono HBi.out.size));clear hb4 hX4 hL4 hz4 hy4
 by_cases t:yY b=true
 rotate_left
 ·have HN:Hid (za0 l b=false):=by unfold Hid za0;rw[HT0.out,HT1.out,HT2.out,HT3.out,bFi t];rfl
  rw[bFi t];clear t;go_wp2_with fail
  go_ret;exact⟨ze HN.out.symm,HBi.out⟩
 have HT4:=hid t;rw[t];clear t;go_wp2_with fail
 refine(zmo l la lb lc lca lcb lcc b a0 a1 a2 a3 c0 c1 c2 c3 _ (HL.out.mono HBi.out) (HK.out.mono HBi.out) (zqS HT3.out HT4.out HF.out.2.2.2)).mono ?_;rintro e w6⟨rfl,hb5⟩;have HBe:=hid (HBi.out.trans (hb5.mono HBi.out.size));have HN:Hid (zcS l b=za0 l b):=by unfold Hid za0;rw[HT0.out,HT1.out,HT2.out,HT3.out,HT4.out];rfl
 rw[HN.out];clear hb5 hX5 hL5 hz5 hy5;go_wp2_with fail
 go_ret;exact⟨rfl,HBe.out⟩
set_option maxRecDepth 20000 in
theorem zjr (l:Lw)(la lb lc:Option Addr)(lca lcb lcc:Nat)(b:Bk)(a0 a1 a2 a3:Option Addr)(c0 c1 c2 c3:Nat)(w:World)(hl:jr w l la lb lc)(hb:q8 w b a0 a1 a2 a3)(hlf:l.Few)(hbf:b.Few)(hz:qL b.os<=1048576) :
 Calls Tryz.prog 32 #[.agg (l.cells la lb lc lca lcb lcc),.agg (b.cells a0 a1 a2 a3 c0 c1 c2 c3)] w fun e w'=>e=.returned (.bool (jX l b))/\Below w.heap.size w w':=by
 have HK:=hid hb;have HL:=hid hl;have HF:Hid (l.Few/\b.Few/\qL b.os<=1048576):=⟨hlf,hbf,hz⟩
 clear hb hl hlf hbf hz;unfold Lw.cells Bk.cells;go_enter Tryz.func32,Tryz.ntmps32;go_wp2_with fail
 obtain⟨hL0,hX0⟩:=qX w #[.slice la l.ss.length lca,.slice lb l.ms.length lcb,.slice lc l.ts.length lcc] (bC b a0 a1 a2 a3 c0 c1 c2 c3) 47 40;have HBi:Hid (Below w.heap.size w ((w.alloc (.cells #[.slice la l.ss.length lca,.slice lb l.ms.length lcb,.slice lc l.ts.length lcc] 47)).alloc (.cells (bC b a0 a1 a2 a3 c0 c1 c2 c3) 40))):=zw w _ _;obtain⟨W0,hW0⟩:∃W0,W0=(w.alloc (.cells #[.slice la l.ss.length lca,.slice lb l.ms.length lcb,.slice lc l.ts.length lcc] 47)).alloc (.cells (bC b a0 a1 a2 a3 c0 c1 c2 c3) 40):=⟨_,rfl⟩
 have hz0:w.heap.size+1<W0.heap.size:=by rw[hW0];simp
 rw[<- hW0]at HBi hX0 hL0 ⊢;clear hW0;refine(zkF l la lb lc lca lcb lcc _ (HL.out.mono HBi.out) HF.out.1).mono ?_;rintro e w1⟨rfl,hb0⟩;have hX1:=za hX0 hz0 hb0;have hL1:=za hL0 (nSl hz0) hb0;have hz1:=nLt hz0 hb0.size;have hy1:=nSl hz1;have HBi:=hid (HBi.out.trans (hb0.mono HBi.out.size));clear hb0 hX0 hL0 hz0
 by_cases t:zcq l=true
 rotate_left
 ·have HN:Hid (jX l b=false):=by unfold Hid jX;rw[bFi t];rfl
  rw[bFi t];clear t;go_wp2_with fail
  go_ret;exact⟨ze HN.out.symm,HBi.out⟩
 have HN:Hid (za0 l b=jX l b):=by unfold Hid jX;rw[t];rfl
 have HM:Hid (yA l.ss l.ms=true):=by unfold zcq at t;simp only[Bool.and_eq_true]at t;exact t.1
 rw[t];clear t;go_wp2_with fail
 refine(znU l la lb lc lca lcb lcc b a0 a1 a2 a3 c0 c1 c2 c3 _ (HK.out.mono HBi.out) (HL.out.mono HBi.out) HF.out.1.ms HM.out HF.out.2.1.os.2 HF.out.2.2).mono ?_;rintro e w2⟨rfl,hb1⟩;have HBe:=hid (HBi.out.trans (hb1.mono HBi.out.size));rw[HN.out];clear hb1 hX1 hL1 hz1 hy1;go_wp2_with fail
 go_ret;exact⟨rfl,HBe.out⟩
def paid (p:Pu)(g:Lg):Lg:=if zbh p.tm p.rs g=true then ⟨g.tm,g.rs,g.mo,g.fr+p.am⟩ else g
def pay (ls:List Lg)(p:Pu):List Lg:=ls.map (paid p)
theorem zgr (p:Pu)(g:Lg):(paid p g).tm=g.tm:=by unfold paid;split <;> rfl
theorem zgq (p:Pu)(g:Lg):(paid p g).rs=g.rs:=by unfold paid;split <;> rfl
theorem zff (tm rs:ByteArray)(p:Pu)(g:Lg):zbh tm rs (paid p g)=zbh tm rs g:=by unfold zbh;rw[zgr,zgq]
theorem zpA (p q:Pu)(g:Lg):paid p (paid q g)=paid q (paid p g):=by
 by_cases h1:zbh p.tm p.rs g=true <;> by_cases h2:zbh q.tm q.rs g=true
 ·have e1:paid p g=⟨g.tm,g.rs,g.mo,g.fr+p.am⟩:=if_pos h1
  have e2:paid q g=⟨g.tm,g.rs,g.mo,g.fr+q.am⟩:=if_pos h2;have e3:paid p (paid q g)=⟨(paid q g).tm,(paid q g).rs,(paid q g).mo,(paid q g).fr+p.am⟩:=if_pos (by rw[zff];exact h1);have e4:paid q (paid p g)=⟨(paid p g).tm,(paid p g).rs,(paid p g).mo,(paid p g).fr+q.am⟩:=if_pos (by rw[zff];exact h2);rw[e3,e4,e1,e2];simp only[Lg.mk.injEq,true_and];omega
 all_goals (try have e1:paid p g=g:=if_neg h1);(try have e2:paid q g=g:=if_neg h2)
 ·have e3:paid q (paid p g)=paid p g:=if_neg (by rw[zff];exact h2)
  rw[e2,e3]
 ·have e3:paid p (paid q g)=paid q g:=if_neg (by rw[zff];exact h1)
  rw[e1,e3]
 ·rw[e1,e2,e1]
theorem zqO (ls:List Lg)(p q:Pu):pay (pay ls p) q=pay (pay ls q) p:=by
 unfold pay;rw[List.map_map,List.map_map];exact List.map_congr_left fun g _=>zpA q p g
theorem zd0 (ls:List Lg)(p:Pu):(pay ls p).length=ls.length:=List.length_map ..
theorem zn9 (ls:List Lg)(p:Pu)(i:Nat)(h:i<ls.length):(pay ls p)[i]'(by rw[zd0];exact h)=paid p ls[i]:=by unfold pay;rw[List.getElem_map]
theorem zoQ {ls:List Lg}(h:rising qj ls)(p:Pu):rising qj (pay ls p):=by
 intro i hi;rw[zd0]at hi;rw[zn9 ls p i (by omega),zn9 ls p (i+1) hi]
 have:=h i hi
 unfold qj at this ⊢;rw[zgr,zgq,zgr,zgq];exact this
theorem zqZ (ls:List Lg)(p:Pu)(tm rs:ByteArray):yH (pay ls p) tm rs=yH ls tm rs:=by
 unfold yH pay;rw[List.any_map]
 congr 1
 funext g
 show(decide ((paid p g).tm=tm)&&decide ((paid p g).rs=rs))=_
 rw[zgr,zgq]
def ji (t:Int)(ls:List Lg)(p:Pu):List Lg:=if p.un<t then pay ls p else ls
def pays (t:Int)(ps:List Pu)(ls:List Lg):List Lg:=ps.foldl (ji t) ls
def stay (t:Int)(ps:List Pu):List Pu:=ps.filter fun p=>!decide (p.un<t)
theorem znL (t:Int)(ls:List Lg)(p q:Pu):ji t (ji t ls p) q=ji t (ji t ls q) p:=by
 unfold ji
 by_cases h1:p.un<t <;> by_cases h2:q.un<t <;> simp only[h1,h2,if_true,if_false]
 exact zqO ls p q
theorem zcF (t:Int)(p:Pu)(ps:List Pu)(ls:List Lg):pays t (p :: ps) ls=ji t (pays t ps ls) p:=by
 induction ps generalizing ls with
 | nil=>rfl
 | cons q ps ih=>
  show pays t (q :: ps) (ji t ls p)=ji t (pays t ps (ji t ls q)) p
  rw[<- ih (ji t ls q)]
  show pays t ps (ji t (ji t ls p) q)=pays t ps (ji t (ji t ls q) p)
  rw[znL]
theorem zph (t:Int)(p:Pu)(ps:List Pu)(ls:List Lg):pays t (ps++[p]) ls=ji t (pays t ps ls) p:=by
 unfold pays;rw[List.foldl_append];rfl
theorem zaj (t:Int)(ps:List Pu)(ls:List Lg):(pays t ps ls).length=ls.length:=by
 induction ps with
 | nil=>rfl
 | cons p ps ih=>rw[zcF];unfold ji;split <;> simp[zd0,ih]
theorem zhT {ls:List Lg}(h:rising qj ls)(t:Int)(ps:List Pu):rising qj (pays t ps ls):=by
 induction ps with
 | nil=>exact h
 | cons p ps ih=>rw[zcF];unfold ji;split <;> first|exact zoQ ih p|exact ih
theorem znt (t:Int)(ps:List Pu)(ls:List Lg)(tm rs:ByteArray):yH (pays t ps ls) tm rs=yH ls tm rs:=by
 induction ps with
 | nil=>rfl
 | cons p ps ih=>rw[zcF];unfold ji;split <;> simp[zqZ,ih]
structure Within (ls:List Lg)(n:Nat):Prop where
 fr:∀g∈ls,0<=g.fr/\g.fr<=1000000*((n:Int)+1)
theorem Within.py {ls:List Lg}{n:Nat}(h:Within ls n){p:Pu}(hp:1<=p.am/\p.am<=1000000):Within (pay ls p) (n+1):=by
 refine⟨fun g hg=>?_⟩;unfold pay at hg;obtain⟨g0,h0,rfl⟩:=List.mem_map.1 hg
 have:=h.fr g0 h0
 unfold paid
 split
 ·show 0<=g0.fr+p.am/\g0.fr+p.am<=_
  constructor <;> omega
 ·constructor <;> omega
theorem Within.more {ls:List Lg}{n m:Nat}(h:Within ls n)(hm:n<=m):Within ls m:=⟨fun g hg=>by have:=h.fr g hg;constructor <;> omega⟩
theorem zh5 {ls:List Lg}(h:Within ls 0)(t:Int)(ps:List Pu)(hp:∀p∈ps,1<=p.am/\p.am<=1000000):Within (pays t ps ls) ps.length:=by
 induction ps with
 | nil=>exact h
 | cons p ps ih=>
  rw[zcF];have h1:=ih fun q hq=>hp q (List.mem_cons_of_mem _ hq)
  unfold ji
  split
  ·exact h1.py (hp p (List.mem_cons_self ..))
  ·exact h1.more (Nat.le_succ _)
theorem zfJ {ls:List Lg}(h:∀g∈ls,g.Small)(t:Int)(ps:List Pu):∀g∈pays t ps ls,g.Small:=by
 induction ps with
 | nil=>exact h
 | cons p ps ih=>
  rw[zcF];unfold ji
  split
  ·intro g hg
   unfold pay at hg;obtain⟨g0,h0,rfl⟩:=List.mem_map.1 hg
   have:=ih g0 h0
   exact⟨by rw[zgr];exact this.tm,by rw[zgq];exact this.rs⟩
  ·exact ih
def zaP:Bk:=⟨0,0,0,[],[],[],[]⟩
def zfY (b:Bk):Bk:={ b with tick:=b.tick+1,ls:=pays (b.tick+1) b.ps b.ls,ps:=stay (b.tick+1) b.ps }
noncomputable def tick (l:Lw)(b:Bk):Bk × Int:=if jX l b=true then (if b.tick=1000000 then (b,2) else (zfY b,0)) else (zaP,1)
theorem zbj (l:Lw)(b:Bk):jX l b=(zcq l&&((within b.now 0 1000000&&(within b.tick 0 1000000&&within b.given 0 b.now))&&(z8 l b&&(yJ b&&qw l b)))):=rfl
theorem zeG (n lo hi:Int)(w:World):Calls Tryz.prog 61 #[.int .i64 n,.int .i64 lo,.int .i64 hi] w fun e w'=>e=.returned (.bool (within n lo hi))/\w'=w:=yx n lo hi w
theorem zpS {n lo hi:Int}(h:within n lo hi=true):lo<=n/\n<=hi:=by unfold within at h;simpa using h
set_option maxRecDepth 20000 in
theorem zkf (l:Lw)(la lb lc:Option Addr)(lca lcb lcc:Nat)(b:Bk)(a0 a1 a2 a3:Option Addr)(c0 c1 c2 c3:Nat)(w:World)(hl:jr w l la lb lc)(hb:q8 w b a0 a1 a2 a3)(hh:zcj w a0 b.os)(hbf:b.Few)(hz:qL b.os<=1048576) :
 Calls Tryz.prog 22 #[.agg (l.cells la lb lc lca lcb lcc),.agg (b.cells a0 a1 a2 a3 c0 c1 c2 c3)] w fun e w'=>e=.returned (.bool (jX l b))/\Below w.heap.size w w':=by
 have HK:=hid hb;have HL:=hid hl;have HH:=hid hh;have HF:Hid (b.Few/\qL b.os<=1048576):=⟨hbf,hz⟩
 clear hb hl hh hbf hz;unfold Lw.cells Bk.cells;go_enter Tryz.func22,Tryz.ntmps22;go_wp2_with fail
 obtain⟨hL0,hX0⟩:=qX w #[.slice la l.ss.length lca,.slice lb l.ms.length lcb,.slice lc l.ts.length lcc] (bC b a0 a1 a2 a3 c0 c1 c2 c3) 47 40;have HBi:Hid (Below w.heap.size w ((w.alloc (.cells #[.slice la l.ss.length lca,.slice lb l.ms.length lcb,.slice lc l.ts.length lcc] 47)).alloc (.cells (bC b a0 a1 a2 a3 c0 c1 c2 c3) 40))):=zw w _ _;obtain⟨W0,hW0⟩:∃W0,W0=(w.alloc (.cells #[.slice la l.ss.length lca,.slice lb l.ms.length lcb,.slice lc l.ts.length lcc] 47)).alloc (.cells (bC b a0 a1 a2 a3 c0 c1 c2 c3) 40):=⟨_,rfl⟩
 have hz0:w.heap.size+1<W0.heap.size:=by rw[hW0];simp
 rw[<- hW0]at HBi hX0 hL0 ⊢;clear hW0;refine(zky l la lb lc lca lcb lcc _ (HL.out.mono HBi.out)).mono ?_;rintro e w1⟨rfl,hb0⟩;have hX1:=za hX0 hz0 hb0;have hL1:=za hL0 (nSl hz0) hb0;have hz1:=nLt hz0 hb0.size;have HBi:=hid (HBi.out.trans (hb0.mono HBi.out.size));clear hb0 hX0 hL0 hz0;have hy1:=nSl hz1
 by_cases t:zcq l=true
 rotate_left
 ·have HN:Hid (jX l b=false):=by rw[Hid,zbj,bFi t];simp
  rw[bFi t];clear t;go_wp2_with fail
  go_ret;exact⟨ze HN.out.symm,HBi.out⟩
 have HT0:=hid t;rw[t];clear t;go_wp2_with fail
 have HM:Hid (yA l.ss l.ms=true):=by have t:=HT0.out;unfold zcq at t;simp only[Bool.and_eq_true]at t;exact t.1
 refine(zeG b.now (0) (1000000) _).mono ?_;rintro e w2⟨rfl,rfl⟩;have hX2:=hX1;have hL2:=hL1;have hz2:=hz1;clear hX1 hL1 hz1;have hy2:=nSl hz2;have hcv:within b.now 0 1000000=within b.now 0 1000000:=rfl;clear hcv
 by_cases t:within b.now 0 1000000=true
 rotate_left
 ·have HN:Hid (jX l b=false):=by rw[Hid,zbj,HT0.out,bFi t];simp
  rw[bFi t];clear t;go_wp2_with fail
  go_ret;exact⟨ze HN.out.symm,HBi.out⟩
 have HT1:=hid t;rw[t];clear t;go_wp2_with fail
 refine(zeG b.tick (0) (1000000) _).mono ?_;rintro e w3⟨rfl,rfl⟩;have hX3:=hX2;have hL3:=hL2;have hz3:=hz2;clear hX2 hL2 hz2;have hy3:=nSl hz3;have hcv:within b.tick 0 1000000=within b.tick 0 1000000:=rfl;clear hcv
 by_cases t:within b.tick 0 1000000=true
 rotate_left
 ·have HN:Hid (jX l b=false):=by rw[Hid,zbj,HT0.out,HT1.out,bFi t];simp
  rw[bFi t];clear t;go_wp2_with fail
  go_ret;exact⟨ze HN.out.symm,HBi.out⟩
 have HT2:=hid t;rw[t];clear t;go_wp2_with fail
 refine(zeG b.given (0) (b.now) _).mono ?_;rintro e w4⟨rfl,rfl⟩;have hX4:=hX3;have hL4:=hL3;have hz4:=hz3;clear hX3 hL3 hz3;have hy4:=nSl hz4;have hcv:within b.given 0 b.now=within b.given 0 b.now:=rfl;clear hcv
 by_cases t:within b.given 0 b.now=true
 rotate_left
 ·have HN:Hid (jX l b=false):=by rw[Hid,zbj,HT0.out,HT1.out,HT2.out,bFi t];simp
  rw[bFi t];clear t;go_wp2_with fail
  go_ret;exact⟨ze HN.out.symm,HBi.out⟩
 have HT3:=hid t;rw[t];clear t;go_wp2_with fail
 refine(ziB l la lb lc lca lcb lcc b a0 a1 a2 a3 c0 c1 c2 c3 _ (HL.out.mono HBi.out) (HK.out.mono HBi.out) (HH.out.mono HBi.out) HM.out HF.out.1.os.2).mono ?_;rintro e w5⟨rfl,hb4⟩;have hX5:=za hX4 hz4 hb4;have hL5:=za hL4 (nSl hz4) hb4;have hz5:=nLt hz4 hb4.size;have HBi:=hid (HBi.out.trans (hb4.mono HBi.out.size));clear hb4 hX4 hL4 hz4;have hy5:=nSl hz5
 by_cases t:z8 l b=true
 rotate_left
 ·have HN:Hid (jX l b=false):=by rw[Hid,zbj,HT0.out,HT1.out,HT2.out,HT3.out,bFi t];simp
  rw[bFi t];clear t;go_wp2_with fail
  go_ret;exact⟨ze HN.out.symm,HBi.out⟩
 have HT4:=hid t;rw[t];clear t;go_wp2_with fail
 refine(zj0 b a0 a1 a2 a3 c0 c1 c2 c3 _ (HK.out.mono HBi.out)).mono ?_;rintro e w6⟨rfl,hb5⟩;have hX6:=za hX5 hz5 hb5;have hL6:=za hL5 (nSl hz5) hb5;have hz6:=nLt hz5 hb5.size;have HBi:=hid (HBi.out.trans (hb5.mono HBi.out.size));clear hb5 hX5 hL5 hz5;have hy6:=nSl hz6
 by_cases t:yJ b=true
 rotate_left
 ·have HN:Hid (jX l b=false):=by rw[Hid,zbj,HT0.out,HT1.out,HT2.out,HT3.out,HT4.out,bFi t];simp
  rw[bFi t];clear t;go_wp2_with fail
  go_ret;exact⟨ze HN.out.symm,HBi.out⟩
 have HT5:=hid t;rw[t];clear t;go_wp2_with fail
 refine(zlI l la lb lc lca lcb lcc b a0 a1 a2 a3 c0 c1 c2 c3 _ (HL.out.mono HBi.out) (HK.out.mono HBi.out) (zpS HT2.out) HF.out.2).mono ?_;rintro e w7⟨rfl,hb6⟩;have hX7:=za hX6 hz6 hb6;have hL7:=za hL6 (nSl hz6) hb6;have hz7:=nLt hz6 hb6.size;have HBi:=hid (HBi.out.trans (hb6.mono HBi.out.size));clear hb6 hX6 hL6 hz6;have hy7:=nSl hz7;have HN:Hid (qw l b=jX l b):=by rw[Hid,zbj,HT0.out,HT1.out,HT2.out,HT3.out,HT4.out,HT5.out];rfl
 rw[HN.out];go_wp2_with fail
 go_ret;exact⟨rfl,HBi.out⟩
theorem jy.py {lo:Nat}{w w':World}{own:Nat->Lb}{a:Option Addr}{ls:List Lg}{p:Pu}{k g:Nat}{C:Array Value}(h:jy lo w own a ls.length (zab ls))(hr:rising qj ls)(hk:k<ls.length)(hp:ls[k].tm=p.tm/\ls[k].rs=p.rs)(ha:a=some ⟨g,0,none⟩)(hC:w.heap[g]?=some (.cells C 124))
 (hR:qG w' g 124 C 4 k #[.string ls[k].tm,.string ls[k].rs,.int .i64 ls[k].mo,.int .i64 (ls[k].fr+p.am)]):jy lo w' own a ls.length (zab (pay ls p)):=by
 refine⟨fun hn=>?_⟩;obtain⟨b,C0,ha',hlo,hb,hC0,hs,hx⟩:=h.rows hn;rw[ha]at ha'
 cases ha'
 rw[hC]at hC0
 cases hC0
 obtain⟨C',hC',hs',ho',hd'⟩:=hR.ex;refine⟨g,C',ha,hlo,hb,hC',by omega,fun i hi=>?_⟩;have e1:zab (pay ls p) i=paid p ls[i]:=by rw[zfi (by rw[zd0];exact hi),zn9 ls p i hi]
 rw[e1]
 by_cases ei:i=k
 ·subst ei
  have e2:paid p ls[i]=⟨ls[i].tm,ls[i].rs,ls[i].mo,ls[i].fr+p.am⟩:=if_pos (by unfold zbh;simp[hp.1,hp.2]);rw[e2];exact⟨fun j hj=>hd' j hj⟩
 ·have e2:paid p ls[i]=ls[i]:=by
   refine if_neg fun h9=>ei ?_
   unfold zbh at h9;simp only[Bool.and_eq_true,decide_eq_true_eq]at h9;exact zkj (b:=⟨0,0,0,[],[],ls,[]⟩) hr i k hi hk (h9.1.trans hp.1.symm) (h9.2.trans hp.2.symm)
  rw[e2];have hy:=hx i hi;rw[zfi hi]at hy;exact⟨fun j hj=>(ho' _ (by omega)).trans (hy.cell j hj)⟩
set_option maxRecDepth 20000 in
theorem zmY (lo x:Nat)(own:Nat->Lb)(now tick given:Int)(v0 v1 v3:Value)(a2:Option Addr)(c2:Nat)(ls:List Lg)(p:Pu)(w:World)(hx:w.heap[x]?=some (.cells #[.int .i64 now,.int .i64 tick,.int .i64 given,v0,v1,.slice a2 ls.length c2,v3] 40))
 (hl:jy lo w own a2 ls.length (zab ls)) (hxo:(own x).1≠2) (hs:∀g∈ls,g.Small) (hlen:ls.length<=10) (hr:rising qj ls) (hh:yH ls p.tm p.rs=true) (hb:∀g∈ls,0<=g.fr/\g.fr<=1000000000) (hp:1<=p.am/\p.am<=1000000) :
 Calls Tryz.prog 34 #[.pointer (some ⟨x,0,none⟩),.agg #[.string p.dr,.string p.tm,.string p.rs,.int .i64 p.am,.int .i64 p.un]] w fun e w'=>e=.returned (.tuple #[])/\jy lo w' own a2 ls.length (zab (pay ls p))/\Left (fun q=>(own q).1=2) w w':=by
 have HX:=hid hx;have HL:=hid hl;have HS:=zbJ hs hlen hr hh;have HB:=zdp hb hp hxo;have hxw:=(gES hx).1;have hBa:=(bRf w.heap.size w).alloc (Nat.le_refl _) (.cells #[.string p.dr,.string p.tm,.string p.rs,.int .i64 p.am,.int .i64 p.un] 65);have kP:=alloc_at w (.cells #[.string p.dr,.string p.tm,.string p.rs,.int .i64 p.am,.int .i64 p.un] 65);obtain⟨W0,hW0⟩:∃W0,W0=w.alloc (.cells #[.string p.dr,.string p.tm,.string p.rs,.int .i64 p.am,.int .i64 p.un] 65):=⟨_,rfl⟩
 have hz0:W0.heap.size=w.heap.size+1:=by rw[hW0];simp
 clear hx hl hs hlen hr hh hb hp hxo;go_enter Tryz.func34,Tryz.ntmps34;go_wp2_with fail
 rw[<- hW0]at hBa kP ⊢;clear hW0;have kX:=(hBa.block x hxw).trans HX.out;have HB0:=hid hBa;have HSS:Hid (∀W,Below W0.heap.size W0 W->(∀j,W.cell? ⟨x,j,none⟩=(#[.int .i64 now,.int .i64 tick,.int .i64 given,v0,v1,.slice a2 ls.length c2,v3]:Array Value)[j]?)/\∀j,W.cell? ⟨w.heap.size,j,none⟩=(#[.string p.dr,.string p.tm,.string p.rs,.int .i64 p.am,.int .i64 p.un]:Array Value)[j]?):=fun W hW=>⟨fun j=>(hW.cell (p:=⟨x,j,none⟩) (by show x<_;omega)).trans (cell_of_block kX),fun j=>(hW.cell (p:=⟨w.heap.size,j,none⟩) (by show w.heap.size<_;omega)).trans (cell_of_block kP)⟩
 have hBd:Below W0.heap.size W0 W0.drew:=(bRf _ _).drew;have hS:=HSS.out W0.drew hBd;clear kX kP hBa
 go_region_held3 (fun w'=>(∀j,w'.cell? ⟨x,j,none⟩=(#[.int .i64 now,.int .i64 tick,.int .i64 given,v0,v1,.slice a2 ls.length c2,v3]:Array Value)[j]?)/\∀j,w'.cell? ⟨w.heap.size,j,none⟩=(#[.string p.dr,.string p.tm,.string p.rs,.int .i64 p.am,.int .i64 p.un]:Array Value)[j]?) (exact hS) (first
  | (go_at_call 83;refine(zbW p _).mono ?_;rintro e w1⟨rfl,hb1⟩;have hBd:=hBd.trans (hb1.mono hBd.size);have hS:=HSS.out w1 hBd;clear hb1)
  | (go_at_call 82;refine(zet a2 c2 ls p.tm p.rs _ ((HL.out.at (fun i hi=>HS.out.1 _ (List.getElem_mem hi)) (by have:=HS.out.2.1;unfold maxLen;omega)).mono (HB0.out.trans (hBd.mono HB0.out.size))) (by have:=HS.out.2.1;omega) HS.out.2.2.1).mono ?_;rintro e w2⟨⟨k,rfl,hk⟩,hb2⟩;have hBd:=hBd.trans (hb2.mono hBd.size);have hS:=HSS.out w2 hBd;clear hb2))
 obtain⟨hkl,hkt⟩:=(hk.found HS.out.2.2.1).1 HS.out.2.2.2;obtain⟨g,C,ha,hlo,hgo,hC,hsz,hrow⟩:=HL.out.rows (by omega);subst ha;have hBw:=HB0.out.trans (hBd.mono HB0.out.size);have hgw:g<w.heap.size:=(gES hC).1;have hgx:g≠x:=by rintro rfl;exact HB.out.2.2 (by rw[hgo])
 have hy:=hrow k hkl;rw[zfi hkl]at hy;have hR:qG w2.drew g 124 C 4 k #[.string ls[k].tm,.string ls[k].rs,.int .i64 ls[k].mo,.int .i64 ls[k].fr]:=qG.new ((hBw.block g hgw).trans hC) hy.cell;have c3:w2.drew.cell? ⟨g,k*4+3,none⟩=some (.int .i64 ls[k].fr):=hR.cell 3 (by omega);have fz:=fun o=>hR.fz o
 have hgd:=hR.lt;have hR2:qG (w2.drew.setCell ⟨g,k*4+3,none⟩ (.int .i64 (ls[k].fr+p.am))) g 124 C 4 k #[.string ls[k].tm,.string ls[k].rs,.int .i64 ls[k].mo,.int .i64 (ls[k].fr+p.am)]:=hR.set 3 (.int .i64 (ls[k].fr+p.am)) (by omega) (by omega) rfl;have hbk:=HB.out.1 _ (List.getElem_mem hkl);have hw1:wrap64 (ls[k].fr+p.am)=ls[k].fr+p.am:=by have:=HB.out.2.1;exact zy _ ⟨by omega,by omega⟩
 have hw2:IntKind.i64.wrap (ls[k].fr+p.am)=ls[k].fr+p.am:=by have:=HB.out.2.1;rw[IntKind.wrap_i64];omega
 have hkI:(k:Int)<(ls.length:Int):=by omega
 have HE:Hid (jy lo (w2.drew.setCell ⟨g,k*4+3,none⟩ (.int .i64 (ls[k].fr+p.am))) own (some ⟨g,0,none⟩) ls.length (zab (pay ls p))/\Left (fun q=>(own q).1=2) w (w2.drew.setCell ⟨g,k*4+3,none⟩ (.int .i64 (ls[k].fr+p.am)))):=⟨HL.out.py HS.out.2.2.1 hkl hkt rfl hC hR2,((Left.of_below _ hBw).trans (Left.of_below _ (bRf _ _).drew)).set (by rw[hgo]) _ _⟩
 have hSd:=HSS.out w2.drew (hBd.trans (bRf _ _).drew);have hSe:∀v:Value,(∀j,(w2.drew.setCell ⟨g,k*4+3,none⟩ v).cell? ⟨x,j,none⟩=(#[.int .i64 now,.int .i64 tick,.int .i64 given,v0,v1,.slice (some ⟨g,0,none⟩) ls.length c2,v3]:Array Value)[j]?)/\∀j,(w2.drew.setCell ⟨g,k*4+3,none⟩ v).cell? ⟨w.heap.size,j,none⟩=(#[.string p.dr,.string p.tm,.string p.rs,.int .i64 p.am,.int .i64 p.un]:Array Value)[j]?:=fun v=>⟨fun j=>(World.cell?_setCell_far _ _ _ _ hgx).trans (hSd.1 j),fun j=>(World.cell?_setCell_far _ _ _ _ (by show g≠w.heap.size;omega)).trans (hSd.2 j)⟩
 clear hk hkt hlo hgo hC hsz hrow hy hR hR2 hBw hbk hS hBd HL HX HS HSS;go_wp2_with fail
 refine zbO (fun A A' w'=>∃u16 u17 u18 u19 u20 u21 u22 u23 u24 u25 u26 u27 u28,A'=(((((((((((((A.put (some 16) u16).put (some 17) u17).put (some 18) u18).put (some 19) u19).put (some 20) u20).put (some 21) u21).put (some 22) u22).put (some 23) u23).put (some 24) u24).put (some 25) u25).put (some 26) u26).put (some 27) u27).put (some 28) u28)/\jy lo w' own (some ⟨g,0,none⟩) ls.length (zab (pay ls p))/\Left (fun q=>(own q).1=2) w w') ?_ ?_
 ·refine wp_region_held_drew (S:=fun w'=>(∀j,w'.cell? ⟨x,j,none⟩=(#[.int .i64 now,.int .i64 tick,.int .i64 given,v0,v1,.slice (some ⟨g,0,none⟩) ls.length c2,v3]:Array Value)[j]?)/\∀j,w'.cell? ⟨w.heap.size,j,none⟩=(#[.string p.dr,.string p.tm,.string p.rs,.int .i64 p.am,.int .i64 p.un]:Array Value)[j]?) (by kernel_rfl) hSd (fun H_=>?_)
  refine tG 0 ?_ (hQ:=fun _ _ _ h=>by cases h.1);refine tG 1 ?_ (hQ:=fun _ _ _ h=>by cases h.1);refine tG 2 ?_ (hQ:=fun _ _ _ h=>by cases h.1);refine tG 3 ?_ (hQ:=fun _ _ _ h=>by cases h.1);refine tG 4 ?_ (hQ:=fun _ _ _ h=>by cases h.1);refine tG 5 ?_ (hQ:=fun _ _ _ h=>by cases h.1);refine tG 6 ?_ (hQ:=fun _ _ _ h=>by cases h.1);refine tG 8 ?_ (hQ:=fun _ _ _ h=>by cases h.1);refine tG 9 ?_ (hQ:=fun _ _ _ h=>by cases h.1);refine cH 7 rfl fun K hK=>?_
  go_simp
  refine hK.out _ _ hSd (fun H_=>?_);clear hK K
  (try simp only[Act.put,sA,s0,sS])
  refine tG 10 ?_ (hQ:=fun _ _ _ h=>by cases h.1);refine tG 11 ?_ (hQ:=fun _ _ _ h=>by cases h.1);refine tG 12 ?_ (hQ:=fun _ _ _ h=>by cases h.1);refine cH 13 rfl fun K hK=>?_
  go_simp
  refine hK.out _ _ (hSe _) (fun H_=>?_);clear hK K
  (try simp only[Act.put,sA,s0,sS])
  refine wpAnyH_done (by kernel_rfl) ?_ _;exact⟨rfl,_,_,_,_,_,_,_,_,_,_,_,_,_,rfl,HE.out⟩
 ·rintro A' w'⟨u16,u17,u18,u19,u20,u21,u22,u23,u24,u25,u26,u27,u28,rfl,hE⟩
  (try simp only[Act.put,sA,s0,sS])
  go_wp2_with fail
  exact bodyPost_end (results_none rfl _ _ _) rfl ⟨rfl,hE⟩
theorem zlg {w:World}{lo sz:Nat}{e:TypeId}{g n cap:Nat}{xs:List Value}(h:w.ownsRow lo e sz (.slice (some ⟨g,0,none⟩) n cap) n xs):∀j u,xs[j]?=some u->w.cell? ⟨g,j,none⟩=some u:=by
 intro j u hj;have hlt:=(List.getElem?_eq_some_iff.1 hj).1;obtain⟨hl,⟨h0,hz⟩|⟨b,cp,cur,h0,hlo,hh,hnc,hm,hs,ht⟩⟩:=h
 ·cases h0
 ·cases h0
  rw[cell_of_block hh,<- hj,<- ht,List.getElem?_take_of_lt (by omega),Array.getElem?_toList]
theorem zpE {α:Type}(row:α->List Value)(ps:List α)(k:Nat):∀(j:Nat) (u:Value),((ps.take k).flatMap row)[j]?=some u->(ps.flatMap row)[j]?=some u:=by
 intro j u hj;have hlt:=(List.getElem?_eq_some_iff.1 hj).1;have e:ps.flatMap row=(ps.take k).flatMap row++(ps.drop k).flatMap row:=by rw[<- List.flatMap_append,List.take_append_drop]
 rw[e,List.getElem?_append_left hlt];exact hj
theorem zpX {α:Type}(row:α->List Value)(n:Nat)(hn:∀p,(row p).length=n)(ps:List α)(k:Nat)(hk:k<=ps.length):∀(j:Nat) (u:Value),((ps.drop k).flatMap row)[j]?=some u->(ps.flatMap row)[k*n+j]?=some u:=by
 intro j u hj;have e:ps.flatMap row=(ps.take k).flatMap row++(ps.drop k).flatMap row:=by rw[<- List.flatMap_append,List.take_append_drop]
 have el:((ps.take k).flatMap row).length=k*n:=by rw[za6 row n hn,List.length_take,Nat.min_eq_left hk]
 rw[e,List.getElem?_append_right (by omega),el,Nat.add_sub_cancel_left];exact hj
set_option maxRecDepth 20000 in
theorem zpg (lo:Nat)(g cap k:Nat)(ps:List Pu)(w:World)(h:w.ownsRow lo 65 5 (.slice (some ⟨g,0,none⟩) ps.length cap) ps.length (ps.flatMap Pu.row))(hk:k<ps.length)(hl:ps.length<=1000) :
 Calls Tryz.prog 68 #[.slice (some ⟨g,0,none⟩) ps.length cap,.int .i64 k] w fun e w'=>∃v,e=.returned v/\w'.ownsRow w.heap.size 65 5 v (k+(ps.length-(k+1))) ((ps.take k).flatMap Pu.row++(ps.drop (k+1)).flatMap Pu.row)/\Below w.heap.size w w':=by
 obtain⟨i3,hi3,hzi3,hsi3,hbi3⟩:=info_parts Tryz.zjN;have hcap:=zq1 h;have hc:=zlg h;have hgw:g<w.heap.size:=(h.lt g rfl).2;have HC:Hid (∀W,Below w.heap.size w W->∀j u,(ps.flatMap Pu.row)[j]?=some u->W.cell? ⟨g,j,none⟩=some u):=fun W hW j u hj=>(hW.cell (p:=⟨g,j,none⟩) hgw).trans (hc j u hj)
 have hI:(k:Int)<=(ps.length:Int):=by omega
 have hI2:(k:Int)<=(cap:Int):=by omega
 have hI3:(k:Int)+1<=(ps.length:Int):=by omega
 have hI4:(ps.length:Int)<=(cap:Int):=by omega
 have hw1:IntKind.i64.wrap ((k:Int)+1)=(k:Int)+1:=by rw[IntKind.wrap_i64];omega
 have hk0:(0:Int)<=k:=by omega
 have hk1:(0:Int)<=(k:Int)+1:=by omega
 obtain⟨ad,had,hadc⟩:∃ad:Addr,(if cap=k+1 then some (⟨g,0,none⟩:Addr) else some ⟨g,(k+1)*5,none⟩)=some ad/\∀W,Below w.heap.size w W->∀j u,((ps.drop (k+1)).flatMap Pu.row)[j]?=some u->W.cell? (ad.add j)=some u:=by
  by_cases hce:cap=k+1
  ·refine⟨_,if_pos hce,fun W hW j u hj=>?_⟩
   rw[List.drop_eq_nil_of_le (by omega)]at hj
   simp at hj
  ·refine⟨_,if_neg hce,fun W hW j u hj=>?_⟩
   rw[Addr.add_mid];exact HC.out W hW _ u (zpX Pu.row 5 (fun _=>rfl) ps (k+1) (by omega) j u hj)
 have HAD:=hid hadc;clear hadc;clear hc h;go_enter Tryz.func68,Tryz.ntmps68;go_wp2_with fail
 refine zbO (fun A A' w'=>∃u5 u6 u7 u8 u9 u10 u11 u12 u13 u14 v,A'=(((((((((((A.put (some 5) u5).put (some 6) u6).put (some 7) u7).put (some 8) u8).put (some 9) u9).put (some 10) u10).put (some 11) u11).put (some 12) u12).put (some 13) u13).put (some 14) u14).put (some 4) v)/\w'.ownsRow w.heap.size 65 5 v (k+(ps.length-(k+1))) ((ps.take k).flatMap Pu.row++(ps.drop (k+1)).flatMap Pu.row)/\Below w.heap.size w w') ?_ ?_
 ·refine wp_region_held_drew (S:=fun _=>True) (by kernel_rfl) trivial (fun H_=>?_)
  refine tG 1 ?_ (hQ:=fun _ _ _ h=>by cases h.1);refine tG 2 ?_ (hQ:=fun _ _ _ h=>by cases h.1);refine tG 3 ?_ (hQ:=fun _ _ _ h=>by cases h.1);refine tG 5 ?_ (hQ:=fun _ _ _ h=>by cases h.1);refine tG 6 ?_ (hQ:=fun _ _ _ h=>by cases h.1);refine tG 7 ?_ (hQ:=fun _ _ _ h=>by cases h.1);refine tG 8 ?_ (hQ:=fun _ _ _ h=>by cases h.1);have hBa:Below w.heap.size w (w.drew.alloc (.cells #[] 65)):=(bRf _ _).drew.alloc (Nat.le_refl _) _;refine cH 0 rfl fun K hK=>?_
  go_simp
  refine hK.out _ _ trivial (fun H_=>?_);clear hK K
  (try simp only[Act.put,sA,s0,sS])
  refine cH 4 rfl fun K hK=>?_
  refine wp_append_own _ (.tmp 5) (.tmp 8) 38 rfl w.heap.size 65 i3 (.agg #[.string ByteArray.empty,.string ByteArray.empty,.string ByteArray.empty,.int .i64 0,.int .i64 0]) 5 64 Tryz.underlying38 hi3 hzi3 hsi3 hbi3 rfl (by decide) (.slice (some ⟨w.heap.size,0,none⟩) 0 0) 0 [] rfl ⟨rfl,Or.inr ⟨w.heap.size,0,#[],rfl,Nat.le_refl _,(MapKept.heap_alloc w.drew _).1,Nat.le_refl _,by simp[maxLen],rfl,rfl⟩⟩ ⟨g,0,none⟩ k cap ((ps.take k).flatMap Pu.row) rfl (by rw[za6 Pu.row 5 (fun _=>rfl),List.length_take,Nat.min_eq_left (by omega)]) (fun j u hj=>by rw[Addr.add_mid,Nat.zero_add];exact HC.out _ hBa j u (zpE Pu.row ps k j u hj)) zi1 (by unfold maxLen;omega) (by omega) (by simp) ?_;intro v' w1 hown hgr _;rw[Nat.zero_add,List.nil_append]at hown;have hB1:Below w.heap.size w w1:=hBa.grown hgr (by simp) (fun z hz=>by have:=Option.some.inj (show some w.heap.size=some z from hz);omega);obtain⟨va,vc,rfl⟩:=q9 hown;have hvb:∀z,(Value.slice va k vc).ownBlock=some z->w.heap.size<=z:=fun z hz=>(hown.lt z hz).1
  refine hK.out _ _ trivial (fun H_=>?_);clear hK K
  (try simp only[Act.put,sA,s0,sS])
  refine cH 9 rfl fun K hK=>?_
  refine wp_append_own _ (.tmp 9) (.tmp 13) 38 rfl w.heap.size 65 i3 (.agg #[.string ByteArray.empty,.string ByteArray.empty,.string ByteArray.empty,.int .i64 0,.int .i64 0]) 5 64 Tryz.underlying38 hi3 hzi3 hsi3 hbi3 rfl (by decide) (.slice va k vc) k _ rfl hown ad (ps.length-(k+1)) (cap-(k+1)) ((ps.drop (k+1)).flatMap Pu.row) rfl (by rw[za6 Pu.row 5 (fun _=>rfl),List.length_drop]) (HAD.out w1 hB1) zi1 (by unfold maxLen;omega) (by omega) hB1.size ?_;intro v2 w2 hown2 hgr2 _;have hB2:Below w.heap.size w w2:=hB1.grown hgr2 hB1.size hvb;refine hK.out _ _ trivial (fun H_=>?_);clear hK K
  (try simp only[Act.put,sA,s0,sS])
  refine tG 10 ?_ (hQ:=fun _ _ _ h=>by cases h.1);refine wpAnyH_done (by kernel_rfl) ?_ _;exact⟨rfl,_,_,_,_,_,_,_,_,_,_,v2,rfl,hown2,hB2⟩
 ·rintro A' w'⟨u5,u6,u7,u8,u9,u10,u11,u12,u13,u14,v,rfl,ho,hB⟩
  (try simp only[Act.put,sA,s0,sS])
  go_wp2_with fail
  go_ret;exact⟨v,rfl,ho,hB⟩
structure znz (lo:Nat)(w:World)(e:Ending)(r:Bk × Int):Prop where
 ex:∃hi own d0 d1 d2 d3 e0 e1 e2 e3,e=.returned (.tuple #[.agg (r.1.cells d0 d1 d2 d3 e0 e1 e2 e3),.int .i64 r.2])/\BkL lo hi w own r.1 d0 d1 d2 d3
theorem zbT.snoc {lo:Nat}{wr w1 w4:World}{own:Nat->Lb}{v v':Value}{xs:List Pu}{x:Pu}{o:Obj}(h:zbT lo wr own v xs)(hB:Below wr.heap.size wr w1)(hg:(w1.alloc o).grownBy w4 v.ownBlock)(ho:w4.ownsRow lo 65 5 v' (xs.length+1) (xs.flatMap Pu.row++Pu.row x))(hat:v'.ownBlock=v.ownBlock \/ v'.ownBlock=some (w1.alloc o).heap.size) :
 ∃own':Nat->Lb,(∀k,k<wr.heap.size->own' k=own k)/\zbT lo w4 own' v' (xs++[x])/\Left (fun k=>v.ownBlock=some k) wr w4:=by
 have hz:=hB.size;refine⟨fun k=>if k<wr.heap.size then own k else (3,0,0),fun k hk=>if_pos hk,⟨by rw[List.length_append,List.flatMap_append];simpa using ho,fun k hk=>?_⟩,((Left.of_below _ (hB.alloc hz _))).grown hg (fun _ h=>h)⟩
 rcases hat with e|e
 ·have h1:=h.1.lt k (e ▸ hk)
  show(if _ then _ else _)=_
  rw[if_pos h1.2];exact h.2 k (e ▸ hk)
 ·rw[hk]at e
  obtain rfl:k=w1.heap.size+1:=by simpa using e
  show(if _ then _ else _)=_
  rw[if_neg (by omega)]
theorem BkF.low {lo lo' hi:Nat}{w:World}{own:Nat->Lb}{a0 a1 a2 a3:Option Addr}{n0 n1 n2 n3:Nat}{f0:Nat->Ob}{f1:Nat->Gr}{f2:Nat->Lg}{f3:Nat->Pu}(h:BkF lo hi w own a0 a1 a2 a3 n0 n1 n2 n3 f0 f1 f2 f3)(hl:lo'<=lo):BkF lo' hi w own a0 a1 a2 a3 n0 n1 n2 n3 f0 f1 f2 f3:=
 ⟨h.os.low hl,h.gs.low hl,h.ls.low hl,h.ps.low hl,fun k hk=>h.out k (by omega),Nat.le_trans hl h.le,h.hi⟩
theorem zqA {t:Int}{ps:List Pu}{k:Nat}(h:k<ps.length)(hd:ps[k].un<t):stay t (ps.take (k+1))=stay t (ps.take k):=by
 unfold stay;rw[tSe h,List.filter_append]
 simp[hd]
theorem zq5 {t:Int}{ps:List Pu}{k:Nat}(h:k<ps.length)(hd:¬ps[k].un<t):stay t (ps.take (k+1))=stay t (ps.take k)++[ps[k]]:=by
 unfold stay;rw[tSe h,List.filter_append]
 simp[hd]
theorem zlf {t:Int}{ps:List Pu}{k:Nat}(h:k<ps.length)(ls:List Lg):pays t (ps.take (k+1)) ls=ji t (pays t (ps.take k) ls) ps[k]:=by rw[tSe h,zph]
structure zre (b:Bk):Prop where
 rise:rising qj b.ls
 len:b.ls.length<=10
 fr:Within b.ls 0
 plen:b.ps.length<=24
 has:∀i (h:i<b.ps.length),yH b.ls b.ps[i].tm b.ps[i].rs=true
 am:∀p∈b.ps,1<=p.am/\p.am<=1000000
 tick:0<=b.tick/\b.tick<=1000000
theorem zoX {l:Lw}{b:Bk}(h:jX l b=true):zre b:=by
 unfold jX za0 at h;simp only[Bool.and_eq_true]at h;obtain⟨h1,h2,h3⟩:=zb2 h.2.2.2.2.1;obtain⟨h4,h5⟩:=zgL h.2.2.2.2.2.1
 have hp:∀i (hi:i<b.ps.length),yH b.ls b.ps[i].tm b.ps[i].rs=true/\1<=b.ps[i].am/\b.ps[i].am<=1000000:=fun i hi=>by
  have h6:=h5 i hi;unfold yj within at h6;simp only[Bool.and_eq_true,decide_eq_true_eq]at h6;exact⟨h6.1,h6.2.2.1⟩
 refine⟨h1,h2,⟨fun g hg=>?_⟩,h4,fun i hi=>(hp i hi).1,fun p hp'=>?_,zf4 h.2.1⟩
 ·obtain⟨i,hi,rfl⟩:=List.mem_iff_getElem.1 hg
  have h6:=h3 i hi;unfold yI jl at h6;simp only[Bool.and_eq_true,decide_eq_true_eq]at h6;omega
 ·obtain⟨i,hi,rfl⟩:=List.mem_iff_getElem.1 hp'
  exact(hp i hi).2
set_option maxRecDepth 20000 in
theorem zf0 (l:Lw)(la lb lc:Option Addr)(lca lcb lcc:Nat)(b:Bk)(a0 a1 a2 a3:Option Addr)(c0 c1 c2 c3:Nat)(w:World)(hl:jr w l la lb lc)(hb:q8 w b a0 a1 a2 a3)(hlf:l.Few)(hbf:b.Few)(hz:qL b.os<=1048576) :
 Calls Tryz.prog 9 #[.agg (l.cells la lb lc lca lcb lcc),.agg (b.cells a0 a1 a2 a3 c0 c1 c2 c3)] w fun e w'=>znz w.heap.size w' e (tick l b)/\Below w.heap.size w w':=by
 have HK:=hid hb;have HL:=hid hl;have HF:=zdp hlf hbf hz;obtain⟨i3,hi3,hzi3,hsi3,hbi3⟩:=info_parts Tryz.zjN;have HI3:=zbJ hi3 hzi3 hsi3 hbi3;clear hi3 hzi3 hsi3 hbi3;clear hb hl hlf hbf hz;unfold Lw.cells Bk.cells;have k0:=znu w (.cells #[.slice la l.ss.length lca,.slice lb l.ms.length lcb,.slice lc l.ts.length lcc] 47) (.cells (bC b a0 a1 a2 a3 c0 c1 c2 c3) 40) (.cells bZ 40);have hB0:=below3' w (.cells #[.slice la l.ss.length lca,.slice lb l.ms.length lcb,.slice lc l.ts.length lcc] 47) (.cells (bC b a0 a1 a2 a3 c0 c1 c2 c3) 40) (.cells bZ 40);obtain⟨W0,hW0⟩:∃W0,W0=((w.alloc (.cells #[.slice la l.ss.length lca,.slice lb l.ms.length lcb,.slice lc l.ts.length lcc] 47)).alloc (.cells (bC b a0 a1 a2 a3 c0 c1 c2 c3) 40)).alloc (.cells bZ 40):=⟨_,rfl⟩
 have hz0:W0.heap.size=w.heap.size+1+1+1:=by rw[hW0];simp
 go_enter Tryz.func9,Tryz.ntmps9;go_wp2_with fail
 rw[<- hW0]at k0 hB0 ⊢;clear hW0;refine(zjr l la lb lc lca lcb lcc b a0 a1 a2 a3 c0 c1 c2 c3 W0 (HL.out.mono hB0) (HK.out.mono hB0) HF.out.1 HF.out.2.1 HF.out.2.2).mono ?_;rintro e w1⟨rfl,hb1⟩;have hz1:=hb1.size;have HB1:=hid (hB0.trans (hb1.mono hB0.size));have kB:=(hb1.block (w.heap.size+1) (by omega)).trans k0.2.1;have kR:=(hb1.block (w.heap.size+1+1) (by omega)).trans k0.2.2;have cB:=fun j=>cell_of_block (o:=j) kB
 have cR:=fun j=>cell_of_block (o:=j) kR
 have fR:=fun j=>zh (o:=j) kR
 have hzB:w.heap.size+1<w1.heap.size:=by omega
 have hzR:w.heap.size+1+1<w1.heap.size:=by omega
 have HKB:=qE kB kR;clear hb1 k0 hB0 kB kR
 by_cases hok:jX l b=true
 rotate_left
 ·have hno:jX l b=false:=bFi hok
  have HR:Hid (tick l b=(zaP,1)):=by unfold Hid tick;rw[hno];rfl
  rw[hno];go_wp2_with fail
  refine bodyPost_ret (v:=.tuple #[.agg #[.int .i64 0,.int .i64 0,.int .i64 0,.slice none 0 0,.slice none 0 0,.slice none 0 0,.slice none 0 0],.int .i64 1]) (by simp[results,Tryz.results9,go_sem,cR]) rfl ?_;refine⟨⟨w1.heap.size,fun _=>(9,0,0),none,none,none,none,0,0,0,0,by rw[HR.out];rfl,?_⟩,?_⟩
  ·rw[HR.out]
   exact⟨⟨fun h=>absurd h (by simp[zaP])⟩,⟨fun h=>absurd h (by simp[zaP])⟩,⟨fun h=>absurd h (by simp[zaP])⟩,⟨fun h=>absurd h (by simp[zaP])⟩,fun _ _=>rfl,HB1.out.size,by simp[World.setCell]⟩
  ·have h1:w.heap.size<=w.heap.size+1+1:=by omega
   iterate 7 refine Below.setCell ?_ h1 _
   exact HB1.out
 have HT:=hid (zoX hok);rw[hok];go_wp2_with fail
 refine(zl4 b a0 a1 a2 a3 c0 c1 c2 c3 w1 (HK.out.mono HB1.out) HF.out.2.1).mono ?_;rintro e w2⟨own,d0,d1,d2,d3,e0,e1,e2,e3,rfl,hbk,_,hb2⟩;have hz2:=hb2.size;have HB2:=hid hb2;have HN2:=hid hbk;have kR2:=(hb2.block (w.heap.size+1+1) hzR).trans HKB.out.2;have kB2:=(hb2.block (w.heap.size+1) hzB).trans HKB.out.1;have hba:=(bRf w2.heap.size w2).alloc (Nat.le_refl _) (.cells (bC b d0 d1 d2 d3 e0 e1 e2 e3) 40);have kX:=alloc_at w2 (.cells (bC b d0 d1 d2 d3 e0 e1 e2 e3) 40);clear hb2 hbk cB cR fR
 go_upto_if 18 with fail
 obtain⟨W3,hW3⟩:∃W3,W3=w2.alloc (.cells (bC b d0 d1 d2 d3 e0 e1 e2 e3) 40):=⟨_,rfl⟩
 rw[<- hW3]at hba kX ⊢;have hz3:W3.heap.size=w2.heap.size+1:=by rw[hW3];simp
 clear hW3;have kR3:=(hba.block _ (by omega)).trans kR2;have kB3:=(hba.block _ (by omega)).trans kB2;have HN3:=hid (BkF.mono HN2.out hba);have HB3:=hid ((HB1.out.trans (HB2.out.mono HB1.out.size)).trans (hba.mono (by omega)));obtain⟨x,hx⟩:∃x,x=w2.heap.size:=⟨_,rfl⟩
 rw[<- hx]at kX hz3 HN3 ⊢;have hxR:w.heap.size+1+1<x:=by omega
 clear kR2 kB2 hba HN2;have cX:=fun j=>cell_of_block (o:=j) kX
 have fX:=fun j=>zh (o:=j) kX
 have hxz:x<W3.heap.size:=by omega
 have HZX:=qE hx hz3;have hxw:w1.heap.size<=x:=by omega
 clear hx hz3
 by_cases ht:b.tick=1000000
 ·have HR:Hid (tick l b=(b,2)):=by unfold Hid tick;rw[hok,ht];rfl
  have cR:=fun j=>cell_of_block (o:=j) kR3
  have fR:=fun j=>zh (o:=j) kR3
  have hzR2:w.heap.size+1+1<W3.heap.size:=by omega
  have hte:(b.tick == 1000000)=true:=by simp[ht]
  clear ht;go_wp2_with fail
  refine bodyPost_ret (v:=.tuple #[.agg #[.int .i64 b.now,.int .i64 b.tick,.int .i64 b.given,.slice d0 b.os.length e0,.slice d1 b.gs.length e1,.slice d2 b.ls.length e2,.slice d3 b.ps.length e3],.int .i64 2]) (by simp[results,Tryz.results9,go_sem,cR]) rfl ?_;have hLs:∀(W:World) (o:Nat) (v:Value),Left (fun k=>k=w.heap.size+1+1) W3 W->Left (fun k=>k=w.heap.size+1+1) W3 (W.setCell ⟨w.heap.size+1+1,o,none⟩ v):=fun W o v h=>h.set rfl o v
  refine⟨⟨x,own,d0,d1,d2,d3,e0,e1,e2,e3,by rw[HR.out];rfl,?_⟩,?_⟩
  ·rw[HR.out]
   refine BkF.low (BkF.left (S:=fun k=>k=w.heap.size+1+1) HN3.out ?_ (fun k hk h2=>by have:=HN3.out.out k (Or.inl (by omega));omega)) (by omega)
   iterate 7 refine hLs _ _ _ ?_
   exact Left.refl _ _
  ·have h1:w.heap.size<=w.heap.size+1+1:=by omega
   iterate 7 refine Below.setCell ?_ h1 _
   exact HB3.out
 ·have HR:Hid (tick l b=(zfY b,0)):=by unfold Hid tick;rw[hok,if_neg ht];rfl
  have hte:(b.tick == 1000000)=false:=by simp[ht]
  have hwt:wrap64 (b.tick+1)=b.tick+1:=zy _ ⟨by have:=HT.out.tick;omega,by have:=HT.out.tick;omega⟩;have HTT:=hid ht;clear ht;have cB:=fun j=>cell_of_block (o:=j) kB3
  have hzB3:w.heap.size+1<W3.heap.size:=by omega
  have hxB:x≠w.heap.size+1:=by omega
  have kX1:=zi (o:=6) (zi (o:=1) kX (.int .i64 (b.tick+1))) (.slice none 0 0);have hsx:=((Left.refl (fun k=>k=x) W3).set (b:=x) rfl 1 (.int .i64 (b.tick+1))).set (b:=x) rfl 6 (.slice none 0 0);have hox:∀q,(q<(w1.heap.size+1+1) \/ q=x)->(own q).1=9:=fun q hq=>HN3.out.out q (by have:=HZX.out;omega)
  have HS0:Hid (((W3.setCell ⟨x,1,none⟩ (.int .i64 (b.tick+1))).setCell ⟨x,6,none⟩ (.slice none 0 0)).heap[x]?=some (.cells #[.int .i64 b.now,.int .i64 (b.tick+1),.int .i64 b.given,.slice d0 b.os.length e0,.slice d1 b.gs.length e1,.slice d2 b.ls.length e2,.slice none 0 0] 40)/\(zat (w1.heap.size+1+1) ((W3.setCell ⟨x,1,none⟩ (.int .i64 (b.tick+1))).setCell ⟨x,6,none⟩ (.slice none 0 0)) own d0 b.os.length (zac b.os)/\zaT (w1.heap.size+1+1) ((W3.setCell ⟨x,1,none⟩ (.int .i64 (b.tick+1))).setCell ⟨x,6,none⟩ (.slice none 0 0)) own d1 b.gs.length (zaS b.gs)/\jy (w1.heap.size+1+1) ((W3.setCell ⟨x,1,none⟩ (.int .i64 (b.tick+1))).setCell ⟨x,6,none⟩ (.slice none 0 0)) own d2 b.ls.length (zab b.ls))/\Below (w1.heap.size+1+1) W3 ((W3.setCell ⟨x,1,none⟩ (.int .i64 (b.tick+1))).setCell ⟨x,6,none⟩ (.slice none 0 0))):=by
   have h9:=hox x (Or.inr rfl);have hxlo:(w1.heap.size+1+1)<=x:=by have:=HN3.out.le;omega
   exact⟨kX1,⟨HN3.out.os.left hsx (fun k h1 h2=>by subst h2;omega),HN3.out.gs.left hsx (fun k h1 h2=>by subst h2;omega),HN3.out.ls.left hsx (fun k h1 h2=>by subst h2;omega)⟩,((bRf _ _).setCell hxlo _).setCell hxlo _⟩
  have HOX:=hid hox;have HXL:Hid ((w1.heap.size+1+1)<=x):=HN3.out.le;clear hox hsx kX1 HN3;go_wp2_with fail
  simp only[hte,hwt];clear hte hwt
  go_loopw [28] (fun iv wr=>∃(k:Nat) (v:Value) (own:Nat->Lb),k<=b.ps.length/\iv=.int .i64 k/\Hid (wr.heap[x]?=some (.cells #[.int .i64 b.now,.int .i64 (b.tick+1),.int .i64 b.given,.slice d0 b.os.length e0,.slice d1 b.gs.length e1,.slice d2 b.ls.length e2,v] 40)/\(zat (w1.heap.size+1+1) wr own d0 b.os.length (zac b.os)/\zaT (w1.heap.size+1+1) wr own d1 b.gs.length (zaS b.gs)/\jy (w1.heap.size+1+1) wr own d2 b.ls.length (zab (pays (b.tick+1) (b.ps.take k) b.ls)))/\zbT (w1.heap.size+1+1) wr own v (stay (b.tick+1) (b.ps.take k))/\(∀q,(q<(w1.heap.size+1+1) \/ q=x)->(own q).1=9)/\Below (w1.heap.size+1+1) W3 wr)) (fun iv _=>b.ps.length-(intOf iv).toNat)
  case atStart=>exact⟨0,_,own,Nat.zero_le _,rfl,HS0.out.1,by rw[List.take_zero];exact HS0.out.2.1,⟨World.ownsRow_nil _ _ _ _,fun k hk=>by simp[Value.ownBlock]at hk⟩,HOX.out,HS0.out.2.2⟩
  case round=>
   clear HS0 HOX;obtain⟨k,v,own,hk,rfl,HQ⟩:=hrel;have hBr:Below w.heap.size w wr:=HB3.out.trans (HQ.out.2.2.2.2.mono (by omega));have hxr:x<wr.heap.size:=(gES HQ.out.1).1;have cX:=fun j=>cell_of_block (o:=j) HQ.out.1
   have fX:=fun j=>zh (o:=j) HQ.out.1
   have HPS:Hid (∀p∈b.ps.take k,1<=p.am/\p.am<=1000000):=fun p hp=>HT.out.am p (List.mem_of_mem_take hp)
   have HLS:Hid (∀g∈b.ls,g.Small):=fun g hg=>by obtain⟨i,hi,rfl⟩:=List.mem_iff_getElem.1 hg;exact HK.out.ls.small i hi
   by_cases hlt:k<b.ps.length
   ·obtain⟨pb,off,rfl,hpb,q0,q1,q2,q3,q4⟩:=HK.out.ps.load hBr k hlt
    have hltI:(k:Int)<(b.ps.length:Int):=by omega
    have hnp:=HF.out.2.1.ps;have hpb2:pb<wr.heap.size:=nLt hpb hBr.size;have HBa:=hid ((bRf wr.heap.size wr).alloc (Nat.le_refl _) (.cells #[.string b.ps[k].dr,.string b.ps[k].tm,.string b.ps[k].rs,.int .i64 b.ps[k].am,.int .i64 b.ps[k].un] 65))
    by_cases hd:b.ps[k].un<b.tick+1
    ·have HY:Hid (stay (b.tick+1) (b.ps.take (k+1))=stay (b.tick+1) (b.ps.take k)/\pays (b.tick+1) (b.ps.take (k+1)) b.ls=pay (pays (b.tick+1) (b.ps.take k) b.ls) b.ps[k]):=⟨zqA hlt hd,by rw[zlf hlt];exact if_pos hd⟩
     have hdd:decide (b.ps[k].un<b.tick+1)=true:=decide_eq_true hd;clear hd;go_wp2_with fail
     clear q0 q1 q2 q3 q4 cX fX;have hpl:=zaj (b.tick+1) (b.ps.take k) b.ls;have hwi:=(zh5 HT.out.fr (b.tick+1) (b.ps.take k) HPS.out)
     have htl:(b.ps.take k).length<=24:=by have:=HT.out.plen;rw[List.length_take];omega
     refine(zmY (w1.heap.size+1+1) x own b.now (b.tick+1) b.given (.slice d0 b.os.length e0) (.slice d1 b.gs.length e1) v d2 e2 (pays (b.tick+1) (b.ps.take k) b.ls) b.ps[k] _ (by rw[hpl];exact(HBa.out.block x hxr).trans HQ.out.1) (by rw[hpl];exact HQ.out.2.1.2.2.mono HBa.out) (by have:=HQ.out.2.2.2.1 x (Or.inr rfl);omega) (zfJ HLS.out _ _) (by rw[hpl];exact HT.out.len) (zhT HT.out.rise _ _) (by rw[znt];exact HT.out.has k hlt) (fun g hg=>by have:=hwi.fr g hg;constructor <;> omega) (HT.out.am _ (List.getElem_mem hlt))).mono ?_;rintro e w4⟨rfl,hl4,hL4⟩;rw[hpl,<- HY.out.2]at hl4;have hL5:Left (fun q=>(own q).1=2) wr w4:=(Left.of_below _ HBa.out).trans hL4;have hx9:=HQ.out.2.2.2.1 x (Or.inr rfl);have HE4:Hid (w4.heap[x]?=some (.cells #[.int .i64 b.now,.int .i64 (b.tick+1),.int .i64 b.given,.slice d0 b.os.length e0,.slice d1 b.gs.length e1,.slice d2 b.ls.length e2,v] 40)/\(zat (w1.heap.size+1+1) w4 own d0 b.os.length (zac b.os)/\zaT (w1.heap.size+1+1) w4 own d1 b.gs.length (zaS b.gs)/\jy (w1.heap.size+1+1) w4 own d2 b.ls.length (zab (pays (b.tick+1) (b.ps.take (k+1)) b.ls)))/\zbT (w1.heap.size+1+1) w4 own v (stay (b.tick+1) (b.ps.take (k+1)))/\(∀q,(q<(w1.heap.size+1+1) \/ q=x)->(own q).1=9)/\Below (w1.heap.size+1+1) W3 w4):=⟨(hL5.out x hxr (by omega)).trans HQ.out.1,⟨HQ.out.2.1.1.left hL5 (fun q h1 h2=>by omega),HQ.out.2.1.2.1.left hL5 (fun q h1 h2=>by omega),hl4⟩,by rw[HY.out.1];exact HQ.out.2.2.1.left hL5 (fun q h1 h2=>by omega),HQ.out.2.2.2.1,HQ.out.2.2.2.2.trans (hL5.below (fun q hq h2=>by have:=HQ.out.2.2.2.1 q (Or.inl hq);omega) (by have:=HXL.out;omega))⟩
     clear hl4 hL4 hL5 hx9 hpl hwi htl HY HQ;go_wp2_with fail
     exact⟨⟨k+1,v,own,by omega,by go_num,HE4.out⟩,zq hlt⟩
    ·have HY:Hid (stay (b.tick+1) (b.ps.take (k+1))=stay (b.tick+1) (b.ps.take k)++[b.ps[k]]/\pays (b.tick+1) (b.ps.take (k+1)) b.ls=pays (b.tick+1) (b.ps.take k) b.ls):=⟨zq5 hlt hd,by rw[zlf hlt];exact if_neg hd⟩
     have hdd:decide (b.ps[k].un<b.tick+1)=false:=decide_eq_false hd;clear hd
     go_wp2_with (at_builtin;refine zce ?_)
     clear q0 q1 q2 q3 q4 cX fX
     have hsl:(stay (b.tick+1) (b.ps.take k)).length<=24:=by
      have h1:=List.length_filter_le (fun p:Pu=>!decide (p.un<b.tick+1)) (b.ps.take k);have h2:=HT.out.plen;rw[List.length_take]at h1;unfold stay;omega
     obtain⟨xs,hxs⟩:∃xs,xs=stay (b.tick+1) (b.ps.take k):=⟨_,rfl⟩
     have hrow:=HQ.out.2.2.1;rw[<- hxs]at hsl hrow HY;have HRW:=qE hrow hsl;have HQ2:=zbJ HQ.out.1 HQ.out.2.1 HQ.out.2.2.2.1 HQ.out.2.2.2.2;clear hxs hrow hsl HQ
     show wpList _ _ _ _ _ _
     refine wpList_append_own_at _ rfl (.tmp 40) (.tmp 42) 38 rfl (w1.heap.size+1+1) 65 i3 (.agg #[.string ByteArray.empty,.string ByteArray.empty,.string ByteArray.empty,.int .i64 0,.int .i64 0]) 5 64 Tryz.underlying38 HI3.out.1 HI3.out.2.1 HI3.out.2.2.1 HI3.out.2.2.2 rfl (by decide) _ _ _ rfl ((yS HRW.out.1.1 HBa.out).alloc _) ⟨wr.heap.size+1,0,none⟩ 1 1 [.string b.ps[k].dr,.string b.ps[k].tm,.string b.ps[k].rs,.int .i64 b.ps[k].am,.int .i64 b.ps[k].un] rfl rfl (by have h:=zeW (wr.alloc (.cells #[.string b.ps[k].dr,.string b.ps[k].tm,.string b.ps[k].rs,.int .i64 b.ps[k].am,.int .i64 b.ps[k].un] 65)) [.string b.ps[k].dr,.string b.ps[k].tm,.string b.ps[k].rs,.int .i64 b.ps[k].am,.int .i64 b.ps[k].un] 65;simpa using h) (by intro u hu;simp at hu;rcases hu with rfl|rfl|rfl|rfl|rfl <;> rfl) (by have:=HRW.out.2;unfold maxLen;omega) (by have:=HRW.out.2;omega) (by have:=HXL.out;simp;omega) ?_;intro v' w4 hown' hgr _ hat;obtain⟨va,vc,rfl⟩:=q9 hown';obtain⟨own',ho1,ho2,hL4⟩:=zbT.snoc (x:=b.ps[k]) HRW.out.1 HBa.out hgr hown' hat;have hvb:∀z,v.ownBlock=some z->(w1.heap.size+1+1)<=z/\z<wr.heap.size:=fun z hz=>HRW.out.1.1.lt z hz
     have hv3:∀z,v.ownBlock=some z->own z=(3,0,0):=fun z hz=>HRW.out.1.2 z hz
     have hx9:=HQ2.out.2.2.1 x (Or.inr rfl);have hvx:v.ownBlock≠some x:=fun h=>by rw[hv3 x h]at hx9;simp at hx9
     have hwo:∀q,(q<(w1.heap.size+1+1) \/ q=x)->(own' q).1=9:=fun q hq=>by rw[ho1 q (by have:=HXL.out;omega)];exact HQ2.out.2.2.1 q hq
     have kX4:w4.heap[x]?=some (.cells #[.int .i64 b.now,.int .i64 (b.tick+1),.int .i64 b.given,.slice d0 b.os.length e0,.slice d1 b.gs.length e1,.slice d2 b.ls.length e2,v] 40):=(hL4.out x hxr hvx).trans HQ2.out.1;have hsx:=(Left.refl (fun z=>z=x) w4).set (b:=x) rfl 6 (.slice va (xs.length+1) vc);have hx9':=hwo x (Or.inr rfl)
     have HE4:Hid ((w4.setCell ⟨x,6,none⟩ (.slice va (xs.length+1) vc)).heap[x]?=some (.cells #[.int .i64 b.now,.int .i64 (b.tick+1),.int .i64 b.given,.slice d0 b.os.length e0,.slice d1 b.gs.length e1,.slice d2 b.ls.length e2,.slice va (xs.length+1) vc] 40)/\(zat (w1.heap.size+1+1) (w4.setCell ⟨x,6,none⟩ (.slice va (xs.length+1) vc)) own' d0 b.os.length (zac b.os)/\zaT (w1.heap.size+1+1) (w4.setCell ⟨x,6,none⟩ (.slice va (xs.length+1) vc)) own' d1 b.gs.length (zaS b.gs)/\jy (w1.heap.size+1+1) (w4.setCell ⟨x,6,none⟩ (.slice va (xs.length+1) vc)) own' d2 b.ls.length (zab (pays (b.tick+1) (b.ps.take (k+1)) b.ls)))/\zbT (w1.heap.size+1+1) (w4.setCell ⟨x,6,none⟩ (.slice va (xs.length+1) vc)) own' (.slice va (xs.length+1) vc) (stay (b.tick+1) (b.ps.take (k+1)))/\(∀q,(q<(w1.heap.size+1+1) \/ q=x)->(own' q).1=9)/\Below (w1.heap.size+1+1) W3 (w4.setCell ⟨x,6,none⟩ (.slice va (xs.length+1) vc))):=by
      refine⟨zi kX4 _,⟨?_,?_,?_⟩,?_,hwo,HQ2.out.2.2.2.trans ((hL4.below (fun q hq h2=>by have:=(hvb q h2).1;omega) (by have:=HXL.out;omega)).setCell HXL.out _)⟩
      ·exact((HQ2.out.2.1.1.own (fun z hz _=>ho1 z hz)).left hL4 (fun z h1 h2=>by rw[ho1 z (hvb z h2).2,hv3 z h2]at h1;simp at h1)).left hsx (fun z h1 h2=>by subst h2;omega)
      ·exact((HQ2.out.2.1.2.1.own (fun z hz _=>ho1 z hz)).left hL4 (fun z h1 h2=>by rw[ho1 z (hvb z h2).2,hv3 z h2]at h1;simp at h1)).left hsx (fun z h1 h2=>by subst h2;omega)
      ·rw[HY.out.2]
       exact((HQ2.out.2.1.2.2.own (fun z hz _=>ho1 z hz)).left hL4 (fun z h1 h2=>by rw[ho1 z (hvb z h2).2,hv3 z h2]at h1;simp at h1)).left hsx (fun z h1 h2=>by subst h2;omega)
      ·rw[HY.out.1]
       exact ho2.left hsx (fun z h1 h2=>by subst h2;omega)
     have cX4:=fun j=>cell_of_block (o:=j) kX4
     have fX4:=fun j=>zh (o:=j) kX4
     have hz4:x<w4.heap.size:=(gES kX4).1;clear ho1 ho2 hL4 hvb hv3 hx9 hvx hwo kX4 hsx hx9' hown' hgr hat HRW HQ2 HY;go_wp2_with fail
     exact⟨⟨k+1,_,own',by omega,by go_num,HE4.out⟩,zq hlt⟩
   ·have e:k=b.ps.length:=by omega
    subst e;have HE:=HQ;rw[tOl (Nat.le_refl _)]at HE;obtain⟨d3',e3',hve,hpn⟩:=HE.out.2.2.1.lie;have kR4:=(HE.out.2.2.2.2.block (w.heap.size+1+1) (by omega)).trans kR3;have cR:=fun j=>cell_of_block (o:=j) kR4
    have fR:=fun j=>zh (o:=j) kR4
    have hzR4:w.heap.size+1+1<wr.heap.size:=by omega
    have hkX:=HE.out.1;subst hve;have cXX:=fun j=>cell_of_block (o:=j) hkX
    have HPN:=hid hpn;have HBR:=hid hBr;clear HQ hpn hBr hkX cX fX hlt hk;go_wp2_with fail
    refine bodyPost_ret (v:=.tuple #[.agg #[.int .i64 b.now,.int .i64 (b.tick+1),.int .i64 b.given,.slice d0 b.os.length e0,.slice d1 b.gs.length e1,.slice d2 b.ls.length e2,(.slice d3' (stay (b.tick+1) b.ps).length e3')],.int .i64 0]) (by simp[results,Tryz.results9,go_sem,cR]) rfl ?_;have hLs:∀(W:World) (o:Nat) (v:Value),Left (fun k=>k=w.heap.size+1+1) wr W->Left (fun k=>k=w.heap.size+1+1) wr (W.setCell ⟨w.heap.size+1+1,o,none⟩ v):=fun W o v h=>h.set rfl o v
    obtain⟨own',ho'⟩:∃own':Nat->Lb,own'=fun k=>if k<wr.heap.size then own k else (9,0,0):=⟨_,rfl⟩
    have hoo:∀k,k<wr.heap.size->own' k=own k:=fun k hk=>by rw[ho'];exact if_pos hk
    have hN:BkL (w1.heap.size+1+1) wr.heap.size wr own' (zfY b) d0 d1 d2 d3':=by
     refine⟨HE.out.2.1.1.own (fun z hz _=>hoo z hz),HE.out.2.1.2.1.own (fun z hz _=>hoo z hz),?_,HPN.out.own (fun z hz _=>hoo z hz),fun z hz=>?_,by have:=HXL.out;omega,Nat.le_refl _⟩
     ·show jy _ _ _ _ (pays (b.tick+1) b.ps b.ls).length (zab (pays (b.tick+1) b.ps b.ls))
      rw[zaj];exact HE.out.2.1.2.2.own (fun z hz _=>hoo z hz)
     ·rcases hz with hz|hz
      ·rw[hoo z (by have:=HXL.out;omega)];exact HE.out.2.2.2.1 z (Or.inl hz)
      ·rw[ho'];show(if _ then _ else _:Lb).1=_;rw[if_neg (by omega)]
    refine⟨⟨wr.heap.size,own',d0,d1,d2,d3',e0,e1,e2,e3',?_,?_⟩,?_⟩
    ·rw[HR.out]
     unfold Bk.cells zfY;simp only[zaj]
    ·rw[HR.out]
     refine BkF.low (BkF.left (S:=fun k=>k=w.heap.size+1+1) hN ?_ (fun k hk h2=>by have:=hN.out k (Or.inl (by omega));omega)) (by omega)
     iterate 7 refine hLs _ _ _ ?_
     exact Left.refl _ _
    ·have h1:w.heap.size<=w.heap.size+1+1:=by omega
     iterate 7 refine Below.setCell ?_ h1 _
     exact HBR.out
theorem zqN {ls:List Lg}{tm rs:ByteArray}(h:yH ls tm rs=true):∃q:Nat,zdf (zbh tm rs) ls=q/\∃hq:q<ls.length,ls[q].tm=tm/\ls[q].rs=rs:=by
 have h1:ls.any (zbh tm rs)=true:=h;have h2:∃x∈ls,zbh tm rs x=true:=List.any_eq_true.1 h1;have h3:=List.findIdx_lt_length.2 h2;refine⟨ls.findIdx (zbh tm rs),if_pos h1,h3,?_⟩;have h4:=List.findIdx_getElem (w:=h3);have h5:(decide (ls[ls.findIdx (zbh tm rs)].tm=tm)&&decide (ls[ls.findIdx (zbh tm rs)].rs=rs))=true:=h4;rw[Bool.and_eq_true,decide_eq_true_eq,decide_eq_true_eq]at h5;exact h5
structure zrk (b:Bk)(k:Nat)(hk:k<b.ps.length):Prop where
 pl:b.ps.length<=1000
 len:b.ls.length<=10
 rise:rising qj b.ls
 fr:∀g∈b.ls,0<=g.fr/\g.fr<=1000000000
 has:yH b.ls b.ps[k].tm b.ps[k].rs=true
 am:1<=b.ps[k].am/\b.ps[k].am<=1000000
set_option maxRecDepth 20000 in
theorem zn5 (lo:Nat)(own:Nat->Lb)(b:Bk)(k:Nat)(d0 d1 d2 d3:Option Addr)(e0 e1 e2 e3:Nat)(w:World)(hb:q8 w b d0 d1 d2 d3)(hl:jy lo w own d2 b.ls.length (zab b.ls))(hp:zbT lo w own (.slice d3 b.ps.length e3) b.ps)(hkl:k<b.ps.length)(ho:zrk b k hkl) :
 Calls Tryz.prog 24 #[.agg #[.int .i64 b.now,.int .i64 b.tick,.int .i64 b.given,.slice d0 b.os.length e0,.slice d1 b.gs.length e1,.slice d2 b.ls.length e2,.slice d3 b.ps.length e3],.int .i64 k] w fun e w'=>∃v,e=.returned (.agg #[.int .i64 b.now,.int .i64 b.tick,.int .i64 b.given,.slice d0 b.os.length e0,.slice d1 b.gs.length e1,.slice d2 b.ls.length e2,v])/\w'.ownsRow w.heap.size 65 5 v (b.ps.eraseIdx k).length ((b.ps.eraseIdx k).flatMap Pu.row)/\jy lo w' own d2 b.ls.length (zab (pay b.ls b.ps[k]))/\Left (fun q=>(own q).1=2) w w':=by
 have HO:=hid ho;have HB:=hid hb;have HL:=hid hl;have HP:=hid hp;obtain⟨q,hqi,hql,hqe⟩:=zqN ho.has;obtain⟨g,C,rfl,hlo,hgo,hC,hsz,hrow⟩:=hl.rows (by omega);have hgw:g<w.heap.size:=(gES hC).1;have hy:=hrow q hql;rw[zfi hql]at hy;have HR0:Hid (qG w g 124 C 4 q #[.string b.ls[q].tm,.string b.ls[q].rs,.int .i64 b.ls[q].mo,.int .i64 b.ls[q].fr]):=qG.new hC hy.cell;have HG:=zbJ hqe hgo hC hsz;obtain⟨pb,Cp,rfl,_⟩:=zfg hp.1 (by omega);obtain⟨pb',off,hpe,hpb,q0,q1,q2,q3,q4⟩:=hb.ps.load (bRf w.heap.size w) k hkl
 cases hpe
 rw[Nat.zero_add]at q0 q1 q2 q3 q4;have hpz:pb<w.heap.size:=(hp.1.lt pb rfl).2;have hkI:(k:Int)<(b.ps.length:Int):=by omega
 clear hb hl hp ho hlo hgo hC hsz hrow hy hqe;have k0:=znu w (.cells (bC b d0 d1 (some ⟨g,0,none⟩) (some ⟨pb,0,none⟩) e0 e1 e2 e3) 40) (.cells bZ 40) (.cells #[.string b.ps[k].dr,.string b.ps[k].tm,.string b.ps[k].rs,.int .i64 b.ps[k].am,.int .i64 b.ps[k].un] 65);have hB0:=below3' w (.cells (bC b d0 d1 (some ⟨g,0,none⟩) (some ⟨pb,0,none⟩) e0 e1 e2 e3) 40) (.cells bZ 40) (.cells #[.string b.ps[k].dr,.string b.ps[k].tm,.string b.ps[k].rs,.int .i64 b.ps[k].am,.int .i64 b.ps[k].un] 65);obtain⟨W0,hW0⟩:∃W0,W0=((w.alloc (.cells (bC b d0 d1 (some ⟨g,0,none⟩) (some ⟨pb,0,none⟩) e0 e1 e2 e3) 40)).alloc (.cells bZ 40)).alloc (.cells #[.string b.ps[k].dr,.string b.ps[k].tm,.string b.ps[k].rs,.int .i64 b.ps[k].am,.int .i64 b.ps[k].un] 65):=⟨_,rfl⟩
 have hz0:W0.heap.size=w.heap.size+1+1+1:=by rw[hW0];simp
 go_enter Tryz.func24,Tryz.ntmps24;go_wp2_with fail
 rw[<- hW0]at k0 hB0 ⊢;clear hW0 q0 q1 q2 q3 q4;refine(zdT b d0 d1 _ _ e0 e1 e2 e3 b.ps[k].tm b.ps[k].rs W0 (HB.out.mono hB0) (by have:=HO.out.len;omega)).mono ?_;rintro e w1⟨rfl,hb1⟩;rw[hqi];have hB1:=hB0.trans (hb1.mono hB0.size);have kX:=(hb1.block w.heap.size (by omega)).trans k0.1;have kR:=(hb1.block (w.heap.size+1) (by omega)).trans k0.2.1;have kP:=(hb1.block (w.heap.size+1+1) (by omega)).trans k0.2.2;have hz1:=hb1.size;have hR:qG w1.drew g 124 C 4 q #[.string b.ls[q].tm,.string b.ls[q].rs,.int .i64 b.ls[q].mo,.int .i64 b.ls[q].fr]:=HR0.out.left (Left.of_below (fun _=>False) hB1.drew) (fun h=>h);have c3:w1.drew.cell? ⟨g,q*4+3,none⟩=some (.int .i64 b.ls[q].fr):=hR.cell 3 (by omega);have fz:=fun o=>hR.fz o
 have hgd:=hR.lt;have hR2:qG (w1.drew.setCell ⟨g,q*4+3,none⟩ (.int .i64 (b.ls[q].fr+b.ps[k].am))) g 124 C 4 q #[.string b.ls[q].tm,.string b.ls[q].rs,.int .i64 b.ls[q].mo,.int .i64 (b.ls[q].fr+b.ps[k].am)]:=hR.set 3 (.int .i64 (b.ls[q].fr+b.ps[k].am)) (by omega) (by have:=HG.out.2.2.2;omega) rfl;have hbk:=HO.out.fr _ (List.getElem_mem hql);have ham:=HO.out.am;have hw2:IntKind.i64.wrap (b.ls[q].fr+b.ps[k].am)=b.ls[q].fr+b.ps[k].am:=by rw[IntKind.wrap_i64];omega
 have hqI:(q:Int)<(b.ls.length:Int):=by omega
 have hSd:(∀j,w1.drew.cell? ⟨w.heap.size,j,none⟩=((bC b d0 d1 (some ⟨g,0,none⟩) (some ⟨pb,0,none⟩) e0 e1 e2 e3):Array Value)[j]?)/\∀j,w1.drew.cell? ⟨w.heap.size+1+1,j,none⟩=(#[.string b.ps[k].dr,.string b.ps[k].tm,.string b.ps[k].rs,.int .i64 b.ps[k].am,.int .i64 b.ps[k].un]:Array Value)[j]?:=⟨fun j=>cell_of_block kX,fun j=>cell_of_block kP⟩
 have hSe:∀v:Value,(∀j,(w1.drew.setCell ⟨g,q*4+3,none⟩ v).cell? ⟨w.heap.size,j,none⟩=((bC b d0 d1 (some ⟨g,0,none⟩) (some ⟨pb,0,none⟩) e0 e1 e2 e3):Array Value)[j]?)/\∀j,(w1.drew.setCell ⟨g,q*4+3,none⟩ v).cell? ⟨w.heap.size+1+1,j,none⟩=(#[.string b.ps[k].dr,.string b.ps[k].tm,.string b.ps[k].rs,.int .i64 b.ps[k].am,.int .i64 b.ps[k].un]:Array Value)[j]?:=fun v=>⟨fun j=>(World.cell?_setCell_far _ _ _ _ (by show g≠w.heap.size;omega)).trans (hSd.1 j),fun j=>(World.cell?_setCell_far _ _ _ _ (by show g≠w.heap.size+1+1;omega)).trans (hSd.2 j)⟩
 have HE:Hid (jy lo (w1.drew.setCell ⟨g,q*4+3,none⟩ (.int .i64 (b.ls[q].fr+b.ps[k].am))) own (some ⟨g,0,none⟩) b.ls.length (zab (pay b.ls b.ps[k]))/\Left (fun q=>(own q).1=2) w (w1.drew.setCell ⟨g,q*4+3,none⟩ (.int .i64 (b.ls[q].fr+b.ps[k].am)))/\((w1.drew.setCell ⟨g,q*4+3,none⟩ (.int .i64 (b.ls[q].fr+b.ps[k].am)))).heap[w.heap.size]?=some (.cells (bC b d0 d1 (some ⟨g,0,none⟩) (some ⟨pb,0,none⟩) e0 e1 e2 e3) 40)/\((w1.drew.setCell ⟨g,q*4+3,none⟩ (.int .i64 (b.ls[q].fr+b.ps[k].am)))).heap[w.heap.size+1]?=some (.cells bZ 40)/\((w1.drew.setCell ⟨g,q*4+3,none⟩ (.int .i64 (b.ls[q].fr+b.ps[k].am)))).heap.size=w1.heap.size):=by
  refine⟨HL.out.py HO.out.rise hql HG.out.1 rfl HG.out.2.2.1 hR2,((Left.of_below _ hB1).trans (Left.of_below _ (bRf _ _).drew)).set (by rw[HG.out.2.1]) _ _,(zG (by omega)).trans kX,(zG (by omega)).trans kR,World.size_setCell _ _ _⟩
 clear hb1 hB0 hB1 k0 kX kR kP hR hR2 hbk ham hqi HB HL HR0;go_wp2_with fail
 refine zbO (fun A A' w'=>∃u18 u19 u20 u21 u22 u23 u24 u25 u26 u27 u28 u29 u30 u31,A'=((((((((((((((A.put (some 18) u18).put (some 19) u19).put (some 20) u20).put (some 21) u21).put (some 22) u22).put (some 23) u23).put (some 24) u24).put (some 25) u25).put (some 26) u26).put (some 27) u27).put (some 28) u28).put (some 29) u29).put (some 30) u30).put (some 31) u31)/\w'=(w1.drew.setCell ⟨g,q*4+3,none⟩ (.int .i64 (b.ls[q].fr+b.ps[k].am)))) ?_ ?_
 ·refine wp_region_held_drew (S:=fun w'=>(∀j,w'.cell? ⟨w.heap.size,j,none⟩=((bC b d0 d1 (some ⟨g,0,none⟩) (some ⟨pb,0,none⟩) e0 e1 e2 e3):Array Value)[j]?)/\∀j,w'.cell? ⟨w.heap.size+1+1,j,none⟩=(#[.string b.ps[k].dr,.string b.ps[k].tm,.string b.ps[k].rs,.int .i64 b.ps[k].am,.int .i64 b.ps[k].un]:Array Value)[j]?) (by kernel_rfl) hSd (fun H_=>?_)
  refine tG 0 ?_ (hQ:=fun _ _ _ h=>by cases h.1);refine tG 1 ?_ (hQ:=fun _ _ _ h=>by cases h.1);refine tG 2 ?_ (hQ:=fun _ _ _ h=>by cases h.1);refine tG 3 ?_ (hQ:=fun _ _ _ h=>by cases h.1);refine tG 4 ?_ (hQ:=fun _ _ _ h=>by cases h.1);refine tG 5 ?_ (hQ:=fun _ _ _ h=>by cases h.1);refine tG 6 ?_ (hQ:=fun _ _ _ h=>by cases h.1);refine tG 7 ?_ (hQ:=fun _ _ _ h=>by cases h.1);refine tG 9 ?_ (hQ:=fun _ _ _ h=>by cases h.1);refine tG 10 ?_ (hQ:=fun _ _ _ h=>by cases h.1);refine cH 8 rfl fun K hK=>?_
  go_simp
  refine hK.out _ _ hSd (fun H_=>?_);clear hK K
  (try simp only[Act.put,sA,s0,sS])
  refine tG 11 ?_ (hQ:=fun _ _ _ h=>by cases h.1);refine tG 12 ?_ (hQ:=fun _ _ _ h=>by cases h.1);refine tG 13 ?_ (hQ:=fun _ _ _ h=>by cases h.1);refine cH 14 rfl fun K hK=>?_
  go_simp
  refine hK.out _ _ (hSe _) (fun H_=>?_);clear hK K
  (try simp only[Act.put,sA,s0,sS])
  refine wpAnyH_done (by kernel_rfl) ?_ _;exact⟨rfl,_,_,_,_,_,_,_,_,_,_,_,_,_,_,rfl,rfl⟩
 ·rintro A' w'⟨u18,u19,u20,u21,u22,u23,u24,u25,u26,u27,u28,u29,u30,u31,rfl,rfl⟩
  generalize (w1.drew.setCell ⟨g,q*4+3,none⟩ (.int .i64 (b.ls[q].fr+b.ps[k].am)))=W3 at *
  clear c3 fz hgd hSd hSe hw2
  (try simp only[Act.put,sA,s0,sS])
  have cX:=fun j=>cell_of_block (o:=j) HE.out.2.2.1
  have hz3:w.heap.size<W3.heap.size:=by have:=HE.out.2.2.2.2;omega
  have hrW:=(HP.out.left HE.out.2.1 (fun z h1 h2=>by omega)).1;go_wp2_with fail
  refine(zpg lo pb e3 k b.ps W3 hrW hkl HO.out.pl).mono ?_;rintro e w4⟨v,rfl,ho4,hb4⟩;obtain⟨va,vc,rfl⟩:=q9 ho4;have kX4:=(hb4.block w.heap.size hz3).trans HE.out.2.2.1;have hz1:w.heap.size+1<W3.heap.size:=(gES HE.out.2.2.2.1).1;have kR4:=(hb4.block (w.heap.size+1) hz1).trans HE.out.2.2.2.1;have HE4:=qE ho4 hb4;have hz4:=nLt hz3 hb4.size;have hz5:=nLt hz1 hb4.size;clear cX hrW ho4 hb4;have cX:=fun j=>cell_of_block (o:=j) kX4
  have fX:=fun j=>zh (o:=j) kX4
  have cR:=fun j=>cell_of_block (o:=j) kR4
  have fR:=fun j=>zh (o:=j) kR4
  clear kX4 kR4;go_wp2_with fail
  refine bodyPost_ret (v:=.agg #[.int .i64 b.now,.int .i64 b.tick,.int .i64 b.given,.slice d0 b.os.length e0,.slice d1 b.gs.length e1,.slice (some ⟨g,0,none⟩) b.ls.length e2,(.slice va (k+(b.ps.length-(k+1))) vc)]) (by simp[results,Tryz.results24,go_sem,cR]) rfl ?_;have hLs:∀(W:World) (z o:Nat) (v:Value),(z=w.heap.size \/ z=w.heap.size+1)->Left (fun k=>k=w.heap.size \/ k=w.heap.size+1) w4 W->Left (fun k=>k=w.heap.size \/ k=w.heap.size+1) w4 (W.setCell ⟨z,o,none⟩ v):=fun W z o v hz h=>h.set hz o v
  have hfin:∀W,Left (fun k=>k=w.heap.size \/ k=w.heap.size+1) w4 W->W.ownsRow w.heap.size 65 5 (.slice va (k+(b.ps.length-(k+1))) vc) (b.ps.eraseIdx k).length ((b.ps.eraseIdx k).flatMap Pu.row)/\jy lo W own (some ⟨g,0,none⟩) b.ls.length (zab (pay b.ls b.ps[k]))/\Left (fun q=>(own q).1=2) w W:=fun W hW=>by
   have e1:b.ps.eraseIdx k=b.ps.take k++b.ps.drop (k+1):=List.eraseIdx_eq_take_drop_succ ..;refine⟨?_,?_,?_⟩
   ·rw[e1,List.flatMap_append,List.length_append,List.length_take,List.length_drop,Nat.min_eq_left (by omega)]
    refine zi3 (qP HE4.out.1 (fun z hz=>hW.out z (HE4.out.1.lt z hz).2 (fun h2=>by have:=(HE4.out.1.lt z hz).1;omega))) (by omega)
   ·have h1:=HE.out.1.mono HE4.out.2
    refine⟨fun hn=>?_⟩;obtain⟨g2,C2,h2,h3,h4,h5,h6,h7⟩:=h1.rows hn
    cases h2
    exact⟨g,C2,rfl,h3,h4,(hW.out g (gES h5).1 (by omega)).trans h5,h6,h7⟩
   ·have h1:=HE.out.2.1.trans (Left.of_below _ HE4.out.2)
    exact⟨hW.os.trans h1.os,hW.tape.trans h1.tape,hW.output.trans h1.output,Nat.le_trans h1.size hW.size,fun z hz hn=>(hW.out z (nLt hz h1.size) (by omega)).trans (h1.out z hz hn)⟩
  refine⟨(.slice va (k+(b.ps.length-(k+1))) vc),rfl,hfin _ ?_⟩
  iterate 7 refine hLs _ _ _ _ (Or.inr rfl) ?_
  refine hLs _ _ _ _ (Or.inl rfl) ?_;exact Left.refl _ _
end Go.Proofs.YtkficnallnpjnaaGreat
