import Derived.Test.YtjnpjkigofldlaaGreatM45
set_option maxRecDepth 100000
set_option maxHeartbeats 40000000
namespace Go.Proofs.YtjnpjkigofldlaaGreat
open Go.RowKit Go.Shelf
attribute [local go_sem] Oper.semAt_some
def zeQ (f:BA->BA->Option Int)(xs:List Lk):Bool:=xs.any fun x=>decide (x.rl=3)&&(f x.to x.nm).isSome
theorem KeepsOthers.of_below {W W':World}(h:Bw W W'):KeepsOthers W W':=⟨h.size,fun k _ hk _=>(h.block k (gES hk).1).trans hk⟩
theorem zpM (l:Lw)(a b c:OA)(ca cb cc:Nat)(r:Nat)(f:BA->BA->Option Int)(o:Ob)(va ha:OA)(cap cap':Nat)(w:World)(hL:qp w l a b c)(hM:zH w r f)(ho:qY w o va ha)(hc:o.vs.length=(shapeOf l.ss o.kd).fs.length) :
 Calls Tryz.prog 84 #[.agg (lC l a b c ca cb cc),.agg (oC o va ha cap cap'),.map (some r)] w
  fun e w'=>e=.returned (.bool (zeQ f (yt (shapeOf l.ss o.kd).fs o.vs (shapeOf l.ss o.kd).fs.length)))/\Bw w w':=by
 have HH:Hid (qp w l a b c/\zH w r f/\qY w o va ha/\o.vs.length=(shapeOf l.ss o.kd).fs.length):=⟨hL,hM,ho,hc⟩
 clear hL hM ho hc;refine(callsIn_wide (n:=6)).1 ?_;refine callsIn_of_wp_marks Tryz.func84 rfl trivial ?_ rfl;simp only[Tryz.ntmps84,List.size_toArray,List.length_cons,List.length_nil,Nat.reduceAdd,Nat.reduceSub,Array.replicate_succ,Array.replicate_zero,List.push_toArray,List.append_toArray,List.nil_append,List.cons_append]
 gi_wp2_with fail
 refine⟨trivial,?_⟩;have hb4:Bw w ((((w.alloc (.cells (lC l a b c ca cb cc) 47)).alloc (.cells (oC o va ha cap cap') 116)).alloc (.cells #[.map (some r)] 143)).alloc (.cells #[.bool false] 4)):=(jc _ _ _ _).alloc (by simp;omega) _;have hbR:=Boxed.new (((w.alloc (.cells (lC l a b c ca cb cc) 47)).alloc (.cells (oC o va ha cap cap') 116)).alloc (.cells #[.map (some r)] 143)) 4 (.bool false);have hbP:=(Boxed.new ((w.alloc (.cells (lC l a b c ca cb cc) 47)).alloc (.cells (oC o va ha cap cap') 116)) 143 (.map (some r))).alloc (.cells #[.bool false] 4);simp only[World.size_alloc]at hbR hbP;obtain⟨w4,hw4⟩:=xN (((((w.alloc (.cells (lC l a b c ca cb cc) 47)).alloc (.cells (oC o va ha cap cap') 116)).alloc (.cells #[.map (some r)] 143)).alloc (.cells #[.bool false] 4)));rw[<- hw4]at hb4 hbR hbP ⊢;clear hw4;refine(callsIn_wide.2 (zfr l a b c ca cb cc o va ha cap cap' w4 (HH.o.1.mono hb4))).mono ?_;rintro e W0⟨Bs,Bo,fa,fcap,rfl,hBs,hBo,hfl,hXs,hXo,hb1⟩;have bR:Boxed W0 (w.heap.size+1+1+1) 4 (.bool false):=(hb1.block _ hbR.lt).trans hbR;have bP:Boxed W0 (w.heap.size+1+1) 143 (.map (some r)):=(hb1.block _ hbP.lt).trans hbP;have HB0:Hid (Bw w W0):=hb4.trans (hb1.mono hb4.size);have hN:w.heap.size<=W0.heap.size:=HB0.o.size;have HO0:Hid (zD W0 va o.vs):=HH.o.2.2.1.vals.mono HB0.o;clear hb1 hb4 hbR hbP
 gi_wp2_with fail
 refine wpIn_rangeFunc_ownH rfl (by omega) (gf:=197) (lb:=#[.pointer (some (aD Bs 0)),.pointer (some (aD Bo 0))]) rfl trivial (enters_of Tryz.func197 (by kernel_rfl) rfl)
  (zi2 5 (by omega) Bs Bo (shapeOf l.ss o.kd).kd (shapeOf l.ss o.kd).fs fa fcap o va ha cap cap' W0 hBs hBo hXs hXo hfl HO0.o HH.o.2.2.2) belowK_t (belowK_b (Nat.le_refl _)) (bRf _ _) (fun _=>rfl)
  (fun pre W=>(∀x∈pre,(decide (x.rl=3)&&(f x.to x.nm).isSome)=false)/\Bw W0 W)
  (fun cd pre W=>((cd=.ret/\∃x∈pre,(decide (x.rl=3)&&(f x.to x.nm).isSome)=true)/\Boxed W (w.heap.size+1+1+1) 4 (.bool true))/\Bw w W)
  (OwnFrom.and (ownFrom_pure _ _) (ownFrom_below (Nat.le_refl _) (Nat.le_refl _)))
  (fun cd=>OwnFrom.and (OwnFrom.and (ownFrom_pure _ _) (Own.from (boxed_own _ _ _) _)) (ownFrom_below (Nat.le_refl _) hN))
  ⟨by simp,bRf _ _⟩
  (fun x a' W=>∃Bx,W.heap[Bx]?=some (.cells #[.i x.pl,.i x.rl,.s x.to,.s x.nm] 200)/\a'={ tmps:=#[.agg (lC l a b c ca cb cc),.agg (oC o va ha cap cap'),.map (some r),.pointer (some (aD w.heap.size 0)),.pointer (some (aD (w.heap.size+1) 0)),.pointer (some (aD (w.heap.size+1+1) 0)),.pointer (some (aD (w.heap.size+1+1+1) 0)),.pointer (some (aD Bx 0)),.agg (lC l a b c ca cb cc),.agg (oC o va ha cap cap'),.func (.func 197) #[] #[.pointer (some (aD Bs 0)),.pointer (some (aD Bo 0))],.agg #[.i x.pl,.i x.rl,.s x.to,.s x.nm],undef,undef,undef,undef,undef,undef,undef,undef,undef],defers:=[] })
  (fun x a' _ X Y row hs hg hr=>by
   obtain⟨Bx,e1,e2⟩:=hs;refine⟨Bx,(hg.block Bx (gES e1).1 (fun e=>?_)).trans e1,e2⟩;obtain⟨_,ob,h1,h2⟩:=hr Bx e.symm;rw[e1]at h1
   cases h1
   cases h2)
  ?assign ?body ?done ?stop
 case assign=>
  rintro l' pre x W K⟨hp,hB1⟩ hK;unfold Lk.enc
  gi_wp2
  exact hK _ _ ((KeepsOthers.alloc _ _).from _) ((bRf _ W).alloc hB1.size _) ⟨hp,hB1.alloc hB1.size _⟩ ⟨W.heap.size,World.alloc_heap_new W _,rfl⟩
 case body=>
  rintro l' pre x a' W hl⟨rr,hr⟩ ⟨hp,hB1⟩ ⟨Bx,hBx,rfl⟩ hlt;have cX:=yP hBx;have bP1:Boxed W (w.heap.size+1+1) 143 (.map (some r)):=(hB1.block _ bP.lt).trans bP;have cP:=bP1.cell;have bR1:Boxed W (w.heap.size+1+1+1) 4 (.bool false):=(hB1.block _ bR.lt).trans bR;have cR:=bR1.cell;have fR:=bR1.frozen;have HB2:Hid (Bw W0 W):=hB1;have HP:Hid (∀x∈pre,(decide (x.rl=3)&&(f x.to x.nm).isSome)=false):=hp;have HR1:Hid (Boxed W (w.heap.size+1+1+1) 4 (.bool false)):=bR1;have HPm:Hid (zH W r f):=HH.o.2.1.mono (HB0.o.trans (hB1.mono HB0.o.size));clear hp hB1 bR1
  by_cases h3:x.rl=3
  rotate_left
  ·have hd:decide (x.rl=3)=false:=decide_eq_false h3
   have hd2:(x.rl == 3)=false:=by simpa using h3
   have HN:Hid ((decide (x.rl=3)&&(f x.to x.nm).isSome)=false):=by rw[Hid,hd];rfl
   clear h3
   gi_wp2
   refine⟨trivial,?_⟩
   gi_wp2
   exact⟨KeepsFrom.refl _ _,bRf _ _,fun z hz=>(List.mem_append.1 hz).elim (HP.o z) (fun e=>by simp at e;subst e;exact HN.o),HB2.o⟩
  ·have HE3:Hid (x.rl=3):=h3
   rw[h3]at cX
   gi_wp2_with fail
   refine⟨trivial,?_⟩;refine(callsIn_wide.2 (zeD r f x.to x.nm W HPm.o x.hto x.hnm)).mono ?_;rintro e W1⟨rfl,hb⟩;have bR2:Boxed W1 (w.heap.size+1+1+1) 4 (.bool false):=(hb.block _ HR1.o.lt).trans HR1.o;have cR2:=bR2.cell;have fR2:=bR2.frozen;have HR2:Hid (Boxed W1 (w.heap.size+1+1+1) 4 (.bool false)):=bR2;have HBb:Hid (Bw W W1):=hb;clear cR fR cX cP bP1 hb bR2
   cases hq:(f x.to x.nm).isSome with
   | true=>
    have HY:Hid ((decide (x.rl=3)&&(f x.to x.nm).isSome)=true):=by rw[Hid,HE3.o,hq];rfl
    gi_wp2
    exact⟨((KeepsOthers.of_below HBb.o).trans (KeepsOthers.setCell _ _ _)).from _,⟨⟨rfl,x,List.mem_append.2 (.inr (by simp)),HY.o⟩,HR2.o.set _⟩,(HB0.o.trans ((HB2.o.trans (HBb.o.mono HB2.o.size)).mono hN)).setCell (p:=(aD ((w.heap.size+1+1+1)) 0)) (by show w.heap.size<=(w.heap.size+1+1+1);omega) _⟩
   | false=>
    have HY:Hid ((decide (x.rl=3)&&(f x.to x.nm).isSome)=false):=by rw[Hid,hq];simp
    gi_wp2
    exact⟨(KeepsOthers.of_below HBb.o).from _,HBb.o.mono HB2.o.size,fun z hz=>(List.mem_append.1 hz).elim (HP.o z) (fun e=>by simp at e;subst e;exact HY.o),HB2.o.trans (HBb.o.mono HB2.o.size)⟩
 case done=>
  rintro D ys W hD rfl⟨hp,hB1⟩ hK;have bR1:Boxed W (w.heap.size+1+1+1) 4 (.bool false):=(hB1.block _ bR.lt).trans bR;have cR:=bR1.cell;have fR:=bR1.frozen
  gi_wp2
  have hK':=(KeepsOthers.setCell W (aD ((w.heap.size+1+1+1)) 0) (.bool false)).same D _ hK rfl;refine⟨by simp,.inl ⟨_,_,rfl,run_takeDeferred hK',?_⟩⟩;have hc5:=cell_kept (World.cell?_setCell_same' W (aD ((w.heap.size+1+1+1)) 0) (.bool false) (by rw[cR];rfl)) (grownBy_putObj' _ D (.deferred none)) (fun r e=>by cases e;exact⟨_,hK',rfl⟩)
  have hall:zeQ f (yt (shapeOf l.ss o.kd).fs o.vs (shapeOf l.ss o.kd).fs.length)=false:=by
   unfold zeQ;rw[List.any_eq_false];exact fun x hx=>by rw[hp x hx];simp
  refine⟨.bool false,?_,by rw[hall],((HB0.o.trans (hB1.mono hN)).setCell (p:=(aD ((w.heap.size+1+1+1)) 0)) (by show w.heap.size<=(w.heap.size+1+1+1);omega) _).trans (belowK_b (w:=w) (Nat.le_refl _) _ D _ _ (by omega) hK' rfl rfl)⟩
  simp[results,Tryz.results84,go_sem,hc5]
 case stop=>
  rintro D cd pre W hD hpre⟨⟨⟨rfl,x,hx,hq⟩,bR1⟩,hB⟩ hK
  gi_wp2
  refine⟨by simp,.inl ⟨_,_,rfl,run_takeDeferred hK,?_⟩⟩;have hc5:=cell_kept bR1.cell (grownBy_putObj' _ D (.deferred none)) (fun r e=>by cases e;exact⟨_,hK,rfl⟩)
  have hno:zeQ f (yt (shapeOf l.ss o.kd).fs o.vs (shapeOf l.ss o.kd).fs.length)=true:=by
   unfold zeQ;rw[List.any_eq_true];exact⟨x,hpre.subset hx,hq⟩
  refine⟨.bool true,?_,by rw[hno],hB.trans (belowK_b (w:=w) (Nat.le_refl _) W D _ _ (by omega) hK rfl rfl)⟩
  simp[results,Tryz.results84,go_sem,hc5]
end Go.Proofs.YtjnpjkigofldlaaGreat
namespace Go.Proofs.YtjnpjkigofldlaaGreat
open Go.RowKit
variable {b:Bk}{l:Lw}{o p:Ob}{os:List Ob}{hi k lo m:Nat}{role:Int}{fs:List Fld}{w w':World}{a0 a1 a2 a3:OA}
noncomputable def zaz (l:Lw)(b:Bk):Bool:=zaj b&&(zM l b&&(yK b&&(yQ l.ts b&&(yV b&&zcV l b))))
noncomputable def qG (l:Lw)(b:Bk):Bool:=zcv l&&zaz l b
theorem zcj {ts:List Tm}(h:yQ ts b=true):rising qz b.ls/\b.ls.length<=10/\∀i (hi:i<b.ls.length),yH ts b.ls[i]=true:=by
 unfold yQ at h;simp only[Bool.and_eq_true,decide_eq_true_eq]at h;exact⟨(zkg _ _).1 h.2.1,h.1,fun i hi=>List.all_eq_true.1 h.2.2 _ (List.getElem_mem _)⟩
theorem zht (h:zaj b=true):0<=b.tick/\b.tick<=1000000:=by
 unfold zaj within at h;simp only[Bool.and_eq_true,decide_eq_true_eq]at h;exact h.2.1
theorem zhJ (h:yV b=true):b.ps.length<=24/\∀i (hi:i<b.ps.length),yT b.ls b.tick b.ps[i]=true:=by
 unfold yV at h;simp only[Bool.and_eq_true,decide_eq_true_eq]at h;exact⟨h.1,fun i hi=>List.all_eq_true.1 h.2.2 _ (List.getElem_mem _)⟩
theorem zqY (h:rising qz b.ls):∀i j (hi:i<b.ls.length) (hj:j<b.ls.length),b.ls[i].tm=b.ls[j].tm->b.ls[i].rs=b.ls[j].rs->i=j:=by
 intro i j hi hj e1 e2
 have hz:∀i j (hi:i<b.ls.length) (hj:j<b.ls.length),i<j->b.ls[i].tm=b.ls[j].tm->b.ls[i].rs=b.ls[j].rs->False:=by
  intro i j hi hj hlt e1 e2;have h1:=zcS (fun a b c=>zbs (a:=a) (b:=b) (c:=c)) h j hj i hlt;have h2:qz b.ls[i] b.ls[j]=0:=by unfold qz;rw[zfX];exact⟨e1,e2⟩
  omega
 rcases Nat.lt_trichotomy i j with h1|h1|h1
 ·exact(hz i j hi hj h1 e1 e2).elim
 ·exact h1
 ·exact(hz j i hj hi h1 e1.symm e2.symm).elim
theorem zs5 {ts:List Tm}(h:yQ ts b=true)(h':yV b=true)(hz:qK b.os<=1048576):zj7 b:=by
 obtain⟨h1,h2,h3⟩:=zcj h;obtain⟨p1,p2⟩:=zhJ h';refine⟨zqY h1,fun k hk=>?_,fun i hi=>?_,fun i hi=>?_,by omega,by omega,hz⟩
 ·have h4:=p2 k hk
  unfold yT jA at h4;simp only[Bool.and_eq_true]at h4;obtain⟨g,hg,h5⟩:=List.any_eq_true.1 h4.1;obtain⟨j,hj,rfl⟩:=List.mem_iff_getElem.1 hg;simp only[Bool.and_eq_true,decide_eq_true_eq]at h5;exact⟨j,hj,h5.1,h5.2⟩
 ·have h4:=h3 i hi
  unfold yH jO at h4;simp only[Bool.and_eq_true,decide_eq_true_eq]at h4;omega
 ·have h4:=p2 i hi
  unfold yT within at h4;simp only[Bool.and_eq_true,decide_eq_true_eq]at h4;omega
theorem zqt (l:Lw)(la lb lc:OA)(lca lcb lcc:Nat)(b:Bk)(a0 a1 a2 a3:OA)(c0 c1 c2 c3:Nat)(w:World)(hb:qj w b a0 a1 a2 a3)(hl:qp w l la lb lc)(hml:l.ms.length<=1048576)(hok:yj l.ss l.ms=true)(hfw:∀i (h:i<b.os.length),b.os[i].vs.length<=1048576/\b.os[i].hs.length<=1048576)(hz:qK b.os<=1048576) :
 Calls Tryz.prog 82 #[.agg (lC l la lb lc lca lcb lcc),.agg (bC b a0 a1 a2 a3 c0 c1 c2 c3)] w fun e w'=>e=.returned (.bool (zaz l b))/\Bw w w':=by
 have HK:=hid hb;have HL:=hid hl;have HF:Hid (l.ms.length<=1048576/\yj l.ss l.ms=true/\(∀i (h:i<b.os.length),b.os[i].vs.length<=1048576/\b.os[i].hs.length<=1048576)/\qK b.os<=1048576):=⟨hml,hok,hfw,hz⟩
 clear hb hl hml hok hfw hz;go_in;go_wp2_with fail
 obtain⟨hL0,hX0⟩:=qB w (lC l la lb lc lca lcb lcc) (bC b a0 a1 a2 a3 c0 c1 c2 c3) 47 40;have HBi:Hid (Bw w ((w.alloc (.cells (lC l la lb lc lca lcb lcc) 47)).alloc (.cells (bC b a0 a1 a2 a3 c0 c1 c2 c3) 40))):=zo w _ _;obtain⟨W0,hW0⟩:=xN ((w.alloc (.cells (lC l la lb lc lca lcb lcc) 47)).alloc (.cells (bC b a0 a1 a2 a3 c0 c1 c2 c3) 40));have hz0:w.heap.size+1<W0.heap.size:=by rw[hW0];simp
 rw[<- hW0]at HBi hX0 hL0 ⊢;clear hW0;refine(zlN b a0 a1 a2 a3 c0 c1 c2 c3 _).mono ?_;rintro e w1⟨rfl,hb0⟩;have hX1:=za hX0 hz0 hb0;have hL1:=za hL0 (nSl hz0) hb0;have hz1:=nLt hz0 hb0.size;have hy1:=nSl hz1;have HBi:=hid (HBi.o.trans (hb0.mono HBi.o.size));clear hb0 hX0 hL0 hz0
 by_cases t:zaj b=true
 rotate_left
 ·have HN:Hid (zaz l b=false):=by unfold Hid zaz;rw[bFi t];rfl
  rw[bFi t];clear t;go_wp2
  go_ret;exact⟨ze HN.o.symm,HBi.o⟩
 have HT0:=hid t;rw[t];clear t;go_wp2_with fail
 refine(zk3 l la lb lc lca lcb lcc b a0 a1 a2 a3 c0 c1 c2 c3 _ (HK.o.mono HBi.o) (HL.o.mono HBi.o) HF.o.1 HF.o.2.1 HF.o.2.2.1).mono ?_;rintro e w2⟨rfl,hb1⟩;have hX2:=za hX1 hz1 hb1;have hL2:=za hL1 (nSl hz1) hb1;have hz2:=nLt hz1 hb1.size;have hy2:=nSl hz2;have HBi:=hid (HBi.o.trans (hb1.mono HBi.o.size));clear hb1 hX1 hL1 hz1 hy1
 by_cases t:zM l b=true
 rotate_left
 ·have HN:Hid (zaz l b=false):=by unfold Hid zaz;rw[HT0.o,bFi t];rfl
  rw[bFi t];clear t;go_wp2
  go_ret;exact⟨ze HN.o.symm,HBi.o⟩
 have HT1:=hid t;rw[t];clear t;go_wp2_with fail
 refine(zmm b a0 a1 a2 a3 c0 c1 c2 c3 _ (HK.o.mono HBi.o)).mono ?_;rintro e w3⟨rfl,hb2⟩;have hX3:=za hX2 hz2 hb2;have hL3:=za hL2 (nSl hz2) hb2;have hz3:=nLt hz2 hb2.size;have hy3:=nSl hz3;have HBi:=hid (HBi.o.trans (hb2.mono HBi.o.size));clear hb2 hX2 hL2 hz2 hy2
 by_cases t:yK b=true
 rotate_left
 ·have HN:Hid (zaz l b=false):=by unfold Hid zaz;rw[HT0.o,HT1.o,bFi t];rfl
  rw[bFi t];clear t;go_wp2
  go_ret;exact⟨ze HN.o.symm,HBi.o⟩
 have HT2:=hid t;rw[t];clear t;go_wp2_with fail
 refine(zlb l la lb lc lca lcb lcc b a0 a1 a2 a3 c0 c1 c2 c3 _ (HK.o.mono HBi.o) (HL.o.mono HBi.o)).mono ?_;rintro e w4⟨rfl,hb3⟩;have hX4:=za hX3 hz3 hb3;have hL4:=za hL3 (nSl hz3) hb3;have hz4:=nLt hz3 hb3.size;have hy4:=nSl hz4;have HBi:=hid (HBi.o.trans (hb3.mono HBi.o.size));clear hb3 hX3 hL3 hz3 hy3
 by_cases t:yQ l.ts b=true
 rotate_left
 ·have HN:Hid (zaz l b=false):=by unfold Hid zaz;rw[HT0.o,HT1.o,HT2.o,bFi t];rfl
  rw[bFi t];clear t;go_wp2
  go_ret;exact⟨ze HN.o.symm,HBi.o⟩
 have HT3:=hid t;rw[t];clear t;go_wp2_with fail
 refine(zlV b a0 a1 a2 a3 c0 c1 c2 c3 _ (HK.o.mono HBi.o) (zcj HT3.o).1 (zcj HT3.o).2.1 (zht HT0.o)).mono ?_;rintro e w5⟨rfl,hb4⟩;have hX5:=za hX4 hz4 hb4;have hL5:=za hL4 (nSl hz4) hb4;have hz5:=nLt hz4 hb4.size;have hy5:=nSl hz5;have HBi:=hid (HBi.o.trans (hb4.mono HBi.o.size));clear hb4 hX4 hL4 hz4 hy4
 by_cases t:yV b=true
 rotate_left
 ·have HN:Hid (zaz l b=false):=by unfold Hid zaz;rw[HT0.o,HT1.o,HT2.o,HT3.o,bFi t];rfl
  rw[bFi t];clear t;go_wp2
  go_ret;exact⟨ze HN.o.symm,HBi.o⟩
 have HT4:=hid t;rw[t];clear t;go_wp2_with fail
 refine(zpY l la lb lc lca lcb lcc b a0 a1 a2 a3 c0 c1 c2 c3 _ (HL.o.mono HBi.o) (HK.o.mono HBi.o) (zs5 HT3.o HT4.o HF.o.2.2.2)).mono ?_;rintro e w6⟨rfl,hb5⟩;have HBe:=hid (HBi.o.trans (hb5.mono HBi.o.size));have HN:Hid (zcV l b=zaz l b):=by unfold Hid zaz;rw[HT0.o,HT1.o,HT2.o,HT3.o,HT4.o];rfl
 rw[HN.o];clear hb5 hX5 hL5 hz5 hy5;go_wp2
 go_ret;exact⟨rfl,HBe.o⟩
theorem zkV (l:Lw)(la lb lc:OA)(lca lcb lcc:Nat)(b:Bk)(a0 a1 a2 a3:OA)(c0 c1 c2 c3:Nat)(w:World)(hl:qp w l la lb lc)(hb:qj w b a0 a1 a2 a3)(hlf:l.Few)(hbf:b.Few)(hz:qK b.os<=1048576) :
 Calls Tryz.prog 32 #[.agg (l.cells la lb lc lca lcb lcc),.agg (b.cells a0 a1 a2 a3 c0 c1 c2 c3)] w fun e w'=>e=.returned (.bool (qG l b))/\Bw w w':=by
 have HK:=hid hb;have HL:=hid hl;have HF:Hid (l.Few/\b.Few/\qK b.os<=1048576):=⟨hlf,hbf,hz⟩
 clear hb hl hlf hbf hz;unfold Lw.cells Bk.cells;go_in;go_wp2_with fail
 obtain⟨hL0,hX0⟩:=qB w (lC l la lb lc lca lcb lcc) (bC b a0 a1 a2 a3 c0 c1 c2 c3) 47 40;have HBi:Hid (Bw w ((w.alloc (.cells (lC l la lb lc lca lcb lcc) 47)).alloc (.cells (bC b a0 a1 a2 a3 c0 c1 c2 c3) 40))):=zo w _ _;obtain⟨W0,hW0⟩:=xN ((w.alloc (.cells (lC l la lb lc lca lcb lcc) 47)).alloc (.cells (bC b a0 a1 a2 a3 c0 c1 c2 c3) 40));have hz0:w.heap.size+1<W0.heap.size:=by rw[hW0];simp
 rw[<- hW0]at HBi hX0 hL0 ⊢;clear hW0;refine(zmo l la lb lc lca lcb lcc _ (HL.o.mono HBi.o) HF.o.1).mono ?_;rintro e w1⟨rfl,hb0⟩;have hX1:=za hX0 hz0 hb0;have hL1:=za hL0 (nSl hz0) hb0;have hz1:=nLt hz0 hb0.size;have hy1:=nSl hz1;have HBi:=hid (HBi.o.trans (hb0.mono HBi.o.size));clear hb0 hX0 hL0 hz0
 by_cases t:zcv l=true
 rotate_left
 ·have HN:Hid (qG l b=false):=by unfold Hid qG;rw[bFi t];rfl
  rw[bFi t];clear t;go_wp2
  go_ret;exact⟨ze HN.o.symm,HBi.o⟩
 have HN:Hid (zaz l b=qG l b):=by unfold Hid qG;rw[t];rfl
 have HM:Hid (yj l.ss l.ms=true):=by unfold zcv at t;simp only[Bool.and_eq_true]at t;exact t.1
 rw[t];clear t;go_wp2_with fail
 refine(zqt l la lb lc lca lcb lcc b a0 a1 a2 a3 c0 c1 c2 c3 _ (HK.o.mono HBi.o) (HL.o.mono HBi.o) HF.o.1.ms HM.o HF.o.2.1.os.2 HF.o.2.2).mono ?_;rintro e w2⟨rfl,hb1⟩;have HBe:=hid (HBi.o.trans (hb1.mono HBi.o.size));rw[HN.o];clear hb1 hX1 hL1 hz1 hy1;go_wp2
 go_ret;exact⟨rfl,HBe.o⟩
theorem znS (hok:yj l.ss l.ms=true)(h:yL l b o=true):o.vs.length=(shapeOf l.ss o.kd).fs.length:=by
 unfold yL zaX at h;simp only[Bool.and_eq_true,decide_eq_true_eq]at h;exact(zb4 (zay hok h.2.2.1.1)).1
theorem zdM (hok:yj l.ss l.ms=true)(h:zM l b=true):b.os.length<=40/\∀k (h:k<b.os.length),zq l.ss b.os[k]=true:=by
 unfold zM at h;simp only[Bool.and_eq_true,decide_eq_true_eq]at h;refine⟨h.1,fun k hk=>?_⟩;have h2:=List.all_eq_true.1 h.2.2 _ (List.getElem_mem hk);unfold yL zaX at h2;simp only[Bool.and_eq_true,decide_eq_true_eq]at h2;have h3:=zay hok h2.2.2.1.1;unfold qJ at h3;unfold zq;simp only[Bool.and_eq_true,decide_eq_true_eq]at h3 ⊢;exact⟨h3.1,h3.2.1⟩
theorem book_facts (h:qG l b=true):yj l.ss l.ms=true/\zM l b=true:=by
 unfold qG zaz zcv at h;simp only[Bool.and_eq_true]at h;exact⟨h.1.1,h.2.2.1⟩
noncomputable def zcd (l:Lw)(os:List Ob)(o:Ob):Bool:=(yt (shapeOf l.ss o.kd).fs o.vs (shapeOf l.ss o.kd).fs.length).any fun x=>decide (x.rl=3)&&os.any fun p=>p.en&&jC x.to x.nm p
noncomputable def zbW (l:Lw)(os:List Ob)(k:Nat):List Int:=if h:k<os.length then (if (!os[k].en&&zcd l os os[k])=true then [(k:Int)] else []) else []
noncomputable def yN (l:Lw)(os:List Ob):Nat->List Int
 | 0=>[]
 | k+1=>yN l os k++zbW l os k
noncomputable def marks (l:Lw)(os:List Ob):List Int:=yN l os os.length
theorem zk5 (h:k<os.length)(h1:os[k].en=false)(h2:zcd l os os[k]=true):yN l os (k+1)=yN l os k++[(k:Int)]:=by
 show yN l os k++zbW l os k=_
 unfold zbW;rw[dif_pos h,h1,h2];rfl
theorem zla (h:k<os.length)(h1:os[k].en=true):yN l os (k+1)=yN l os k:=by
 show yN l os k++zbW l os k=_
 unfold zbW;rw[dif_pos h,h1];simp
theorem znb (h:k<os.length)(h2:zcd l os os[k]=false):yN l os (k+1)=yN l os k:=by
 show yN l os k++zbW l os k=_
 unfold zbW;rw[dif_pos h,h2];simp
theorem zhY (l:Lw)(os:List Ob):∀k,(yN l os k).length<=k
 | 0=>Nat.le_refl _
 | k+1=>by
  have h:=zhY l os k
  show(yN l os k++zbW l os k).length<=_
  have h2:(zbW l os k).length<=1:=by
   unfold zbW;split
   ·split <;> simp
   ·simp
  rw[List.length_append];omega
theorem zqD {f:BA->BA->Option Int}(h:zbj f os os.length):zeQ f (yt (shapeOf l.ss o.kd).fs o.vs (shapeOf l.ss o.kd).fs.length)=zcd l os o:=by
 unfold zeQ zcd
 congr 1
 funext x
 rw[h x.to x.nm,tOl (Nat.le_refl _)]
theorem zkz (l:Lw)(la lb lc:OA)(lca lcb lcc:Nat)(b:Bk)(a0 a1 a2 a3:OA)(c0 c1 c2 c3:Nat)(w:World)(hl:qp w l la lb lc)(hb:qj w b a0 a1 a2 a3)(hok:yj l.ss l.ms=true)(hob:zM l b=true) :
 Calls Tryz.prog 33 #[.agg (lC l la lb lc lca lcb lcc),.agg (bC b a0 a1 a2 a3 c0 c1 c2 c3)] w fun e w'=>∃v,e=.returned v/\w'.ownsRow w.heap.size 3 1 v (marks l b.os).length (ints (marks l b.os))/\Bw w w':=by
 obtain⟨i0,hi,hzi0,hz1',hz2⟩:=info_parts Tryz.zdo;have HK:Hid (qj w b a0 a1 a2 a3):=hb;have HL:Hid (qp w l la lb lc):=hl
 have HO:Hid (b.os.length<=40/\∀k (h:k<b.os.length),b.os[k].vs.length=(shapeOf l.ss b.os[k].kd).fs.length):=by
  unfold zM at hob;simp only[Bool.and_eq_true,decide_eq_true_eq]at hob;exact⟨hob.1,fun k h=>znS hok (List.all_eq_true.1 hob.2.2 _ (List.getElem_mem h))⟩
 clear hb hl hok hob;go_in;go_wp2_with fail
 obtain⟨hL0,hX0⟩:=qB w (lC l la lb lc lca lcb lcc) (bC b a0 a1 a2 a3 c0 c1 c2 c3) 47 40;have HBi:Hid (Bw w ((w.alloc (.cells (lC l la lb lc lca lcb lcc) 47)).alloc (.cells (bC b a0 a1 a2 a3 c0 c1 c2 c3) 40))):=zo w _ _;obtain⟨W0,hW0⟩:=xN ((w.alloc (.cells (lC l la lb lc lca lcb lcc) 47)).alloc (.cells (bC b a0 a1 a2 a3 c0 c1 c2 c3) 40));have hz0:w.heap.size+1<W0.heap.size:=by rw[hW0];simp
 rw[<- hW0]at HBi hX0 hL0 ⊢;clear hW0;refine(zge b a0 a1 a2 a3 c0 c1 c2 c3 _ (HK.o.mono HBi.o) (by have:=HO.o.1;omega)).mono ?_;rintro e w1⟨⟨r,f,rfl,hr,hf,hef⟩,hb1⟩;have hX1:=za hX0 hz0 hb1;have hL1:=za hL0 (nSl hz0) hb1;have hz1:=nLt hz0 hb1.size;have hq1:=nSl hz1;have HF:Hid (zH w1 r f/\zbj f b.os b.os.length):=⟨hf,hef⟩
 have HB1:Hid (Bw w w1):=HBi.o.trans (hb1.mono HBi.o.size);clear hb1 hX0 hL0 hz0 hf hef hr HBi;go_wp2
 go_loopw [6,14] (fun v0 iv wr=>∃(k:Nat) (v:Value),v=v0/\k<=b.os.length/\iv=.i k/\Hid (wr.ownsRow w1.heap.size 3 1 v (yN l b.os k).length (ints (yN l b.os k))/\Bw w1 wr)) (fun _ iv _=>b.os.length-(intOf iv).toNat)
 case atStart=>exact⟨0,_,rfl,Nat.zero_le _,rfl,World.ownsRow_nil _ _ _ _,bRf _ _⟩
 case round=>
  obtain⟨k,v,hv,hk,rfl,HQ⟩:=hrel;subst hv;have hkn:k<=40:=by have:=HO.o.1;omega
  have hX2:=za hX1 hz1 HQ.o.2;have hL2:=za hL1 hq1 HQ.o.2;have hz3:=nLt hz1 HQ.o.2.size;have hq3:=nLt hq1 HQ.o.2.size;have HBr:Hid (Bw w wr):=HB1.o.trans (HQ.o.2.mono HB1.o.size)
  by_cases hlt:k<b.os.length
  ·obtain⟨ob,off,v0,v1,q0,q1,rfl,hob,hsm,hl0,hl1,d0,d1,d2,d3,d4,d5,d6⟩:=HK.o.os.load HBr.o k hlt
   have hltI:(k:Int)<(b.os.length:Int):=by omega
   have hob':ob<wr.heap.size:=nLt hob HBr.o.size;have HIt:Hid (qY wr b.os[k] v0 v1):=⟨hsm,hl0,hl1⟩
   clear hsm hl0 hl1
   cases he:b.os[k].en with
   | true=>
    rw[he]at d4;have HS:Hid (yN l b.os (k+1)=yN l b.os k):=zla hlt he;have HBa:Hid (∀o,Bw wr (wr.alloc o)):=fun o=>bAl _ _
    go_wp2
    exact⟨⟨k+1,_,rfl,by omega,by go_num,by rw[HS.o];exact yc HQ.o.1 (HBa.o _),HQ.o.2.trans ((HBa.o _).mono HQ.o.2.size)⟩,zi hlt⟩
   | false=>
    rw[he]at d4;have hba:Bw wr (wr.alloc (.cells #[.s b.os[k].kd,.s b.os[k].nm,.s b.os[k].tm,.l v0 b.os[k].vs.length q0,.bool false,.l v1 b.os[k].hs.length q1,.i b.os[k].vr] 116)):=bAl _ _;have hcall:=zpM l la lb lc lca lcb lcc r f b.os[k] v0 v1 q0 q1 _ (HL.o.mono (HBr.o.trans (hba.mono HBr.o.size))) (HF.o.1.mono (HQ.o.2.trans (hba.mono HQ.o.2.size))) (HIt.o.mono hba) (HO.o.2 k hlt);unfold oC at hcall;rw[he,zqD HF.o.2]at hcall;have HBa:Hid (Bw wr (wr.alloc (.cells #[.s b.os[k].kd,.s b.os[k].nm,.s b.os[k].tm,.l v0 b.os[k].vs.length q0,.bool false,.l v1 b.os[k].hs.length q1,.i b.os[k].vr] 116))):=hba;clear hba;go_wp2_with fail
    refine hcall.mono ?_;rintro e w3⟨rfl,hb3⟩;have HB3:Hid (Bw wr w3):=HBa.o.trans (hb3.mono HBa.o.size);have HQ3:Hid (w3.ownsRow w1.heap.size 3 1 v (yN l b.os k).length (ints (yN l b.os k))/\Bw w1 w3):=⟨yc HQ.o.1 HB3.o,HQ.o.2.trans (HB3.o.mono HQ.o.2.size)⟩
    have HLL:Hid ((yN l b.os k).length<=40):=by have:=zhY l b.os k;have:=HO.o.1;show _<=_;omega
    clear hb3 hcall d0 d1 d2 d3 d4 d5 d6 hob'
    by_cases how:zcd l b.os b.os[k]=true
    rotate_left
    ·have HS:Hid (yN l b.os (k+1)=yN l b.os k):=znb hlt (by simpa using how)
     rw[bFi how];go_wp2
     exact⟨⟨k+1,_,rfl,by omega,by go_num,by rw[HS.o];exact HQ3.o.1,HQ3.o.2⟩,zi hlt⟩
    ·have HS:Hid (yN l b.os (k+1)=yN l b.os k++[(k:Int)]):=zk5 hlt he how
     rw[how]
     go_wp2_with (at_builtin;refine wpList_append_own _ rfl (.tmp 28) (.tmp 30) 71 rfl w1.heap.size 3 i0 (.i 0) 1 8 Tryz.underlying71 hi hzi0 hz1' hz2 rfl (by decide) _ _ _ rfl (HQ3.o.1.alloc _) (aD w3.heap.size 0) 1 1 [.i (k:Int)] rfl rfl (zbA _ _ _) (by intro u hu;simp at hu;subst hu;rfl) (by have:=HLL.o;unfold maxLen;omega) (by have:=HLL.o;omega) (by have:=HQ3.o.2.size;simp;omega) ?_;intro v' w4 hown' hgr _)
     have hgb:∀g',v.ownBlock=some g'->w1.heap.size<=g':=fun g' hg'=>(HQ3.o.1.lt g' hg').1
     refine⟨⟨k+1,_,rfl,by omega,by go_num,?_,zar HQ3.o.2 HQ3.o.2.size hgr hgb⟩,zi hlt⟩;rw[HS.o,List.length_append];have e1:ints (yN l b.os k++[(k:Int)])=ints (yN l b.os k)++[.i (k:Int)]:=by simp[ints]
     rw[e1];exact hown'
  ·have e:k=b.os.length:=by omega
   subst e;have HW:Hid (wr.ownsRow w.heap.size 3 1 v (marks l b.os).length (ints (marks l b.os))/\Bw w wr):=⟨jU HQ.o.1 HB1.o.size,HBr.o⟩
   clear HQ hlt hk hX1 hL1 hX2 hL2;go_wp2
   go_ret;exact⟨v,rfl,HW.o⟩
noncomputable def zaQ (l:Lw)(o p:Ob)(role:Int)(m:Nat):Bool:=(yt (shapeOf l.ss o.kd).fs o.vs m).any fun x=>decide (x.rl=role)&&jC x.to x.nm p
noncomputable def names (l:Lw)(o p:Ob)(role:Int):Bool:=zaQ l o p role (shapeOf l.ss o.kd).fs.length
theorem znY (e:fs=(shapeOf l.ss o.kd).fs)(hk:m<fs.length)(hv:m<o.vs.length)(h:¬(fs[m].kd=4/\o.vs[m].toList.isEmpty=false)):zaQ l o p role (m+1)=zaQ l o p role m:=by
 subst e;unfold zaQ;rw[ji,List.any_append]
 have:zdk (shapeOf l.ss o.kd).fs o.vs m=[]:=by
  unfold zdk;rw[List.getElem?_eq_getElem hk,List.getElem?_eq_getElem hv];exact dif_neg (fun h'=>h h'.1)
 rw[this];simp
theorem zoR (e:fs=(shapeOf l.ss o.kd).fs)(hk:m<fs.length)(hv:m<o.vs.length)(h1:fs[m].kd=4)(h2:o.vs[m].toList.isEmpty=false)(hs1:fs[m].to.size<=maxLen)(hs2:o.vs[m].size<=maxLen):zaQ l o p role (m+1)=(zaQ l o p role m||(decide (fs[m].rl=role)&&jC fs[m].to o.vs[m] p)):=by
 subst e;unfold zaQ;rw[ji,List.any_append]
 have:zdk (shapeOf l.ss o.kd).fs o.vs m=[⟨m,(shapeOf l.ss o.kd).fs[m].rl,(shapeOf l.ss o.kd).fs[m].to,o.vs[m],hs1,hs2⟩]:=by
  unfold zdk;rw[List.getElem?_eq_getElem hk,List.getElem?_eq_getElem hv];exact dif_pos ⟨⟨h1,h2⟩,hs1,hs2⟩
 rw[this];simp
theorem zlR (e:fs=(shapeOf l.ss o.kd).fs)(hk:m<=fs.length)(h:zaQ l o p role m=true):names l o p role=true:=by
 subst e;unfold names zaQ at *;obtain⟨t,ht⟩:=zbB (shapeOf l.ss o.kd).fs o.vs hk;rw[<- ht,List.any_append,h];rfl
theorem zsO (kd nm:BA)(p:Ob):jC kd nm p=((kd.toList == p.kd.toList)&&(nm.toList == p.nm.toList)):=by
 unfold jC;rw[beq_toList,beq_toList]
 congr 1
 ·exact decide_eq_decide.2 eq_comm
 ·exact decide_eq_decide.2 eq_comm
theorem zfI (l:Lw)(la lb lc:OA)(lca lcb lcc:Nat)(b:Bk)(a0 a1 a2 a3:OA)(c0 c1 c2 c3:Nat)(i k:Nat)(role:Int)(w:World)(hl:qp w l la lb lc)(hb:qj w b a0 a1 a2 a3)(hi:i<b.os.length)(hk:k<b.os.length)(hwc:zq l.ss b.os[i]=true)(hfw:b.os[i].vs.length<=1048576) :
 Calls Tryz.prog 128 #[.agg (lC l la lb lc lca lcb lcc),.agg (bC b a0 a1 a2 a3 c0 c1 c2 c3),.i (i:Int),.i (k:Int),.i role] w fun e w'=>e=.returned (.bool (names l b.os[i] b.os[k] role))/\Bw w w':=by
 have HK:=hid hb;have HL:=hid hl;have HWc:Hid (zq l.ss b.os[i]=true/\b.os[i].vs.length<=1048576):=⟨hwc,hfw⟩
 have hiI:(i:Int)<(b.os.length:Int):=by omega
 have hkI:(k:Int)<(b.os.length:Int):=by omega
 clear hb hl hwc hfw;obtain⟨ob,off,va,ha,q0,q1,rfl,hob,hsm,hs0,hs1,d0,d1,d2,d3,d4,d5,d6⟩:=HK.o.os.load (zo w (.cells (lC l la lb lc lca lcb lcc) 47) (.cells (bC b a0 a1 a2 a3 c0 c1 c2 c3) 40)) i hi;have hob':ob<((w.alloc (.cells (lC l la lb lc lca lcb lcc) 47)).alloc (.cells (bC b (some (aD ob off)) a1 a2 a3 c0 c1 c2 c3) 40)).heap.size:=by simp;omega
 go_in;go_wp2_with fail
 have HIt:Hid (qY ((w.alloc (.cells (lC l la lb lc lca lcb lcc) 47)).alloc (.cells (bC b (some (aD ob off)) a1 a2 a3 c0 c1 c2 c3) 40)) b.os[i] va ha):=⟨hsm,hs0,hs1⟩
 obtain⟨hX0,hY0,hZ0⟩:=zmi w (.cells (lC l la lb lc lca lcb lcc) 47) (.cells (bC b (some (aD ob off)) a1 a2 a3 c0 c1 c2 c3) 40) (.cells (oC b.os[i] va ha q0 q1) 116);have HB3:Hid (Bw w (((w.alloc (.cells (lC l la lb lc lca lcb lcc) 47)).alloc (.cells (bC b (some (aD ob off)) a1 a2 a3 c0 c1 c2 c3) 40)).alloc (.cells (oC b.os[i] va ha q0 q1) 116))):=below3' w _ _ _;have HI3:Hid (qY (((w.alloc (.cells (lC l la lb lc lca lcb lcc) 47)).alloc (.cells (bC b (some (aD ob off)) a1 a2 a3 c0 c1 c2 c3) 40)).alloc (.cells (oC b.os[i] va ha q0 q1) 116)) b.os[i] va ha):=HIt.o.mono (bAl _ _);obtain⟨W3,hW3⟩:=xN (((w.alloc (.cells (lC l la lb lc lca lcb lcc) 47)).alloc (.cells (bC b (some (aD ob off)) a1 a2 a3 c0 c1 c2 c3) 40)).alloc (.cells (oC b.os[i] va ha q0 q1) 116));have hz3:w.heap.size+1+1<W3.heap.size:=by rw[hW3];simp
 rw[<- hW3]at HB3 HI3 hX0 hY0 hZ0 ⊢;clear hW3 d0 d1 d2 d3 d4 d5 d6 HIt hsm hs0 hs1 hob';refine(zbI _ _ l.ss b.os[i] _ _ _ _ _ (HL.o.ss.mono HB3.o) HI3.o HWc.o.1).mono ?_;rintro e w4⟨fa,fcap,rfl,hfa,hb4⟩;have hY4:∀j,w4.cell? (aD (w.heap.size+1) j)=(bC b (some (aD ob off)) a1 a2 a3 c0 c1 c2 c3)[j]?:=za (yP hY0) (by omega) hb4;have hZ4:∀j,w4.cell? (aD (w.heap.size+1+1) j)=(oC b.os[i] va ha q0 q1)[j]?:=za (yP hZ0) (by omega) hb4;have hz4:=nLt hz3 hb4.size;have hy4:=nSl hz4;have HB4:Hid (Bw w w4):=HB3.o.trans (hb4.mono HB3.o.size);have HI4:Hid (qY w4 b.os[i] va ha):=HI3.o.mono hb4;have HFa:Hid (yw w4 fa (shapeOf l.ss b.os[i].kd).fs):=hfa.mono hb4;have HLv:Hid ((shapeOf l.ss b.os[i].kd).fs.length=b.os[i].vs.length):=by have:=HWc.o.1;unfold zq at this;simp only[Bool.and_eq_true,decide_eq_true_eq]at this;exact this.2.symm
 clear hfa hb4 hX0 hY0 hZ0 hz3 HI3 HB3;obtain⟨fs,hfs⟩:=xN ((shapeOf l.ss b.os[i].kd).fs);have HFS:Hid (fs=(shapeOf l.ss b.os[i].kd).fs):=hfs;rw[<- hfs]at HFa HLv ⊢;clear hfs;go_wp2
 go_loopw [14] (fun jv wi=>∃m:Nat,m<=fs.length/\jv=.i m/\Hid (zaQ l b.os[i] b.os[k] role m=false/\Bw w4 wi)) (fun jv _=>fs.length-(intOf jv).toNat)
 case atStart=>exact⟨0,Nat.zero_le _,rfl,by simp[zaQ,yt],bRf _ _⟩
 case round=>
  obtain⟨m,hm,rfl,HR⟩:=hrel;have hfl:fs.length<=1048576:=by have:=HLv.o;have:=HWc.o.2;omega
  have hYm:=za hY4 hy4 HR.o.2;have hZm:=za hZ4 hz4 HR.o.2;have hzm:=nLt hz4 HR.o.2.size;have hym:=nLt hy4 HR.o.2.size;have HBm:Hid (Bw w wr):=HB4.o.trans (HR.o.2.mono HB4.o.size)
  by_cases hml:m<fs.length
  ·have hmI:(m:Int)<(fs.length:Int):=by omega
   have hmv:m<b.os[i].vs.length:=by have:=HLv.o;omega
   have hmvI:(m:Int)<(b.os[i].vs.length:Int):=by omega
   obtain⟨fb,foff,fw,fc,rfl,hfb,hfi⟩:=znu HFa.o HR.o.2 m hml;obtain⟨d0,d1,d2,d3,d4,d5,d6,d7,d8,d9,d10⟩:=hfi.load;obtain⟨vb,voff,rfl,hvb,cv0⟩:=HI4.o.vals.cells (by intro e;rw[e]at hmv;simp at hmv);have cv:=(HR.o.2.cell (p:=(aD vb (voff+m))) hvb).trans (cv0 m hmv);have HSt:Hid (fs[m].to.size<=maxLen/\b.os[i].vs[m].size<=maxLen):=⟨hfi.small.to,HI4.o.vals.small _ (List.getElem_mem _)⟩
   obtain⟨ob2,off2,_,_,_,_,e2,hob2,_,_,_,p0,p1,_⟩:=HK.o.os.load HBm.o k hk;simp only[Option.some.injEq,Addr.mk.injEq]at e2;obtain⟨rfl,rfl,_⟩:=e2;have hfb':fb<wr.heap.size:=nLt hfb HR.o.2.size;have HBa:Hid (Bw wr (wr.alloc (.cells #[.s fs[m].nm,.i fs[m].kd,.i fs[m].ls,.i fs[m].ms,.l fw fs[m].ws.length fc,.s fs[m].to,.i fs[m].rl,.bool fs[m].mu,.bool fs[m].fx,.s fs[m].df,.s fs[m].wg] 183))):=bAl _ _;have hob3:=nLt hob2 HBm.o.size;have hvb3:=nLt hvb HR.o.2.size;clear hfi cv0 hY4 hZ4 hz4 hy4;go_wp2_with fail
   have hT0:=zI wr #[.s fs[m].nm,.i fs[m].kd,.i fs[m].ls,.i fs[m].ms,.l fw fs[m].ws.length fc,.s fs[m].to,.i fs[m].rl,.bool fs[m].mu,.bool fs[m].fx,.s fs[m].df,.s fs[m].wg] 183;obtain⟨W5,hW5⟩:=xN (wr.alloc (.cells #[.s fs[m].nm,.i fs[m].kd,.i fs[m].ls,.i fs[m].ms,.l fw fs[m].ws.length fc,.s fs[m].to,.i fs[m].rl,.bool fs[m].mu,.bool fs[m].fx,.s fs[m].df,.s fs[m].wg] 183));have hy5:wr.heap.size<W5.heap.size:=by rw[hW5];simp
   rw[<- hW5]at HBa hT0 ⊢;clear hW5 d0 d1 d2 d3 d4 d5 d6 d7 d8 d9 d10;have hT:=za hT0 hy5 (bRf W5.heap.size W5).drew;have hY:=za (za hYm hym HBa.o) (nLt hym HBa.o.size) (bRf W5.heap.size W5).drew;have hZ:=za (za hZm hzm HBa.o) (nLt hzm HBa.o.size) (bRf W5.heap.size W5).drew;have cvd:=(HBa.o.cell (p:=(aD vb (voff+m))) hvb3).trans cv;have p0d:=(HBa.o.cell (p:=(aD ob (off+k*7))) hob3).trans p0;have p1d:=(HBa.o.cell (p:=(aD ob (off+k*7+1))) hob3).trans p1;have HRd:=hid ((HR.o.2.trans (HBa.o.mono HR.o.2.size)).drew);have HBd:=hid (HB4.o.trans (HRd.o.mono HB4.o.size));clear hT0 hYm hZm hzm hym cv p0 p1;refine wp_region_held_drew (S:=fun w'=>(∀j,w'.cell? (aD (w.heap.size+1) j)=(bC b (some (aD ob off)) a1 a2 a3 c0 c1 c2 c3)[j]?)/\(∀j,w'.cell? (aD (w.heap.size+1+1) j)=(oC b.os[i] (some (aD vb voff)) ha q0 q1)[j]?)/\(∀j,w'.cell? (aD wr.heap.size j)=(#[.s fs[m].nm,.i fs[m].kd,.i fs[m].ls,.i fs[m].ms,.l fw fs[m].ws.length fc,.s fs[m].to,.i fs[m].rl,.bool fs[m].mu,.bool fs[m].fx,.s fs[m].df,.s fs[m].wg]:AV)[j]?)/\w'.cell? (aD vb (voff+m))=some (.s b.os[i].vs[m])/\w'.cell? (aD ob (off+k*7))=some (.s b.os[k].kd)/\w'.cell? (aD ob (off+k*7+1))=some (.s b.os[k].nm)) (by kernel_rfl) ⟨hY,hZ,hT,cvd,p0d,p1d⟩ (fun H_=>?_);obtain⟨x2,hx2⟩:∃x,x=((fs[m].kd == 4)&&(fs[m].rl == role)):=⟨_,rfl⟩
   obtain⟨x3,hx3⟩:∃x,x=(x2&&!(b.os[i].vs[m].toList.isEmpty)):=⟨_,rfl⟩
   obtain⟨x4,hx4⟩:∃x,x=(x3&&(fs[m].to.toList == b.os[k].kd.toList)):=⟨_,rfl⟩
   obtain⟨x5,hx5⟩:∃x,x=(x4&&(b.os[i].vs[m].toList == b.os[k].nm.toList)):=⟨_,rfl⟩
   have HX:=j3 hx2 hx3 hx4 hx5;clear hx2 hx3 hx4 hx5;refine tG 0 ?_;refine tG 1 ?_;refine tG 2 ?_;refine tG 3 ?_;refine sT 4 ?_;refine sT 5 ?_;refine sT 6 ?_;refine sT 7 ?_;refine tG (v:=.bool x2) 8 ?_ (hy:=by intro w hSw;rw[HX.o.1];cases h:(fs[m].kd == 4) <;> go_simp);refine tG 9 ?_;refine sT 10 ?_;refine sT 11 ?_;refine sT 12 ?_;refine sT 13 ?_;refine sT 14 ?_;refine sT (v:=.bool (!(b.os[i].vs[m].toList.isEmpty))) 15 ?_;refine tG (v:=.bool x3) 16 ?_ (hy:=by intro w hSw;rw[HX.o.2.1];cases h:x2 <;> go_simp);refine tG 17 ?_;refine sT 18 ?_;refine sT 19 ?_;refine sT 20 ?_;refine sT 21 ?_;refine sT 22 ?_;refine sT 23 ?_;refine sT 24 ?_;refine sT 25 ?_;refine sT 26 ?_;refine tG (v:=.bool x4) 27 ?_ (hy:=by intro w hSw;rw[HX.o.2.2.1];cases h:x3 <;> go_simp);refine tG 28 ?_;refine sT 29 ?_;refine sT 30 ?_;refine sT 31 ?_;refine sT 32 ?_;refine sT 33 ?_;refine sT 34 ?_;refine sT 35 ?_;refine sT 36 ?_;refine sT 37 ?_;refine sT 38 ?_;refine sT 39 ?_;refine sT 40 ?_;refine tG (v:=.bool x5) 41 ?_ (hy:=by intro w hSw;rw[HX.o.2.2.2];cases h:x4 <;> go_simp);refine wpAnyH_done (by kernel_rfl) ?_ _
   have HN:Hid (zaQ l b.os[i] b.os[k] role (m+1)=x5):=by
    unfold Hid;obtain⟨e2,e3,e4,e5⟩:=HX.o;subst e2 e3 e4 e5
    by_cases h1:fs[m].kd=4/\b.os[i].vs[m].toList.isEmpty=false
    ·rw[zoR HFS.o hml hmv h1.1 h1.2 HSt.o.1 HSt.o.2,HR.o.1,zsO,h1.1,h1.2]
     cases h2:decide (fs[m].rl=role) <;> simp_all
    ·rw[znY HFS.o hml hmv h1,HR.o.1]
     by_cases h4:fs[m].kd=4
     ·have h5:b.os[i].vs[m].toList.isEmpty=true:=by simpa using fun h=>h1 ⟨h4,h⟩
      rw[h5];simp
     ·rw[beq_eq_false_iff_ne.2 h4];rfl
   clear H_ HX
   cases x5 with
   | true=>
    have HF:Hid (names l b.os[i] b.os[k] role=true):=zlR (m:=m+1) HFS.o hml HN.o;go_wp2
    go_ret;exact⟨ze HF.o.symm,HBd.o⟩
   | false=>
    go_wp2
    exact⟨⟨m+1,by omega,by go_num,HN.o,HRd.o⟩,by simp[intOf];omega⟩
  ·have e:m=fs.length:=by omega
   subst e
   have HN:Hid (names l b.os[i] b.os[k] role=false):=by
    have h1:=HR.o.1;rw[HFS.o]at h1;exact h1
   clear HR hY4 hZ4;go_wp2
   go_ret;exact⟨ze HN.o.symm,HBm.o⟩
structure Within (ls:List Lg)(n:Nat):Prop where
 fr:∀g∈ls,0<=g.fr/\g.fr<=1000000*((n:Int)+1)
def zc6:Bk:=⟨0,0,0,[],[],[],[]⟩
structure zlc (lo:Nat)(w:World)(e:Ending)(r:Bk × Int):Prop where
 ex:∃hi own d0 d1 d2 d3 e0 e1 e2 e3,e=.returned (.tuple #[.agg (r.1.cells d0 d1 d2 d3 e0 e1 e2 e3),.i r.2])/\BkL lo hi w own r.1 d0 d1 d2 d3
theorem BkF.low {lo':Nat}{own:Nat->Lb}{n0 n1 n2 n3:Nat}{f0:Nat->Ob}{f1:Nat->Gr}{f2:Nat->Lg}{f3:Nat->Pu}(h:BkF lo hi w own a0 a1 a2 a3 n0 n1 n2 n3 f0 f1 f2 f3)(hl:lo'<=lo):BkF lo' hi w own a0 a1 a2 a3 n0 n1 n2 n3 f0 f1 f2 f3:=
 ⟨h.os.low hl,h.gs.low hl,h.ls.low hl,h.ps.low hl,fun k hk=>h.out k (by omega),Nat.le_trans hl h.le,h.hi⟩
structure zt9 (b:Bk):Prop where
 rise:rising qz b.ls
 len:b.ls.length<=10
 fr:Within b.ls 0
 plen:b.ps.length<=24
 has:∀i (h:i<b.ps.length),jA b.ls b.ps[i].tm b.ps[i].rs=true
 am:∀p∈b.ps,1<=p.am/\p.am<=1000000
 tick:0<=b.tick/\b.tick<=1000000
theorem zrw (h:qG l b=true):zt9 b:=by
 unfold qG zaz at h;simp only[Bool.and_eq_true]at h;obtain⟨h1,h2,h3⟩:=zcj h.2.2.2.2.1;obtain⟨h4,h5⟩:=zhJ h.2.2.2.2.2.1
 have hp:∀i (hi:i<b.ps.length),jA b.ls b.ps[i].tm b.ps[i].rs=true/\1<=b.ps[i].am/\b.ps[i].am<=1000000:=fun i hi=>by
  have h6:=h5 i hi;unfold yT within at h6;simp only[Bool.and_eq_true,decide_eq_true_eq]at h6;exact⟨h6.1,h6.2.2.1⟩
 refine⟨h1,h2,⟨fun g hg=>?_⟩,h4,fun i hi=>(hp i hi).1,fun p hp'=>?_,zht h.2.1⟩
 ·obtain⟨i,hi,rfl⟩:=List.mem_iff_getElem.1 hg
  have h6:=h3 i hi;unfold yH jO at h6;simp only[Bool.and_eq_true,decide_eq_true_eq]at h6;omega
 ·obtain⟨i,hi,rfl⟩:=List.mem_iff_getElem.1 hp'
  exact(hp i hi).2
theorem zry {b:Nat}{x0 x1 x2 x3 x4 x5 x6:Value}{t:TypeId}(h:w.heap[b]?=some (.cells #[x0,x1,x2,x3,x4,x5,x6] t))(v0 v1 v2 v3 v4 v5 v6:Value):(zb2 w b v0 v1 v2 v3 v4 v5 v6).heap[b]?=some (.cells #[v0,v1,v2,v3,v4,v5,v6] t):=by
 unfold zb2;rw[zh (zh (zh (zh (zh (zh (zh h v0) v1) v2) v3) v4) v5) v6]
 rfl
theorem Left.zb2 {S:Nat->Prop}{W:World}(h:Left S w W){b:Nat}(hb:S b)(v0 v1 v2 v3 v4 v5 v6:Value):Left S w (zb2 W b v0 v1 v2 v3 v4 v5 v6):=
 ((((((h.set hb 0 v0).set hb 1 v1).set hb 2 v2).set hb 3 v3).set hb 4 v4).set hb 5 v5).set hb 6 v6
theorem BkL.mono {own:Nat->Lb}(h:BkL lo hi w own b a0 a1 a2 a3)(hb:Bw w w'):BkL lo hi w' own b a0 a1 a2 a3:=BkF.mono h hb
theorem BkM.mono {own:Nat->Lb}(h:BkM lo hi w own b a0 a1 a2 a3)(hb:Bw w w'):BkM lo hi w' own b a0 a1 a2 a3:=BkF.mono h hb
theorem BkL.zb2 {own:Nat->Lb}(h:BkL lo hi w own b a0 a1 a2 a3)(z:Nat)(hz:z<lo)(v0 v1 v2 v3 v4 v5 v6:Value):BkL lo hi (zb2 w z v0 v1 v2 v3 v4 v5 v6) own b a0 a1 a2 a3:=
 BkF.left h ((Left.refl (fun k=>k=z) w).zb2 rfl v0 v1 v2 v3 v4 v5 v6) (fun k hk h2=>by subst h2;have:=BkF.out h k (Or.inl hz);omega)
theorem Left.box {S:Nat->Prop}{b:Nat}{X:AV}(h:Left S w w')(hX:∀o,w.cell? (aD b o)=X[o]?)(hb:b<w.heap.size)(hn:¬S b):∀o,w'.cell? (aD b o)=X[o]?:=
 fun o=>by rw[<- hX o];unfold World.cell?;rw[h.out b hb hn]
structure zrI (w:World)(b:Bk)(a0 a1 a2 a3:OA):Prop where
 bk:qj w b a0 a1 a2 a3
 has:zb1 w a0 b.os
theorem zrI.mono (h:zrI w b a0 a1 a2 a3)(hb:Bw w w'):zrI w' b a0 a1 a2 a3:=⟨h.bk.mono hb,h.has.mono hb⟩
theorem zgj (b:Bk)(a0 a1 a2 a3:OA)(c0 c1 c2 c3:Nat)(w:World)(hl:qj w b a0 a1 a2 a3)(hf:b.Few) :
 Calls Tryz.prog 8 #[.agg (b.cells a0 a1 a2 a3 c0 c1 c2 c3)] w fun e w'=>∃d e' f g,e=.returned (.agg (b.cells d e' f g b.os.length b.gs.length b.ls.length b.ps.length))/\zrI w' b d e' f g/\Bw w w':=by
 refine(zlw b a0 a1 a2 a3 c0 c1 c2 c3 w hl hf).mono ?_;rintro e w'⟨d,e',f,g,rfl,h1,h2,hb⟩;exact⟨d,e',f,g,rfl,⟨h1,h2⟩,hb⟩
def zt3 (lo:Nat)(w:World)(e:Ending)(rb:Bk)(rc:Int):Prop:=∃hi own d0 d1 d2 d3 e0 e1 e2 e3,e=.returned (.tuple #[.agg #[.i rb.now,.i rb.tick,.i rb.given,.l d0 rb.os.length e0,.l d1 rb.gs.length e1,.l d2 rb.ls.length e2,.l d3 rb.ps.length e3],.i rc])/\BkL lo hi w own rb d0 d1 d2 d3
theorem zlc.res {e:Ending}{r:Bk × Int}{rb:Bk}{rc:Int}(h:zlc lo w e r)(hr:r=(rb,rc)):zt3 lo w e rb rc:=by
 obtain⟨hi,own,d0,d1,d2,d3,e0,e1,e2,e3,h1,h2⟩:=h.ex;subst hr;exact⟨hi,own,d0,d1,d2,d3,e0,e1,e2,e3,h1,h2⟩
theorem zhU {f:Nat}{args:AV}{r:Bk × Int}{rb:Bk}{rc:Int}(hr:r=(rb,rc))(h:Calls Tryz.prog f args w fun e w'=>zlc w.heap.size w' e r/\Bw w w'):Calls Tryz.prog f args w fun e w'=>zt3 w.heap.size w' e rb rc/\Bw w w':=h.mono fun _ _ h=>⟨h.1.res hr,h.2⟩
theorem zfS {R:Nat}{w4 W:World}{own:Nat->Lb}{d0 d1 d2 d3:OA}{e0 e1 e2 e3:Nat}{r:Bk × Int}{c:Int}(hr:r=(b,c))(h:BkL lo hi w4 own b d0 d1 d2 d3)(hb:Bw w4 W)(hB:Bw w w4)(hR:R<lo)(hwR:w.heap.size<=R)(v0 v1 v2 v3 v4 v5 v6:Value) :
 zlc w.heap.size (zb2 W R v0 v1 v2 v3 v4 v5 v6) (.returned (.tuple #[.agg (bC b d0 d1 d2 d3 e0 e1 e2 e3),.i c])) r/\Bw w (zb2 W R v0 v1 v2 v3 v4 v5 v6):=by
 subst hr;exact⟨⟨hi,own,d0,d1,d2,d3,e0,e1,e2,e3,rfl,BkF.low ((BkL.mono h hb).zb2 R hR v0 v1 v2 v3 v4 v5 v6) (by omega)⟩,qI (hB.trans (hb.mono hB.size)) R hwR v0 v1 v2 v3 v4 v5 v6⟩
end Go.Proofs.YtjnpjkigofldlaaGreat
