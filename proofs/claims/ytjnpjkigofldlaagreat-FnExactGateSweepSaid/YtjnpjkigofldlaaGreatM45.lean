import Derived.Test.YtjnpjkigofldlaaGreatM44
import Derived.Test.YtjnpjkigofldlaaGreatM42
set_option maxRecDepth 100000
set_option maxHeartbeats 4000000
namespace Go.Proofs.YtjnpjkigofldlaaGreat
open Go.RowKit Go.Shelf
attribute [local go_sem] Oper.semAt_some
def zeG (f:BA->BA->Option Int)(xs:List Lk):Bool:=xs.all fun x=>(f x.to x.nm).isSome
theorem zot (l:Lw)(a b c:OA)(ca cb cc:Nat)(r:Nat)(f:BA->BA->Option Int)(o:Ob)(va ha:OA)(cap cap':Nat)(w:World)(hL:qp w l a b c)(hM:zH w r f)(ho:qY w o va ha)(hc:o.vs.length=(shapeOf l.ss o.kd).fs.length) :
 Calls Tryz.prog 184 #[.agg (lC l a b c ca cb cc),.map (some r),.agg (oC o va ha cap cap')] w
  fun e w'=>e=.returned (.bool (zeG f (yt (shapeOf l.ss o.kd).fs o.vs (shapeOf l.ss o.kd).fs.length)))/\Bw w w':=by
 have HH:=j3 hL hM ho hc;clear hL hM ho hc;refine(callsIn_wide (n:=6)).1 ?_;refine callsIn_of_wp_marks Tryz.func184 rfl trivial ?_ rfl;simp only[Tryz.ntmps184,List.size_toArray,List.length_cons,List.length_nil,Nat.reduceAdd,Nat.reduceSub,Array.replicate_succ,Array.replicate_zero,List.push_toArray,List.append_toArray,List.nil_append,List.cons_append]
 gi_wp2_with fail
 refine⟨trivial,?_⟩;have hb4:Bw w ((((w.alloc (.cells (lC l a b c ca cb cc) 47)).alloc (.cells #[.map (some r)] 142)).alloc (.cells (oC o va ha cap cap') 116)).alloc (.cells #[.bool false] 4)):=(jc _ _ _ _).alloc (by simp;omega) _;have hbR:=Boxed.new (((w.alloc (.cells (lC l a b c ca cb cc) 47)).alloc (.cells #[.map (some r)] 142)).alloc (.cells (oC o va ha cap cap') 116)) 4 (.bool false);have hbP:=((Boxed.new (w.alloc (.cells (lC l a b c ca cb cc) 47)) 142 (.map (some r))).alloc (.cells (oC o va ha cap cap') 116)).alloc (.cells #[.bool false] 4);simp only[World.size_alloc]at hbR hbP;obtain⟨w4,hw4⟩:=xN (((((w.alloc (.cells (lC l a b c ca cb cc) 47)).alloc (.cells #[.map (some r)] 142)).alloc (.cells (oC o va ha cap cap') 116)).alloc (.cells #[.bool false] 4)));rw[<- hw4]at hb4 hbR hbP ⊢;clear hw4;refine(callsIn_wide.2 (zfr l a b c ca cb cc o va ha cap cap' w4 (HH.o.1.mono hb4))).mono ?_;rintro e W0⟨Bs,Bo,fa,fcap,rfl,hBs,hBo,hfl,hXs,hXo,hb1⟩;have bR:Boxed W0 (w.heap.size+1+1+1) 4 (.bool false):=(hb1.block _ hbR.lt).trans hbR;have bP:Boxed W0 (w.heap.size+1) 142 (.map (some r)):=(hb1.block _ hbP.lt).trans hbP;have HB0:Hid (Bw w W0):=hb4.trans (hb1.mono hb4.size);have hN:w.heap.size<=W0.heap.size:=HB0.o.size;have HO0:Hid (zD W0 va o.vs):=HH.o.2.2.1.vals.mono HB0.o;clear hb1 hb4 hbR hbP
 gi_wp2_with fail
 refine wpIn_rangeFunc_ownH rfl (by omega) (gf:=197) (lb:=#[.pointer (some (aD Bs 0)),.pointer (some (aD Bo 0))]) rfl trivial (enters_of Tryz.func197 (by kernel_rfl) rfl)
  (zi2 5 (by omega) Bs Bo (shapeOf l.ss o.kd).kd (shapeOf l.ss o.kd).fs fa fcap o va ha cap cap' W0 hBs hBo hXs hXo hfl HO0.o HH.o.2.2.2) belowK_t (belowK_b (Nat.le_refl _)) (bRf _ _) (fun _=>rfl)
  (fun pre W=>(∀x∈pre,(f x.to x.nm).isSome=true)/\Bw W0 W)
  (fun cd pre W=>((cd=.ret/\∃x∈pre,(f x.to x.nm).isSome=false)/\Boxed W (w.heap.size+1+1+1) 4 (.bool false))/\Bw w W)
  (OwnFrom.and (ownFrom_pure _ _) (ownFrom_below (Nat.le_refl _) (Nat.le_refl _)))
  (fun cd=>OwnFrom.and (OwnFrom.and (ownFrom_pure _ _) (Own.from (boxed_own _ _ _) _)) (ownFrom_below (Nat.le_refl _) hN))
  ⟨by simp,bRf _ _⟩
  (fun x a' W=>∃Bx,W.heap[Bx]?=some (.cells #[.i x.pl,.i x.rl,.s x.to,.s x.nm] 200)/\a'={ tmps:=#[.agg (lC l a b c ca cb cc),.map (some r),.agg (oC o va ha cap cap'),.pointer (some (aD w.heap.size 0)),.pointer (some (aD (w.heap.size+1) 0)),.pointer (some (aD (w.heap.size+1+1) 0)),.pointer (some (aD (w.heap.size+1+1+1) 0)),.pointer (some (aD Bx 0)),undef,undef,.agg (lC l a b c ca cb cc),.agg (oC o va ha cap cap'),.func (.func 197) #[] #[.pointer (some (aD Bs 0)),.pointer (some (aD Bo 0))],.agg #[.i x.pl,.i x.rl,.s x.to,.s x.nm],undef,undef,undef,undef,undef,undef,undef,undef,undef],defers:=[] })
  (fun x a' _ X Y row hs hg hr=>by
   obtain⟨Bx,e1,e2⟩:=hs;refine⟨Bx,(hg.block Bx (gES e1).1 (fun e=>?_)).trans e1,e2⟩;obtain⟨_,ob,h1,h2⟩:=hr Bx e.symm;rw[e1]at h1
   cases h1
   cases h2)
  ?assign ?body ?done ?stop
 case assign=>
  rintro l' pre x W K⟨hp,hB1⟩ hK;unfold Lk.enc
  gi_wp2
  exact hK _ _ ((KeepsOthers.alloc _ _).from _) ((bRf _ W).alloc hB1.size _) ⟨hp,hB1.alloc hB1.size _⟩ ⟨W.heap.size,World.alloc_heap_new W _,rfl⟩
 case body=>
  rintro l' pre x a' W hl⟨rr,hr⟩ ⟨hp,hB1⟩ ⟨Bx,hBx,rfl⟩ hlt;have cX:=yP hBx;have bP1:Boxed W (w.heap.size+1) 142 (.map (some r)):=(hB1.block _ bP.lt).trans bP;have cP:=bP1.cell;have bR1:Boxed W (w.heap.size+1+1+1) 4 (.bool false):=(hB1.block _ bR.lt).trans bR;have cR:=bR1.cell;have fR:=bR1.frozen;have hlk:=(HH.o.2.1.mono (HB0.o.trans (hB1.mono HB0.o.size))).look zaw Tryz.underlying142 x.to x.nm x.hto x.hnm true;unfold y8 at hlk;simp only[if_true]at hlk;have HB2:Hid (Bw W0 W):=hB1;have HP:Hid (∀x∈pre,(f x.to x.nm).isSome=true):=hp;have HR1:Hid (Boxed W (w.heap.size+1+1+1) 4 (.bool false)):=bR1;clear hp hB1 bR1
  cases hq:(f x.to x.nm).isSome with
  | false=>
   rw[hq]at hlk
   gi_wp2
   exact⟨(KeepsOthers.setCell _ _ _).from _,⟨⟨rfl,x,List.mem_append.2 (.inr (by simp)),hq⟩,HR1.o.set _⟩,(HB0.o.trans (HB2.o.mono hN)).setCell (p:=(aD ((w.heap.size+1+1+1)) 0)) (by show w.heap.size<=(w.heap.size+1+1+1);omega) _⟩
  | true=>
   rw[hq]at hlk
   gi_wp2
   exact⟨KeepsFrom.refl _ _,bRf _ _,fun z hz=>(List.mem_append.1 hz).elim (HP.o z) (fun e=>by simp at e;subst e;exact hq),HB2.o⟩
 case done=>
  rintro D ys W hD rfl⟨hp,hB1⟩ hK;have bR1:Boxed W (w.heap.size+1+1+1) 4 (.bool false):=(hB1.block _ bR.lt).trans bR;have cR:=bR1.cell;have fR:=bR1.frozen
  gi_wp2
  have hK':=(KeepsOthers.setCell W (aD ((w.heap.size+1+1+1)) 0) (.bool true)).same D _ hK rfl;refine⟨by simp,.inl ⟨_,_,rfl,run_takeDeferred hK',?_⟩⟩;have hc5:=cell_kept (World.cell?_setCell_same' W (aD ((w.heap.size+1+1+1)) 0) (.bool true) (by rw[cR];rfl)) (grownBy_putObj' _ D (.deferred none)) (fun r e=>by cases e;exact⟨_,hK',rfl⟩);have hall:zeG f (yt (shapeOf l.ss o.kd).fs o.vs (shapeOf l.ss o.kd).fs.length)=true:=List.all_eq_true.2 hp;refine⟨.bool true,?_,by rw[hall],((HB0.o.trans (hB1.mono hN)).setCell (p:=(aD ((w.heap.size+1+1+1)) 0)) (by show w.heap.size<=(w.heap.size+1+1+1);omega) _).trans (belowK_b (w:=w) (Nat.le_refl _) _ D _ _ (by omega) hK' rfl rfl)⟩
  simp[results,Tryz.results184,go_sem,hc5]
 case stop=>
  rintro D cd pre W hD hpre⟨⟨⟨rfl,x,hx,hq⟩,bR1⟩,hB⟩ hK
  gi_wp2
  refine⟨by simp,.inl ⟨_,_,rfl,run_takeDeferred hK,?_⟩⟩;have hc5:=cell_kept bR1.cell (grownBy_putObj' _ D (.deferred none)) (fun r e=>by cases e;exact⟨_,hK,rfl⟩)
  have hno:zeG f (yt (shapeOf l.ss o.kd).fs o.vs (shapeOf l.ss o.kd).fs.length)=false:=by
   unfold zeG;rw[List.all_eq_false];exact⟨x,hpre.subset hx,by rw[hq];simp⟩
  refine⟨.bool false,?_,by rw[hno],hB.trans (belowK_b (w:=w) (Nat.le_refl _) W D _ _ (by omega) hK rfl rfl)⟩
  simp[results,Tryz.results184,go_sem,hc5]
end Go.Proofs.YtjnpjkigofldlaaGreat
namespace Go.Proofs.YtjnpjkigofldlaaGreat
open Go.RowKit
noncomputable def zaD (l:Lw)(os:List Ob)(o:Ob):Bool:=(yt (shapeOf l.ss o.kd).fs o.vs (shapeOf l.ss o.kd).fs.length).all fun x=>os.any (jC x.to x.nm)
noncomputable def yL (l:Lw)(b:Bk)(o:Ob):Bool:=within o.vr 1 b.now&&(yD l.ts o.tm&&(zaX l o&&zaD l b.os o))
noncomputable def zM (l:Lw)(b:Bk):Bool:=decide (b.os.length<=40)&&(zb0 zbG b.os&&b.os.all (yL l b))
theorem zki {l:Lw}{os:List Ob}{o:Ob}{f:BA->BA->Option Int}(h:∀p q,(f p q).isSome=os.any (jC p q)):zeG f (yt (shapeOf l.ss o.kd).fs o.vs (shapeOf l.ss o.kd).fs.length)=zaD l os o:=by
 unfold zeG zaD
 congr 1
 funext x
 exact h _ _
theorem zk3 (l:Lw)(la lb lc:OA)(lca lcb lcc:Nat)(b:Bk)(a0 a1 a2 a3:OA)(c0 c1 c2 c3:Nat)(w:World)(hb:qj w b a0 a1 a2 a3)(hl:qp w l la lb lc)(hml:l.ms.length<=1048576)(hok:yj l.ss l.ms=true)(hfw:∀i (h:i<b.os.length),b.os[i].vs.length<=1048576/\b.os[i].hs.length<=1048576) :
 Calls Tryz.prog 138 #[.agg (lC l la lb lc lca lcb lcc),.agg (bC b a0 a1 a2 a3 c0 c1 c2 c3)] w fun e w'=>e=.returned (.bool (zM l b))/\Bw w w':=by
 have HK:=hid hb;have HL:=hid hl;have HW:=yB hok hfw;clear hb hl hok hfw
 by_cases hln:b.os.length<=40
 rotate_left
 ·have HF:Hid (zM l b=false):=by unfold Hid zM;rw[decide_eq_false hln];rfl
  have hg:(40:Int)<(b.os.length:Int):=by omega
  go_in;go_wp2
  go_ret;exact⟨ze HF.o.symm,zo _ _ _⟩
 have hg:decide ((40:Int)<(b.os.length:Int))=false:=by simp;omega
 have HLN:Hid (b.os.length<=40):=hln;clear hln;go_in;go_wp2_with fail
 obtain⟨hL0,hX0⟩:=qB w (lC l la lb lc lca lcb lcc) (bC b a0 a1 a2 a3 c0 c1 c2 c3) 47 40;have HB0:Hid (Bw w ((w.alloc (.cells (lC l la lb lc lca lcb lcc) 47)).alloc (.cells (bC b a0 a1 a2 a3 c0 c1 c2 c3) 40))):=zo w _ _;obtain⟨W0,hW0⟩:=xN ((w.alloc (.cells (lC l la lb lc lca lcb lcc) 47)).alloc (.cells (bC b a0 a1 a2 a3 c0 c1 c2 c3) 40));have hz0:w.heap.size+1<W0.heap.size:=by rw[hW0];simp
 rw[<- hW0]at HB0 hX0 hL0 ⊢;clear hW0;refine(zjC _ _ b.os _ (HK.o.os.mono HB0.o)).mono ?_;rintro e w1⟨rfl,hb1⟩;have HB1:=hid (HB0.o.trans (hb1.mono HB0.o.size));have hX1:=za hX0 hz0 hb1;have hL1:=za hL0 (nSl hz0) hb1;have hz1:=nLt hz0 hb1.size;clear hb1 hX0 hL0 hz0 HB0
 by_cases has:zb0 zbG b.os=true
 rotate_left
 ·have has':zb0 zbG b.os=false:=by simpa using has
  have HF:Hid (zM l b=false):=by unfold Hid zM;rw[has'];simp
  rw[has'];clear has has';go_wp2
  go_ret;exact⟨ze HF.o.symm,HB1.o⟩
 have HG:Hid (zM l b=b.os.all (yL l b)):=by unfold Hid zM;rw[has,decide_eq_true HLN.o];rfl
 rw[has];clear has;go_wp2_with fail
 refine(zh1 _ _ b.os _ (HK.o.os.mono HB1.o) (by have:=HLN.o;omega)).mono ?_;rintro e w1'⟨⟨f,rfl,hpm,hpf⟩,hb1⟩;have HB1':=hid (HB1.o.trans (hb1.mono HB1.o.size));have hX1':=za hX1 hz1 hb1;have hL1':=za hL1 (nSl hz1) hb1;have hz1':=nLt hz1 hb1.size;have HPM:=yB hpm hpf;clear hb1 hX1 hL1 hz1 HB1 hpm hpf;go_wp2
 go_loopw [24] (fun iv wr=>∃k:Nat,k<=b.os.length/\iv=.i k/\Hid ((b.os.take k).all (yL l b)=true/\Below w1'.heap.size w1' wr)) (fun iv _=>b.os.length-(intOf iv).toNat)
 case atStart=>exact⟨0,Nat.zero_le _,rfl,by simp,bRf _ _⟩
 case round=>
  obtain⟨k,hk,rfl,HQ⟩:=hrel;have hkn:k<=40:=by have:=HLN.o;omega
  by_cases hlt:k<b.os.length
  ·have HBw:Hid (∀W,Below w1'.heap.size w1' W->Bw w W):=fun W hW=>HB1'.out.trans (hW.mono HB1'.out.size)
   obtain⟨ob,off,v0,v1,q0,q1,rfl,hob,hsm,hl0,hl1,d0,d1,d2,d3,d4,d5,d6⟩:=HK.o.os.load (HBw.o _ HQ.o.2) k hlt;have hltI:(k:Int)<(b.os.length:Int):=by omega
   have hob':=nLt hob (HBw.o _ HQ.o.2).size;have hX:=za hX1' hz1' HQ.o.2;have hL:=za hL1' (nSl hz1') HQ.o.2;have hz:=nLt hz1' HQ.o.2.size;have HOB:Hid (qY wr b.os[k] v0 v1):=⟨hsm,hl0,hl1⟩
   have HSn:Hid ((b.os.take (k+1)).all (yL l b)=((b.os.take k).all (yL l b)&&(yL l b) b.os[k])):=qM _ _ _ hlt;have HBo:Hid (∀ob,Below w1'.heap.size w1' (wr.alloc ob)):=fun ob=>HQ.o.2.alloc HQ.o.2.size _
   have HNo:Hid ((yL l b) b.os[k]=false->zM l b=false):=fun h=>by rw[HG.o];exact zaE _ _ _ hlt h
   have HYes:Hid ((yL l b) b.os[k]=true->(b.os.take (k+1)).all (yL l b)=true):=fun h=>by rw[HSn.o,HQ.o.1,h];rfl
   have HF2:Hid (b.os[k].vs.length<=1048576/\b.os[k].hs.length<=1048576):=HW.o.2 k hlt;clear HQ hsm hl0 hl1;go_wp2_with fail
   have hbN:Bw wr (wr.alloc (.cells (oC b.os[k] v0 v1 q0 q1) 116)):=bAl _ _;have hN:=zI wr (oC b.os[k] v0 v1 q0 q1) 116;obtain⟨w2,hw2⟩:=xN (wr.alloc (.cells (oC b.os[k] v0 v1 q0 q1) 116));have hn2:wr.heap.size<w2.heap.size:=by rw[hw2];simp
   rw[<- hw2]at hbN hN ⊢;have HB2:Hid (Below w1'.heap.size w1' w2):=by unfold Hid;rw[hw2];exact HBo.o _
   have HO2:=hid (HOB.o.mono hbN);have hX2:=za hX hz hbN;have hL2:=za hL (nSl hz) hbN;have hz2:=nLt hz hbN.size;have hy2:=nSl hz2;clear hw2 d0 d1 d2 d3 d4 d5 d6 hX hL hbN;refine(qZ _ _ _ _).mono ?_;rintro e w3⟨rfl,rfl⟩
   by_cases t1:within b.os[k].vr 1 b.now=true
   rotate_left
   ·have HF:Hid (zM l b=false):=HNo.o (by unfold yL;rw[bFi t1];rfl)
    rw[bFi t1];clear t1;go_wp2
    go_ret;exact⟨ze HF.o.symm,HBw.o _ HB2.o⟩
   rw[t1];have HT1:=hid t1;clear t1;go_wp2_with fail
   refine(zc4 _ _ l.ts b.os[k].tm _ (HL.o.ts.mono (HBw.o _ HB2.o))).mono ?_;rintro e w4⟨rfl,hb4⟩;have HB4:=hid (HB2.o.trans (hb4.mono HB2.o.size));have hN4:=za hN hn2 hb4;have hX4:=za hX2 hz2 hb4;have hL4:=za hL2 hy2 hb4;have hn4:=nLt hn2 hb4.size;have hz4:=nLt hz2 hb4.size;have hy4:=nLt hy2 hb4.size;have HO4:=hid (HO2.o.mono hb4);clear hb4 hN hX2 hL2 hn2 hz2 hy2
   by_cases t2:yD l.ts b.os[k].tm=true
   rotate_left
   ·have HF:Hid (zM l b=false):=HNo.o (by unfold yL;rw[HT1.o,bFi t2];rfl)
    rw[bFi t2];clear t2;go_wp2
    go_ret;exact⟨ze HF.o.symm,HBw.o _ HB4.o⟩
   rw[t2];have HT2:Hid (yD l.ts b.os[k].tm=true):=t2;clear t2;go_wp2_with fail
   refine(zos l la lb lc lca lcb lcc b.os[k] v0 v1 q0 q1 _ (HL.o.mono (HBw.o _ HB4.o)) hml HO4.o HF2.o.1 HF2.o.2 HW.o.1).mono ?_;rintro e w5⟨rfl,hb5⟩;have HB5:Hid (Below w1'.heap.size w1' w5):=HB4.o.trans (hb5.mono HB4.o.size);have hN5:=za hN4 hn4 hb5;have hL5:=za hL4 hy4 hb5;have hn5:=nLt hn4 hb5.size;have hy5:=nLt hy4 hb5.size;have HO5:Hid (qY w5 b.os[k] v0 v1):=HO4.o.mono hb5;clear hb5 hN4 hX4 hL4 hn4 hz4 hy4
   by_cases t3:zaX l b.os[k]=true
   rotate_left
   ·have HF:Hid (zM l b=false):=HNo.o (by unfold yL;rw[HT1.o,HT2.o,bFi t3];rfl)
    rw[bFi t3];clear t3;go_wp2
    go_ret;exact⟨ze HF.o.symm,HBw.o _ HB5.o⟩
   have HT3:Hid (zaX l b.os[k]=true):=t3
   have HC:Hid (b.os[k].vs.length=(shapeOf l.ss b.os[k].kd).fs.length):=by
    have h:=t3;unfold zaX at h;simp only[Bool.and_eq_true,decide_eq_true_eq]at h;exact(zb4 (zay HW.o.1 h.1)).1
   rw[t3];clear t3;go_wp2_with fail
   refine(zot l la lb lc lca lcb lcc w1.heap.size f b.os[k] v0 v1 q0 q1 _ (HL.o.mono (HBw.o _ HB5.o)) (HPM.o.1.mono HB5.o) HO5.o HC.o).mono ?_;rintro e w6⟨rfl,hb6⟩;have HB6:Hid (Below w1'.heap.size w1' w6):=HB5.o.trans (hb6.mono HB5.o.size);have HLE:Hid (zeG f (yt (shapeOf l.ss b.os[k].kd).fs b.os[k].vs (shapeOf l.ss b.os[k].kd).fs.length)=zaD l b.os b.os[k]):=zki HPM.o.2;rw[HLE.o];clear hb6
   by_cases t4:zaD l b.os b.os[k]=true
   ·have HY:Hid ((b.os.take (k+1)).all (yL l b)=true):=HYes.o (by unfold yL;rw[HT1.o,HT2.o,HT3.o,t4];rfl)
    rw[t4];clear t4;go_wp2
    exact⟨⟨k+1,by omega,by go_num,HY.o,HB6.o⟩,zi hlt⟩
   ·have HF:Hid (zM l b=false):=HNo.o (by unfold yL;rw[HT1.o,HT2.o,HT3.o,bFi t4];rfl)
    rw[bFi t4];clear t4;go_wp2
    go_ret;exact⟨ze HF.o.symm,HBw.o _ HB6.o⟩
  ·have e:k=b.os.length:=by omega
   subst e
   have HE:Hid (zM l b=true):=by
    unfold Hid;rw[HG.o];have h:=HQ.o.1;rw[tOl (Nat.le_refl _)]at h;exact h
   have HBe:=hid (HB1'.out.trans (HQ.o.2.mono HB1'.out.size));clear hlt hk HQ;go_wp2
   go_ret;exact⟨ze HE.o.symm,HBe.o⟩
end Go.Proofs.YtjnpjkigofldlaaGreat
namespace Go.Proofs.YtjnpjkigofldlaaGreat
open Go.RowKit Go.Shelf
variable {B r:Nat}{w w':World}
theorem zpa (w:World)(X:Obj):∃W,W=w.alloc X/\W.heap[w.heap.size]?=some X/\Bw w W/\W.heap.size=w.heap.size+1:=⟨_,rfl,alloc_at w X,bAl _ _,by simp⟩
theorem zsc (w:World)(X Y Z:Obj):∃W,W=((w.alloc X).alloc Y).alloc Z/\(W.heap[w.heap.size]?=some X/\W.heap[w.heap.size+1]?=some Y/\W.heap[w.heap.size+1+1]?=some Z)/\Bw w W/\W.heap.size=w.heap.size+1+1+1:=⟨_,rfl,zmi w X Y Z,below3' w X Y Z,by simp⟩
structure But (r B:Nat)(w w':World):Prop where
 os:w'.os=w.os
 tape:w'.tape=w.tape
 output:w'.output=w.output
 size:w.heap.size<=w'.heap.size
 block:∀k,k<B->k≠r->w'.heap[k]?=w.heap[k]?
theorem But.of_below (h:Below B w w'):But r B w w':=⟨h.os,h.tape,h.output,h.size,fun k hk _=>h.block k hk⟩
theorem But.refl (r B:Nat)(w:World):But r B w w:=But.of_below (bRf B w)
theorem But.trans {a b c:World}(h:But r B a b)(k:But r B b c):But r B a c:=
 ⟨k.os.trans h.os,k.tape.trans h.tape,k.output.trans h.output,Nat.le_trans h.size k.size,fun i hi hr=>(k.block i hi hr).trans (h.block i hi hr)⟩
theorem But.mono {B':Nat}(h:But r B w w')(hB:B'<=B):But r B' w w':=⟨h.os,h.tape,h.output,h.size,fun k hk hr=>h.block k (nLt hk hB) hr⟩
theorem But.below (h:But r B w w')(hr:r<B):Below r w w':=⟨h.os,h.tape,h.output,h.size,fun k hk=>h.block k (Nat.lt_trans hk hr) (Nat.ne_of_lt hk)⟩
theorem But.cb {es:Array MapEntry}{ck:Nat}(h:But r B w w')(hm:w.heap[r]?=some (.map es ck)):CB B w w':=
 ⟨h.size,fun k C t z hk hc=>(h.block k hk (fun e=>by rw[e,hm]at hc;cases hc)).trans hc⟩
theorem But.keeps (h:But r w.heap.size w w')(hr:r<B):KeepsFrom B w w':=
 ⟨h.size,fun k o hB hk _=>(h.block k (gES hk).1 (by omega)).trans hk⟩
theorem But.boxed {b:Nat}{t:TypeId}{v:Value}(h:But r B w w')(hb:Boxed w b t v)(hB:b<B)(hr:b≠r):Boxed w' b t v:=(h.block b hB hr).trans hb
theorem zon {β:Type}(hr:r<B)(f:β->BA->BA->Option Int):OwnFrom B (fun s W=>zH W r (f s)):=by
 intro s W W' row hs hg hrow;refine hs.keep (hg.block r hs.lt (fun e=>?_))
 have:=(hrow r e.symm).1
 omega
theorem zqH {β γ:Type}{I:γ->β->World->Prop}(h:∀c,OwnFrom B (I c)):OwnFrom B (fun s W=>∃c,I c s W):=by
 rintro s W W' row⟨c,hs⟩ hg hr;exact⟨c,h c s W W' row hs hg hr⟩
theorem zoI {β:Type}{C:Nat}{w0:World}(h0:C<=w0.heap.size)(hC:C<=B):OwnFrom B (fun(_:β) W=>But r C w0 W):=by
 intro s W W' row hs hg hr;refine hs.trans ⟨hg.os,hg.tape,hg.output,hg.size,fun k hk _=>?_⟩;exact hg.block k (nLt hk (Nat.le_trans h0 hs.size)) (fun e=>by have:=(hr k e.symm).1;omega)
end Go.Proofs.YtjnpjkigofldlaaGreat
