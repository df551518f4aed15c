import Derived.Test.YtihdafafigceiaaGreatM34
import Derived.Test.YtihdafafigceiaaGreatM33
set_option maxHeartbeats 4000000
namespace Go.Proofs.YtihdafafigceiaaGreat
open Go.RowKit Go.Shelf
attribute [local go_sem] Oper.semAt_some
def zdW (f:ByteArray->ByteArray->Option Int) (xs:List Lk):Bool:=xs.all fun x=>(f x.to x.nm).isSome
set_option maxRecDepth 100000 in
theorem zks (l:Lw) (a b c:Option Addr) (ca cb cc:Nat) (r:Nat) (f:ByteArray->ByteArray->Option Int) (o:Ob) (va ha:Option Addr) (cap cap':Nat) (w:World) (hL:y9 w l a b c) (hM:yc w r f) (ho:qj w o va ha) (hc:o.vs.length=(Gate.shapeOf l.ss o.kd).fs.length) :
 Calls Tryz.prog 150 #[.agg #[.slice a l.ss.length ca,.slice b l.ms.length cb,.slice c l.ts.length cc],.map (some r),.agg #[.string o.kd,.string o.nm,.string o.tm,.slice va o.vs.length cap,.bool o.en,.slice ha o.hs.length cap',.int .i64 o.vr]] w
  fun e w'=>e = .returned (.bool (zdW f (qX (Gate.shapeOf l.ss o.kd).fs o.vs (Gate.shapeOf l.ss o.kd).fs.length)))/\Below w.heap.size w w':=by
 have HH:Hid (y9 w l a b c/\yc w r f/\qj w o va ha/\o.vs.length=(Gate.shapeOf l.ss o.kd).fs.length):=⟨hL,hM,ho,hc⟩
 clear hL hM ho hc
 refine (callsIn_wide (n:=6)).1 ?_
 refine callsIn_of_wp_marks Tryz.func150 rfl trivial ?_ rfl
 simp only [Tryz.ntmps150,List.size_toArray,List.length_cons,List.length_nil,Nat.reduceAdd,Nat.reduceSub,Array.replicate_succ,Array.replicate_zero,List.push_toArray,List.append_toArray,List.nil_append,List.cons_append]
 gi_wp2_with fail
 refine ⟨trivial,?_⟩
 have hb4:Below w.heap.size w ((((w.alloc (.cells #[.slice a l.ss.length ca,.slice b l.ms.length cb,.slice c l.ts.length cc] 41)).alloc (.cells #[.map (some r)] 134)).alloc (.cells #[.string o.kd,.string o.nm,.string o.tm,.slice va o.vs.length cap,.bool o.en,.slice ha o.hs.length cap',.int .i64 o.vr] 115)).alloc (.cells #[.bool false] 4)):=(ji _ _ _ _).alloc (by simp;omega) _
 have hbR:=Boxed.new (((w.alloc (.cells #[.slice a l.ss.length ca,.slice b l.ms.length cb,.slice c l.ts.length cc] 41)).alloc (.cells #[.map (some r)] 134)).alloc (.cells #[.string o.kd,.string o.nm,.string o.tm,.slice va o.vs.length cap,.bool o.en,.slice ha o.hs.length cap',.int .i64 o.vr] 115)) 4 (.bool false)
 have hbP:=((Boxed.new (w.alloc (.cells #[.slice a l.ss.length ca,.slice b l.ms.length cb,.slice c l.ts.length cc] 41)) 134 (.map (some r))).alloc (.cells #[.string o.kd,.string o.nm,.string o.tm,.slice va o.vs.length cap,.bool o.en,.slice ha o.hs.length cap',.int .i64 o.vr] 115)).alloc (.cells #[.bool false] 4)
 simp only [World.size_alloc] at hbR hbP
 obtain ⟨w4,hw4⟩:∃ w4,w4=((((w.alloc (.cells #[.slice a l.ss.length ca,.slice b l.ms.length cb,.slice c l.ts.length cc] 41)).alloc (.cells #[.map (some r)] 134)).alloc (.cells #[.string o.kd,.string o.nm,.string o.tm,.slice va o.vs.length cap,.bool o.en,.slice ha o.hs.length cap',.int .i64 o.vr] 115)).alloc (.cells #[.bool false] 4)):=⟨_,rfl⟩
 rw [<- hw4] at hb4 hbR hbP ⊢
 clear hw4
 refine (callsIn_wide.2 (zhg l a b c ca cb cc o va ha cap cap' w4 (HH.out.1.mono hb4))).mono ?_
 rintro e W0 ⟨Bs,Bo,fa,fcap,rfl,hBs,hBo,hfl,hXs,hXo,hb1⟩
 have bR:Boxed W0 (w.heap.size+1+1+1) 4 (.bool false):=(hb1.block _ hbR.lt).trans hbR
 have bP:Boxed W0 (w.heap.size+1) 134 (.map (some r)):=(hb1.block _ hbP.lt).trans hbP
 have HB0:Hid (Below w.heap.size w W0):=hb4.trans (hb1.mono hb4.size)
 have hN:w.heap.size<=W0.heap.size:=HB0.out.size
 have HO0:Hid (zD W0 va o.vs):=HH.out.2.2.1.vals.mono HB0.out
 clear hb1 hb4 hbR hbP
 gi_wp2_with fail
 refine wpIn_rangeFunc_ownH rfl (by omega) (gf:=163) (lb:=#[.pointer (some ⟨Bs,0,none⟩),.pointer (some ⟨Bo,0,none⟩)]) rfl trivial (enters_of Tryz.func163 (by kernel_rfl) rfl)
  (zgW 5 (by omega) Bs Bo (Gate.shapeOf l.ss o.kd).kd (Gate.shapeOf l.ss o.kd).fs fa fcap o va ha cap cap' W0 hBs hBo hXs hXo hfl HO0.out HH.out.2.2.2) belowK_t (belowK_b (Nat.le_refl _)) (Below.refl _ _) (fun _=>rfl)
  (fun pre W=>(∀ x ∈ pre,(f x.to x.nm).isSome=true)/\Below W0.heap.size W0 W)
  (fun cd pre W=>((cd = .ret/\∃ x ∈ pre,(f x.to x.nm).isSome=false)/\Boxed W (w.heap.size+1+1+1) 4 (.bool false))/\Below w.heap.size w W)
  (OwnFrom.and (ownFrom_pure _ _) (ownFrom_below (Nat.le_refl _) (Nat.le_refl _)))
  (fun cd=>OwnFrom.and (OwnFrom.and (ownFrom_pure _ _) (Own.from (boxed_own _ _ _) _)) (ownFrom_below (Nat.le_refl _) hN))
  ⟨by simp,Below.refl _ _⟩
  (fun x a' W=>∃ Bx,W.heap[Bx]?=some (.cells #[.int .i64 x.pl,.int .i64 x.rl,.string x.to,.string x.nm] 177)/\a'={ tmps:=#[.agg #[.slice a l.ss.length ca,.slice b l.ms.length cb,.slice c l.ts.length cc],.map (some r),.agg #[.string o.kd,.string o.nm,.string o.tm,.slice va o.vs.length cap,.bool o.en,.slice ha o.hs.length cap',.int .i64 o.vr],.pointer (some ⟨w.heap.size,0,none⟩),.pointer (some ⟨w.heap.size+1,0,none⟩),.pointer (some ⟨w.heap.size+1+1,0,none⟩),.pointer (some ⟨w.heap.size+1+1+1,0,none⟩),.pointer (some ⟨Bx,0,none⟩),undef,undef,.agg #[.slice a l.ss.length ca,.slice b l.ms.length cb,.slice c l.ts.length cc],.agg #[.string o.kd,.string o.nm,.string o.tm,.slice va o.vs.length cap,.bool o.en,.slice ha o.hs.length cap',.int .i64 o.vr],.func (.func 163) #[] #[.pointer (some ⟨Bs,0,none⟩),.pointer (some ⟨Bo,0,none⟩)],.agg #[.int .i64 x.pl,.int .i64 x.rl,.string x.to,.string x.nm],undef,undef,undef,undef,undef,undef,undef,undef,undef],defers:=[] })
  (fun x a' _ X Y row hs hg hr=>by
   obtain ⟨Bx,e1,e2⟩:=hs
   refine ⟨Bx,(hg.block Bx (Array.getElem?_eq_some_iff.1 e1).1 (fun e=>?_)).trans e1,e2⟩
   obtain ⟨_,ob,h1,h2⟩:=hr Bx e.symm
   rw [e1] at h1
   cases h1
   cases h2)
  ?assign ?body ?done ?stop
 case assign =>
  rintro l' pre x W K ⟨hp,hB1⟩ hK
  unfold Lk.enc
  gi_wp2
  exact hK _ _ ((KeepsOthers.alloc _ _).from _) ((Below.refl _ W).alloc hB1.size _) ⟨hp,hB1.alloc hB1.size _⟩ ⟨W.heap.size,World.alloc_heap_new W _,rfl⟩
 case body =>
  rintro l' pre x a' W hl ⟨rr,hr⟩ ⟨hp,hB1⟩ ⟨Bx,hBx,rfl⟩ hlt
  have cX:=zbO hBx
  have bP1:Boxed W (w.heap.size+1) 134 (.map (some r)):=(hB1.block _ bP.lt).trans bP
  have cP:=bP1.cell
  have bR1:Boxed W (w.heap.size+1+1+1) 4 (.bool false):=(hB1.block _ bR.lt).trans bR
  have cR:=bR1.cell
  have fR:=bR1.frozen
  have hlk:=(HH.out.2.1.mono (HB0.out.trans (hB1.mono HB0.out.size))).look zdB Tryz.underlying134 x.to x.nm x.hto x.hnm true
  unfold qM at hlk
  simp only [if_true] at hlk
  have HB2:Hid (Below W0.heap.size W0 W):=hB1
  have HP:Hid (∀ x ∈ pre,(f x.to x.nm).isSome=true):=hp
  have HR1:Hid (Boxed W (w.heap.size+1+1+1) 4 (.bool false)):=bR1
  clear hp hB1 bR1
  cases hq:(f x.to x.nm).isSome with
  | false =>
   rw [hq] at hlk
   gi_wp2
   exact ⟨(KeepsOthers.setCell _ _ _).from _,⟨⟨rfl,x,List.mem_append.2 (.inr (by simp)),hq⟩,HR1.out.set _⟩,(HB0.out.trans (HB2.out.mono hN)).setCell (p:=⟨(w.heap.size+1+1+1),0,none⟩) (by show w.heap.size<=(w.heap.size+1+1+1);omega) _⟩
  | true =>
   rw [hq] at hlk
   gi_wp2
   exact ⟨KeepsFrom.refl _ _,Below.refl _ _,fun z hz=>(List.mem_append.1 hz).elim (HP.out z) (fun e=>by simp at e;subst e;exact hq),HB2.out⟩
 case done =>
  rintro D ys W hD rfl ⟨hp,hB1⟩ hK
  have bR1:Boxed W (w.heap.size+1+1+1) 4 (.bool false):=(hB1.block _ bR.lt).trans bR
  have cR:=bR1.cell
  have fR:=bR1.frozen
  gi_wp2
  have hK':=(KeepsOthers.setCell W ⟨(w.heap.size+1+1+1),0,none⟩ (.bool true)).same D _ hK rfl
  refine ⟨by simp,.inl ⟨_,_,rfl,run_takeDeferred hK',?_⟩⟩
  have hc5:=cell_kept (World.cell?_setCell_same' W ⟨(w.heap.size+1+1+1),0,none⟩ (.bool true) (by rw [cR];rfl)) (grownBy_putObj' _ D (.deferred none)) (fun r e=>by cases e;exact ⟨_,hK',rfl⟩)
  have hall:zdW f (qX (Gate.shapeOf l.ss o.kd).fs o.vs (Gate.shapeOf l.ss o.kd).fs.length)=true:=List.all_eq_true.2 hp
  refine ⟨.bool true,?_,by rw [hall],((HB0.out.trans (hB1.mono hN)).setCell (p:=⟨(w.heap.size+1+1+1),0,none⟩) (by show w.heap.size<=(w.heap.size+1+1+1);omega) _).trans (belowK_b (w:=w) (Nat.le_refl _) _ D _ _ (by omega) hK' rfl rfl)⟩
  simp [results,Tryz.results150,go_sem,hc5]
 case stop =>
  rintro D cd pre W hD hpre ⟨⟨⟨rfl,x,hx,hq⟩,bR1⟩,hB⟩ hK
  gi_wp2
  refine ⟨by simp,.inl ⟨_,_,rfl,run_takeDeferred hK,?_⟩⟩
  have hc5:=cell_kept bR1.cell (grownBy_putObj' _ D (.deferred none)) (fun r e=>by cases e;exact ⟨_,hK,rfl⟩)
  have hno:zdW f (qX (Gate.shapeOf l.ss o.kd).fs o.vs (Gate.shapeOf l.ss o.kd).fs.length)=false:=by
   unfold zdW
   rw [List.all_eq_false]
   exact ⟨x,hpre.subset hx,by rw [hq];simp⟩
  refine ⟨.bool false,?_,by rw [hno],hB.trans (belowK_b (w:=w) (Nat.le_refl _) W D _ _ (by omega) hK rfl rfl)⟩
  simp [results,Tryz.results150,go_sem,hc5]
end Go.Proofs.YtihdafafigceiaaGreat
namespace Go.Proofs.YtihdafafigceiaaGreat
open Go.RowKit
theorem zoU (r:Nat) (f:ByteArray->ByteArray->Option Int) (p q:ByteArray) (w:World) (hM:yc w r f) (hp:p.size<=maxLen) (hq:q.size<=maxLen) :
 Calls Tryz.prog 114 #[.map (some r),qM p q] w fun e w'=>e = .returned (.bool (f p q).isSome)/\Below w.heap.size w w':=by
 have hb:Below w.heap.size w (w.alloc (.cells #[.string p,.string q] 171)):=(Below.refl _ _).alloc (Nat.le_refl _) _
 have hlk:=(hM.mono hb).look zdB Tryz.underlying135 p q hp hq true
 unfold qM at hlk ⊢
 simp only [if_true] at hlk
 have HB:Hid (Below w.heap.size w (w.alloc (.cells #[.string p,.string q] 171))):=hb
 clear hb hM
 cases hs:(f p q).isSome with
 | false =>
  rw [hs] at hlk
  go_enter Tryz.func114,Tryz.ntmps114
  go_wp2_with fail
  go_ret
  exact ⟨rfl,HB.out⟩
 | true =>
  rw [hs] at hlk
  go_enter Tryz.func114,Tryz.ntmps114
  go_wp2_with fail
  go_ret
  exact ⟨rfl,HB.out⟩
def zbp (f:ByteArray->ByteArray->Option Int) (os:List Ob) (k:Nat):Prop:=∀ p q,(f p q).isSome=(os.take k).any fun o=>o.en && Gate.zaa p q o
theorem zbp.put {f:ByteArray->ByteArray->Option Int} {os:List Ob} {k:Nat} (h:zbp f os k) (hlt:k < os.length) (he:os[k].en=true) (v:Int):zbp (fun p q=>if p=os[k].kd/\q=os[k].nm then some v else f p q) os (k+1):=by
 intro p q
 rw [List.take_succ_eq_append_getElem hlt,List.any_append,<- h p q]
 simp only [List.any_cons,List.any_nil,Bool.or_false,he,Bool.true_and]
 by_cases e:p=os[k].kd/\q=os[k].nm
 ·rw [if_pos e]
  unfold Gate.zaa
  simp [e.1,e.2]
 ·rw [if_neg e]
  have:Gate.zaa p q os[k]=false:=by
   unfold Gate.zaa
   rw [Bool.and_eq_false_iff,decide_eq_false_iff_not,decide_eq_false_iff_not]
   by_cases e1:os[k].kd=p
   ·exact Or.inr fun e2=>e ⟨e1.symm,e2.symm⟩
   ·exact Or.inl e1
  rw [this,Bool.or_false]
theorem zbp.skip {f:ByteArray->ByteArray->Option Int} {os:List Ob} {k:Nat} (h:zbp f os k) (hlt:k < os.length) (he:os[k].en=false):zbp f os (k+1):=by
 intro p q
 rw [List.take_succ_eq_append_getElem hlt,List.any_append,<- h p q]
 simp [he]
theorem zjP (b:Bk) (a0 a1 a2 a3:Option Addr) (c0 c1 c2 c3:Nat) (w:World) (hb:qw w b a0 a1 a2 a3) (hl:b.os.length<=1048576) :
 Calls Tryz.prog 71 #[.agg #[.int .i64 b.now,.int .i64 b.tick,.int .i64 b.given,.slice a0 b.os.length c0,.slice a1 b.gs.length c1,.slice a2 b.ls.length c2,.slice a3 b.ps.length c3]] w fun e w'=>(∃ r f,e = .returned (.map (some r))/\w.heap.size<=r/\yc w' r f/\zbp f b.os b.os.length)/\Below w.heap.size w w':=by
 have HW:Hid (qw w b a0 a1 a2 a3):=hb
 have hmk:∀ w:World,(Instr.makeMap 135 none).run Tryz.prog w = .ok (.map (some w.heap.size)) (w.alloc (.map #[] 0)):=fun w=>by kernel_rfl
 clear hb
 go_enter Tryz.func71,Tryz.ntmps71
 go_wp2_with fail
 have hX:=zm w #[.int .i64 b.now,.int .i64 b.tick,.int .i64 b.given,.slice a0 b.os.length c0,.slice a1 b.gs.length c1,.slice a2 b.ls.length c2,.slice a3 b.ps.length c3] 48
 have HB0:Hid (Below w.heap.size w (w.alloc (.cells #[.int .i64 b.now,.int .i64 b.tick,.int .i64 b.given,.slice a0 b.os.length c0,.slice a1 b.gs.length c1,.slice a2 b.ls.length c2,.slice a3 b.ps.length c3] 48))):=(Below.refl _ _).alloc (Nat.le_refl _) _
 obtain ⟨W0,hW0⟩:∃ W0,W0=w.alloc (.cells #[.int .i64 b.now,.int .i64 b.tick,.int .i64 b.given,.slice a0 b.os.length c0,.slice a1 b.gs.length c1,.slice a2 b.ls.length c2,.slice a3 b.ps.length c3] 48):=⟨_,rfl⟩
 have hz0:w.heap.size < W0.heap.size:=by rw [hW0];simp
 have HWe:Hid (W0.heap.size=w.heap.size+1):=by rw [Hid,hW0];simp
 rw [<- hW0] at HB0 hX
 have hXm:=za hX hz0 ((Below.refl W0.heap.size W0).alloc (Nat.le_refl _) (.map #[] 0))
 have hzm:w.heap.size < (W0.alloc (.map #[] 0)).heap.size:=Nat.lt_trans hz0 (by simp)
 (try rw [<- hW0])
 (try rw [<- HWe.out])
 clear hW0
 (try go_wp2_with fail)
 clear hmk hXm hzm
 go_loopw [10] (fun iv wr=>∃ k:Nat,k<=b.os.length/\iv = .int .i64 k/\Hid ((∃ f,yc wr W0.heap.size f/\zbp f b.os k)/\Below W0.heap.size W0 wr)) (fun iv _=>b.os.length - (intOf iv).toNat)
 case atStart=>exact ⟨0,Nat.zero_le _,rfl,⟨_,yc.new W0,fun p q=>by simp⟩,(Below.refl _ _).alloc (Nat.le_refl _) _⟩
 case round =>
  obtain ⟨k,hk,rfl,HX⟩:=hrel
  obtain ⟨⟨f,hf,hc⟩,hB⟩:=HX.out
  have hkn:k<=1048576:=by omega
  by_cases hlt:k < b.os.length
  ·obtain ⟨ob,off,v0,v1,q0,q1,rfl,hob,hsm,hl0,hl1,d0,d1,d2,d3,d4,d5,d6⟩:=HW.out.os.load (HB0.out.trans (hB.mono HB0.out.size)) k hlt
   have hltI:(k:Int) < (b.os.length:Int):=by omega
   have hob':ob < wr.heap.size:=Nat.lt_of_lt_of_le hob (HB0.out.trans (hB.mono HB0.out.size)).size
   have HKn:Hid (b.os[k].Small):=hsm
   have HPf:Hid (yc wr W0.heap.size f/\zbp f b.os k/\Below W0.heap.size W0 wr):=⟨hf,hc,hB⟩
   clear hf hc hB HX hsm hl0 hl1
   cases he:b.os[k].en with
   | false =>
    rw [he] at d4
    have HC:Hid ((∃ f,yc (wr.alloc (.cells #[.string b.os[k].kd,.string b.os[k].nm,.string b.os[k].tm,.slice v0 b.os[k].vs.length q0,.bool false,.slice v1 b.os[k].hs.length q1,.int .i64 b.os[k].vr] 115)) W0.heap.size f/\zbp f b.os (k+1))/\Below W0.heap.size W0 (wr.alloc (.cells #[.string b.os[k].kd,.string b.os[k].nm,.string b.os[k].tm,.slice v0 b.os[k].vs.length q0,.bool false,.slice v1 b.os[k].hs.length q1,.int .i64 b.os[k].vr] 115))) :=
     ⟨⟨f,HPf.out.1.mono ((Below.refl _ _).alloc (Nat.le_refl _) _),HPf.out.2.1.skip hlt he⟩,HPf.out.2.2.alloc HPf.out.2.2.size _⟩
    go_wp2_with fail
    exact ⟨⟨k+1,by omega,by go_num,HC.out⟩,zn hlt⟩
   | true =>
    have hk7:=zeP b.os[k] v0 v1 q0 q1 (wr.alloc (.cells #[.string b.os[k].kd,.string b.os[k].nm,.string b.os[k].tm,.slice v0 b.os[k].vs.length q0,.bool true,.slice v1 b.os[k].hs.length q1,.int .i64 b.os[k].vr] 115))
    rw [he] at d4 hk7
    go_wp2_with fail
    refine hk7.mono ?_
    rintro e w1 ⟨rfl,hb1⟩
    have hBa:=(HPf.out.2.2.alloc HPf.out.2.2.size (.cells #[.string b.os[k].kd,.string b.os[k].nm,.string b.os[k].tm,.slice v0 b.os[k].vs.length q0,.bool true,.slice v1 b.os[k].hs.length q1,.int .i64 b.os[k].vr] 115))
    have hf1:yc w1 W0.heap.size f:=(HPf.out.1.mono ((Below.refl _ _).alloc (Nat.le_refl _) _)).mono hb1
    obtain ⟨w2,hup,hf2,hp2⟩:=hf1.upd zdB Tryz.underlying135 b.os[k].kd b.os[k].nm HKn.out.kd HKn.out.nm (k:Int)
    have HC:Hid ((∃ f,yc w2 W0.heap.size f/\zbp f b.os (k+1))/\Below W0.heap.size W0 w2) :=
     ⟨⟨_,hf2,HPf.out.2.1.put hlt he k⟩,hp2.below (hBa.trans (hb1.mono hBa.size)) (Nat.le_refl _)⟩
    clear hf1 hf2 hp2 hb1 hBa hk7
    go_wp2_with fail
    exact ⟨⟨k+1,by omega,by go_num,HC.out⟩,zn hlt⟩
  ·have e:k=b.os.length:=by omega
   subst e
   have HE:Hid ((∃ f,yc wr W0.heap.size f/\zbp f b.os b.os.length)/\Below w.heap.size w wr):=⟨⟨f,hf,hc⟩,HB0.out.trans (hB.mono HB0.out.size)⟩
   clear hf hc hB HX hlt hk
   go_wp2_with fail
   go_ret
   obtain ⟨⟨f,h1,h2⟩,h3⟩:=HE.out
   exact ⟨⟨_,f,rfl,Nat.le_of_lt hz0,h1,h2⟩,h3⟩
end Go.Proofs.YtihdafafigceiaaGreat
namespace Go.Proofs.YtihdafafigceiaaGreat
open Go.RowKit Go.Shelf
attribute [local go_sem] Oper.semAt_some
def zdX (f:ByteArray->ByteArray->Option Int) (xs:List Lk):Bool:=xs.any fun x=>decide (x.rl=3) && (f x.to x.nm).isSome
theorem KeepsOthers.of_below {W W':World} (h:Below W.heap.size W W'):KeepsOthers W W':=⟨h.size,fun k _ hk _=>(h.block k (Array.getElem?_eq_some_iff.1 hk).1).trans hk⟩
set_option maxRecDepth 100000 in
theorem zmm (l:Lw) (a b c:Option Addr) (ca cb cc:Nat) (r:Nat) (f:ByteArray->ByteArray->Option Int) (o:Ob) (va ha:Option Addr) (cap cap':Nat) (w:World) (hL:y9 w l a b c) (hM:yc w r f) (ho:qj w o va ha) (hc:o.vs.length=(Gate.shapeOf l.ss o.kd).fs.length) :
 Calls Tryz.prog 72 #[.agg #[.slice a l.ss.length ca,.slice b l.ms.length cb,.slice c l.ts.length cc],.agg #[.string o.kd,.string o.nm,.string o.tm,.slice va o.vs.length cap,.bool o.en,.slice ha o.hs.length cap',.int .i64 o.vr],.map (some r)] w
  fun e w'=>e = .returned (.bool (zdX f (qX (Gate.shapeOf l.ss o.kd).fs o.vs (Gate.shapeOf l.ss o.kd).fs.length)))/\Below w.heap.size w w':=by
 have HH:Hid (y9 w l a b c/\yc w r f/\qj w o va ha/\o.vs.length=(Gate.shapeOf l.ss o.kd).fs.length):=⟨hL,hM,ho,hc⟩
 clear hL hM ho hc
 refine (callsIn_wide (n:=6)).1 ?_
 refine callsIn_of_wp_marks Tryz.func72 rfl trivial ?_ rfl
 simp only [Tryz.ntmps72,List.size_toArray,List.length_cons,List.length_nil,Nat.reduceAdd,Nat.reduceSub,Array.replicate_succ,Array.replicate_zero,List.push_toArray,List.append_toArray,List.nil_append,List.cons_append]
 gi_wp2_with fail
 refine ⟨trivial,?_⟩
 have hb4:Below w.heap.size w ((((w.alloc (.cells #[.slice a l.ss.length ca,.slice b l.ms.length cb,.slice c l.ts.length cc] 41)).alloc (.cells #[.string o.kd,.string o.nm,.string o.tm,.slice va o.vs.length cap,.bool o.en,.slice ha o.hs.length cap',.int .i64 o.vr] 115)).alloc (.cells #[.map (some r)] 135)).alloc (.cells #[.bool false] 4)):=(ji _ _ _ _).alloc (by simp;omega) _
 have hbR:=Boxed.new (((w.alloc (.cells #[.slice a l.ss.length ca,.slice b l.ms.length cb,.slice c l.ts.length cc] 41)).alloc (.cells #[.string o.kd,.string o.nm,.string o.tm,.slice va o.vs.length cap,.bool o.en,.slice ha o.hs.length cap',.int .i64 o.vr] 115)).alloc (.cells #[.map (some r)] 135)) 4 (.bool false)
 have hbP:=(Boxed.new ((w.alloc (.cells #[.slice a l.ss.length ca,.slice b l.ms.length cb,.slice c l.ts.length cc] 41)).alloc (.cells #[.string o.kd,.string o.nm,.string o.tm,.slice va o.vs.length cap,.bool o.en,.slice ha o.hs.length cap',.int .i64 o.vr] 115)) 135 (.map (some r))).alloc (.cells #[.bool false] 4)
 simp only [World.size_alloc] at hbR hbP
 obtain ⟨w4,hw4⟩:∃ w4,w4=((((w.alloc (.cells #[.slice a l.ss.length ca,.slice b l.ms.length cb,.slice c l.ts.length cc] 41)).alloc (.cells #[.string o.kd,.string o.nm,.string o.tm,.slice va o.vs.length cap,.bool o.en,.slice ha o.hs.length cap',.int .i64 o.vr] 115)).alloc (.cells #[.map (some r)] 135)).alloc (.cells #[.bool false] 4)):=⟨_,rfl⟩
 rw [<- hw4] at hb4 hbR hbP ⊢
 clear hw4
 refine (callsIn_wide.2 (zhg l a b c ca cb cc o va ha cap cap' w4 (HH.out.1.mono hb4))).mono ?_
 rintro e W0 ⟨Bs,Bo,fa,fcap,rfl,hBs,hBo,hfl,hXs,hXo,hb1⟩
 have bR:Boxed W0 (w.heap.size+1+1+1) 4 (.bool false):=(hb1.block _ hbR.lt).trans hbR
 have bP:Boxed W0 (w.heap.size+1+1) 135 (.map (some r)):=(hb1.block _ hbP.lt).trans hbP
 have HB0:Hid (Below w.heap.size w W0):=hb4.trans (hb1.mono hb4.size)
 have hN:w.heap.size<=W0.heap.size:=HB0.out.size
 have HO0:Hid (zD W0 va o.vs):=HH.out.2.2.1.vals.mono HB0.out
 clear hb1 hb4 hbR hbP
 gi_wp2_with fail
 refine wpIn_rangeFunc_ownH rfl (by omega) (gf:=163) (lb:=#[.pointer (some ⟨Bs,0,none⟩),.pointer (some ⟨Bo,0,none⟩)]) rfl trivial (enters_of Tryz.func163 (by kernel_rfl) rfl)
  (zgW 5 (by omega) Bs Bo (Gate.shapeOf l.ss o.kd).kd (Gate.shapeOf l.ss o.kd).fs fa fcap o va ha cap cap' W0 hBs hBo hXs hXo hfl HO0.out HH.out.2.2.2) belowK_t (belowK_b (Nat.le_refl _)) (Below.refl _ _) (fun _=>rfl)
  (fun pre W=>(∀ x ∈ pre,(decide (x.rl=3) && (f x.to x.nm).isSome)=false)/\Below W0.heap.size W0 W)
  (fun cd pre W=>((cd = .ret/\∃ x ∈ pre,(decide (x.rl=3) && (f x.to x.nm).isSome)=true)/\Boxed W (w.heap.size+1+1+1) 4 (.bool true))/\Below w.heap.size w W)
  (OwnFrom.and (ownFrom_pure _ _) (ownFrom_below (Nat.le_refl _) (Nat.le_refl _)))
  (fun cd=>OwnFrom.and (OwnFrom.and (ownFrom_pure _ _) (Own.from (boxed_own _ _ _) _)) (ownFrom_below (Nat.le_refl _) hN))
  ⟨by simp,Below.refl _ _⟩
  (fun x a' W=>∃ Bx,W.heap[Bx]?=some (.cells #[.int .i64 x.pl,.int .i64 x.rl,.string x.to,.string x.nm] 177)/\a'={ tmps:=#[.agg #[.slice a l.ss.length ca,.slice b l.ms.length cb,.slice c l.ts.length cc],.agg #[.string o.kd,.string o.nm,.string o.tm,.slice va o.vs.length cap,.bool o.en,.slice ha o.hs.length cap',.int .i64 o.vr],.map (some r),.pointer (some ⟨w.heap.size,0,none⟩),.pointer (some ⟨w.heap.size+1,0,none⟩),.pointer (some ⟨w.heap.size+1+1,0,none⟩),.pointer (some ⟨w.heap.size+1+1+1,0,none⟩),.pointer (some ⟨Bx,0,none⟩),.agg #[.slice a l.ss.length ca,.slice b l.ms.length cb,.slice c l.ts.length cc],.agg #[.string o.kd,.string o.nm,.string o.tm,.slice va o.vs.length cap,.bool o.en,.slice ha o.hs.length cap',.int .i64 o.vr],.func (.func 163) #[] #[.pointer (some ⟨Bs,0,none⟩),.pointer (some ⟨Bo,0,none⟩)],.agg #[.int .i64 x.pl,.int .i64 x.rl,.string x.to,.string x.nm],undef,undef,undef,undef,undef,undef,undef,undef,undef],defers:=[] })
  (fun x a' _ X Y row hs hg hr=>by
   obtain ⟨Bx,e1,e2⟩:=hs
   refine ⟨Bx,(hg.block Bx (Array.getElem?_eq_some_iff.1 e1).1 (fun e=>?_)).trans e1,e2⟩
   obtain ⟨_,ob,h1,h2⟩:=hr Bx e.symm
   rw [e1] at h1
   cases h1
   cases h2)
  ?assign ?body ?done ?stop
 case assign =>
  rintro l' pre x W K ⟨hp,hB1⟩ hK
  unfold Lk.enc
  gi_wp2
  exact hK _ _ ((KeepsOthers.alloc _ _).from _) ((Below.refl _ W).alloc hB1.size _) ⟨hp,hB1.alloc hB1.size _⟩ ⟨W.heap.size,World.alloc_heap_new W _,rfl⟩
 case body =>
  rintro l' pre x a' W hl ⟨rr,hr⟩ ⟨hp,hB1⟩ ⟨Bx,hBx,rfl⟩ hlt
  have cX:=zbO hBx
  have bP1:Boxed W (w.heap.size+1+1) 135 (.map (some r)):=(hB1.block _ bP.lt).trans bP
  have cP:=bP1.cell
  have bR1:Boxed W (w.heap.size+1+1+1) 4 (.bool false):=(hB1.block _ bR.lt).trans bR
  have cR:=bR1.cell
  have fR:=bR1.frozen
  have HB2:Hid (Below W0.heap.size W0 W):=hB1
  have HP:Hid (∀ x ∈ pre,(decide (x.rl=3) && (f x.to x.nm).isSome)=false):=hp
  have HR1:Hid (Boxed W (w.heap.size+1+1+1) 4 (.bool false)):=bR1
  have HPm:Hid (yc W r f):=HH.out.2.1.mono (HB0.out.trans (hB1.mono HB0.out.size))
  clear hp hB1 bR1
  by_cases h3:x.rl=3
  rotate_left
  ·have hd:decide (x.rl=3)=false:=decide_eq_false h3
   have hd2:(x.rl == 3)=false:=by simpa using h3
   have HN:Hid ((decide (x.rl=3) && (f x.to x.nm).isSome)=false):=by rw [Hid,hd];rfl
   clear h3
   gi_wp2
   refine ⟨trivial,?_⟩
   gi_wp2
   exact ⟨KeepsFrom.refl _ _,Below.refl _ _,fun z hz=>(List.mem_append.1 hz).elim (HP.out z) (fun e=>by simp at e;subst e;exact HN.out),HB2.out⟩
  ·have HE3:Hid (x.rl=3):=h3
   rw [h3] at cX
   gi_wp2_with fail
   refine ⟨trivial,?_⟩
   refine (callsIn_wide.2 (zoU r f x.to x.nm W HPm.out x.hto x.hnm)).mono ?_
   rintro e W1 ⟨rfl,hb⟩
   have bR2:Boxed W1 (w.heap.size+1+1+1) 4 (.bool false):=(hb.block _ HR1.out.lt).trans HR1.out
   have cR2:=bR2.cell
   have fR2:=bR2.frozen
   have HR2:Hid (Boxed W1 (w.heap.size+1+1+1) 4 (.bool false)):=bR2
   have HBb:Hid (Below W.heap.size W W1):=hb
   clear cR fR cX cP bP1 hb bR2
   cases hq:(f x.to x.nm).isSome with
   | true =>
    have HY:Hid ((decide (x.rl=3) && (f x.to x.nm).isSome)=true):=by rw [Hid,HE3.out,hq];rfl
    gi_wp2
    exact ⟨((KeepsOthers.of_below HBb.out).trans (KeepsOthers.setCell _ _ _)).from _,⟨⟨rfl,x,List.mem_append.2 (.inr (by simp)),HY.out⟩,HR2.out.set _⟩,(HB0.out.trans ((HB2.out.trans (HBb.out.mono HB2.out.size)).mono hN)).setCell (p:=⟨(w.heap.size+1+1+1),0,none⟩) (by show w.heap.size<=(w.heap.size+1+1+1);omega) _⟩
   | false =>
    have HY:Hid ((decide (x.rl=3) && (f x.to x.nm).isSome)=false):=by rw [Hid,hq];simp
    gi_wp2
    exact ⟨(KeepsOthers.of_below HBb.out).from _,HBb.out.mono HB2.out.size,fun z hz=>(List.mem_append.1 hz).elim (HP.out z) (fun e=>by simp at e;subst e;exact HY.out),HB2.out.trans (HBb.out.mono HB2.out.size)⟩
 case done =>
  rintro D ys W hD rfl ⟨hp,hB1⟩ hK
  have bR1:Boxed W (w.heap.size+1+1+1) 4 (.bool false):=(hB1.block _ bR.lt).trans bR
  have cR:=bR1.cell
  have fR:=bR1.frozen
  gi_wp2
  have hK':=(KeepsOthers.setCell W ⟨(w.heap.size+1+1+1),0,none⟩ (.bool false)).same D _ hK rfl
  refine ⟨by simp,.inl ⟨_,_,rfl,run_takeDeferred hK',?_⟩⟩
  have hc5:=cell_kept (World.cell?_setCell_same' W ⟨(w.heap.size+1+1+1),0,none⟩ (.bool false) (by rw [cR];rfl)) (grownBy_putObj' _ D (.deferred none)) (fun r e=>by cases e;exact ⟨_,hK',rfl⟩)
  have hall:zdX f (qX (Gate.shapeOf l.ss o.kd).fs o.vs (Gate.shapeOf l.ss o.kd).fs.length)=false:=by
   unfold zdX
   rw [List.any_eq_false]
   exact fun x hx=>by rw [hp x hx];simp
  refine ⟨.bool false,?_,by rw [hall],((HB0.out.trans (hB1.mono hN)).setCell (p:=⟨(w.heap.size+1+1+1),0,none⟩) (by show w.heap.size<=(w.heap.size+1+1+1);omega) _).trans (belowK_b (w:=w) (Nat.le_refl _) _ D _ _ (by omega) hK' rfl rfl)⟩
  simp [results,Tryz.results72,go_sem,hc5]
 case stop =>
  rintro D cd pre W hD hpre ⟨⟨⟨rfl,x,hx,hq⟩,bR1⟩,hB⟩ hK
  gi_wp2
  refine ⟨by simp,.inl ⟨_,_,rfl,run_takeDeferred hK,?_⟩⟩
  have hc5:=cell_kept bR1.cell (grownBy_putObj' _ D (.deferred none)) (fun r e=>by cases e;exact ⟨_,hK,rfl⟩)
  have hno:zdX f (qX (Gate.shapeOf l.ss o.kd).fs o.vs (Gate.shapeOf l.ss o.kd).fs.length)=true:=by
   unfold zdX
   rw [List.any_eq_true]
   exact ⟨x,hpre.subset hx,hq⟩
  refine ⟨.bool true,?_,by rw [hno],hB.trans (belowK_b (w:=w) (Nat.le_refl _) W D _ _ (by omega) hK rfl rfl)⟩
  simp [results,Tryz.results72,go_sem,hc5]
end Go.Proofs.YtihdafafigceiaaGreat
namespace Go.Proofs.YtihdafafigceiaaGreat
open Go.RowKit
namespace Gate
noncomputable def zat (l:Lw) (os:List Ob) (o:Ob):Bool:=(qX (shapeOf l.ss o.kd).fs o.vs (shapeOf l.ss o.kd).fs.length).all fun x=>os.any (zaa x.to x.nm)
noncomputable def yJ (l:Lw) (b:Bk) (o:Ob):Bool:=within o.vr 1 b.now && (yB l.ts o.tm && (zaG l o && zat l b.os o))
noncomputable def zN (l:Lw) (b:Bk):Bool:=decide (b.os.length<=40) && (zaX zaQ b.os && b.os.all (yJ l b))
end Gate
theorem ziL {l:Lw} {os:List Ob} {o:Ob} {f:ByteArray->ByteArray->Option Int} (h:∀ p q,(f p q).isSome=os.any (Gate.zaa p q)):zdW f (qX (Gate.shapeOf l.ss o.kd).fs o.vs (Gate.shapeOf l.ss o.kd).fs.length)=Gate.zat l os o:=by
 unfold zdW Gate.zat
 congr 1
 funext x
 exact h _ _
set_option maxRecDepth 20000 in
theorem zje (l:Lw) (la lb lc:Option Addr) (lca lcb lcc:Nat) (b:Bk) (a0 a1 a2 a3:Option Addr) (c0 c1 c2 c3:Nat) (w:World) (hb:qw w b a0 a1 a2 a3) (hl:y9 w l la lb lc) (hml:l.ms.length<=1048576) (hok:Gate.yh l.ss l.ms=true) (hfw:∀ i (h:i < b.os.length),b.os[i].vs.length<=1048576/\b.os[i].hs.length<=1048576) :
 Calls Tryz.prog 107 #[.agg #[.slice la l.ss.length lca,.slice lb l.ms.length lcb,.slice lc l.ts.length lcc],.agg #[.int .i64 b.now,.int .i64 b.tick,.int .i64 b.given,.slice a0 b.os.length c0,.slice a1 b.gs.length c1,.slice a2 b.ls.length c2,.slice a3 b.ps.length c3]] w fun e w'=>e = .returned (.bool (Gate.zN l b))/\Below w.heap.size w w':=by
 have HK:Hid (qw w b a0 a1 a2 a3):=hb
 have HL:Hid (y9 w l la lb lc):=hl
 have HW:Hid (Gate.yh l.ss l.ms=true/\∀ i (h:i < b.os.length),b.os[i].vs.length<=1048576/\b.os[i].hs.length<=1048576):=⟨hok,hfw⟩
 clear hb hl hok hfw
 by_cases hln:b.os.length<=40
 rotate_left
 ·have HF:Hid (Gate.zN l b=false):=by unfold Hid Gate.zN;rw [decide_eq_false hln];rfl
  have hg:(40:Int) < (b.os.length:Int):=by omega
  go_enter Tryz.func107,Tryz.ntmps107
  go_wp2_with fail
  go_ret
  exact ⟨ze HF.out.symm,zA _ _ _⟩
 have hg:decide ((40:Int) < (b.os.length:Int))=false:=by simp;omega
 have HLN:Hid (b.os.length<=40):=hln
 clear hln
 go_enter Tryz.func107,Tryz.ntmps107
 go_wp2_with fail
 obtain ⟨hL0,hX0⟩:=qz w #[.slice la l.ss.length lca,.slice lb l.ms.length lcb,.slice lc l.ts.length lcc] #[.int .i64 b.now,.int .i64 b.tick,.int .i64 b.given,.slice a0 b.os.length c0,.slice a1 b.gs.length c1,.slice a2 b.ls.length c2,.slice a3 b.ps.length c3] 41 48
 have HB0:Hid (Below w.heap.size w ((w.alloc (.cells #[.slice la l.ss.length lca,.slice lb l.ms.length lcb,.slice lc l.ts.length lcc] 41)).alloc (.cells #[.int .i64 b.now,.int .i64 b.tick,.int .i64 b.given,.slice a0 b.os.length c0,.slice a1 b.gs.length c1,.slice a2 b.ls.length c2,.slice a3 b.ps.length c3] 48))):=zA w _ _
 obtain ⟨W0,hW0⟩:∃ W0,W0=(w.alloc (.cells #[.slice la l.ss.length lca,.slice lb l.ms.length lcb,.slice lc l.ts.length lcc] 41)).alloc (.cells #[.int .i64 b.now,.int .i64 b.tick,.int .i64 b.given,.slice a0 b.os.length c0,.slice a1 b.gs.length c1,.slice a2 b.ls.length c2,.slice a3 b.ps.length c3] 48):=⟨_,rfl⟩
 have hz0:w.heap.size+1 < W0.heap.size:=by rw [hW0];simp
 rw [<- hW0] at HB0 hX0 hL0 ⊢
 clear hW0
 refine (zhj _ _ b.os _ (HK.out.os.mono HB0.out)).mono ?_
 rintro e w1 ⟨rfl,hb1⟩
 have HB1:Hid (Below w.heap.size w w1):=HB0.out.trans (hb1.mono HB0.out.size)
 have hX1:=za hX0 hz0 hb1
 have hL1:=za hL0 (Nat.lt_of_succ_lt hz0) hb1
 have hz1:=Nat.lt_of_lt_of_le hz0 hb1.size
 clear hb1 hX0 hL0 hz0 HB0
 by_cases has:Gate.zaX Gate.zaQ b.os=true
 rotate_left
 ·have has':Gate.zaX Gate.zaQ b.os=false:=by simpa using has
  have HF:Hid (Gate.zN l b=false):=by unfold Hid Gate.zN;rw [has'];simp
  rw [has']
  clear has has'
  go_wp2_with fail
  go_ret
  exact ⟨ze HF.out.symm,HB1.out⟩
 have HG:Hid (Gate.zN l b=b.os.all (Gate.yJ l b)):=by unfold Hid Gate.zN;rw [has,decide_eq_true HLN.out];rfl
 rw [has]
 clear has
 go_wp2_with fail
 refine (zge _ _ b.os _ (HK.out.os.mono HB1.out) (by have:=HLN.out;omega)).mono ?_
 rintro e w1' ⟨⟨f,rfl,hpm,hpf⟩,hb1⟩
 have HB1':Hid (Below w.heap.size w w1'):=HB1.out.trans (hb1.mono HB1.out.size)
 have hX1':=za hX1 hz1 hb1
 have hL1':=za hL1 (Nat.lt_of_succ_lt hz1) hb1
 have hz1':=Nat.lt_of_lt_of_le hz1 hb1.size
 have HPM:Hid (yc w1' w1.heap.size f/\∀ p q,(f p q).isSome=b.os.any (Gate.zaa p q)):=⟨hpm,hpf⟩
 clear hb1 hX1 hL1 hz1 HB1 hpm hpf
 go_wp2_with fail
 go_loopw [24] (fun iv wr=>∃ k:Nat,k<=b.os.length/\iv = .int .i64 k/\Hid ((b.os.take k).all (Gate.yJ l b)=true/\Below w1'.heap.size w1' wr)) (fun iv _=>b.os.length - (intOf iv).toNat)
 case atStart=>exact ⟨0,Nat.zero_le _,rfl,by simp,Below.refl _ _⟩
 case round =>
  obtain ⟨k,hk,rfl,HQ⟩:=hrel
  have hkn:k<=40:=by have:=HLN.out;omega
  by_cases hlt:k < b.os.length
  ·have HBw:Hid (∀ W,Below w1'.heap.size w1' W->Below w.heap.size w W):=fun W hW=>HB1'.out.trans (hW.mono HB1'.out.size)
   obtain ⟨ob,off,v0,v1,q0,q1,rfl,hob,hsm,hl0,hl1,d0,d1,d2,d3,d4,d5,d6⟩:=HK.out.os.load (HBw.out _ HQ.out.2) k hlt
   have hltI:(k:Int) < (b.os.length:Int):=by omega
   have hob':ob < wr.heap.size:=Nat.lt_of_lt_of_le hob (HBw.out _ HQ.out.2).size
   have hX:=za hX1' hz1' HQ.out.2
   have hL:=za hL1' (Nat.lt_of_succ_lt hz1') HQ.out.2
   have hz:w.heap.size+1 < wr.heap.size:=Nat.lt_of_lt_of_le hz1' HQ.out.2.size
   have HOB:Hid (qj wr b.os[k] v0 v1):=⟨hsm,hl0,hl1⟩
   have HSn:Hid ((b.os.take (k+1)).all (Gate.yJ l b)=((b.os.take k).all (Gate.yJ l b) && (Gate.yJ l b) b.os[k])):=Gate.qP _ _ _ hlt
   have HBo:Hid (∀ ob,Below w1'.heap.size w1' (wr.alloc ob)):=fun ob=>HQ.out.2.alloc HQ.out.2.size _
   have HNo:Hid ((Gate.yJ l b) b.os[k]=false->Gate.zN l b=false):=fun h=>by rw [HG.out];exact Gate.zaw _ _ _ hlt h
   have HYes:Hid ((Gate.yJ l b) b.os[k]=true->(b.os.take (k+1)).all (Gate.yJ l b)=true):=fun h=>by rw [HSn.out,HQ.out.1,h];rfl
   have HF2:Hid (b.os[k].vs.length<=1048576/\b.os[k].hs.length<=1048576):=HW.out.2 k hlt
   clear HQ hsm hl0 hl1
   go_wp2_with fail
   have hbN:Below wr.heap.size wr (wr.alloc (.cells #[.string b.os[k].kd,.string b.os[k].nm,.string b.os[k].tm,.slice v0 b.os[k].vs.length q0,.bool b.os[k].en,.slice v1 b.os[k].hs.length q1,.int .i64 b.os[k].vr] 115)):=(Below.refl _ _).alloc (Nat.le_refl _) _
   have hN:=zm wr #[.string b.os[k].kd,.string b.os[k].nm,.string b.os[k].tm,.slice v0 b.os[k].vs.length q0,.bool b.os[k].en,.slice v1 b.os[k].hs.length q1,.int .i64 b.os[k].vr] 115
   obtain ⟨w2,hw2⟩:∃ w2,w2=wr.alloc (.cells #[.string b.os[k].kd,.string b.os[k].nm,.string b.os[k].tm,.slice v0 b.os[k].vs.length q0,.bool b.os[k].en,.slice v1 b.os[k].hs.length q1,.int .i64 b.os[k].vr] 115):=⟨_,rfl⟩
   have hn2:wr.heap.size < w2.heap.size:=by rw [hw2];simp
   rw [<- hw2] at hbN hN ⊢
   have HB2:Hid (Below w1'.heap.size w1' w2):=by unfold Hid;rw [hw2];exact HBo.out _
   have HO2:Hid (qj w2 b.os[k] v0 v1):=HOB.out.mono hbN
   have hX2:=za hX hz hbN
   have hL2:=za hL (Nat.lt_of_succ_lt hz) hbN
   have hz2:=Nat.lt_of_lt_of_le hz hbN.size
   have hy2:=Nat.lt_of_succ_lt hz2
   clear hw2 d0 d1 d2 d3 d4 d5 d6 hX hL hbN
   refine (je _ _ _ _).mono ?_
   rintro e w3 ⟨rfl,rfl⟩
   by_cases t1:Gate.within b.os[k].vr 1 b.now=true
   rotate_left
   ·have HF:Hid (Gate.zN l b=false):=HNo.out (by unfold Gate.yJ;rw [Bool.eq_false_iff.2 t1];rfl)
    rw [Bool.eq_false_iff.2 t1]
    clear t1
    go_wp2_with fail
    go_ret
    exact ⟨ze HF.out.symm,HBw.out _ HB2.out⟩
   rw [t1]
   have HT1:Hid (Gate.within b.os[k].vr 1 b.now=true):=t1
   clear t1
   go_wp2_with fail
   refine (zbL _ _ l.ts b.os[k].tm _ (HL.out.ts.mono (HBw.out _ HB2.out))).mono ?_
   rintro e w4 ⟨rfl,hb4⟩
   have HB4:Hid (Below w1'.heap.size w1' w4):=HB2.out.trans (hb4.mono HB2.out.size)
   have hN4:=za hN hn2 hb4
   have hX4:=za hX2 hz2 hb4
   have hL4:=za hL2 hy2 hb4
   have hn4:=Nat.lt_of_lt_of_le hn2 hb4.size
   have hz4:=Nat.lt_of_lt_of_le hz2 hb4.size
   have hy4:=Nat.lt_of_lt_of_le hy2 hb4.size
   have HO4:Hid (qj w4 b.os[k] v0 v1):=HO2.out.mono hb4
   clear hb4 hN hX2 hL2 hn2 hz2 hy2
   by_cases t2:Gate.yB l.ts b.os[k].tm=true
   rotate_left
   ·have HF:Hid (Gate.zN l b=false):=HNo.out (by unfold Gate.yJ;rw [HT1.out,Bool.eq_false_iff.2 t2];rfl)
    rw [Bool.eq_false_iff.2 t2]
    clear t2
    go_wp2_with fail
    go_ret
    exact ⟨ze HF.out.symm,HBw.out _ HB4.out⟩
   rw [t2]
   have HT2:Hid (Gate.yB l.ts b.os[k].tm=true):=t2
   clear t2
   go_wp2_with fail
   refine (zkP l la lb lc lca lcb lcc b.os[k] v0 v1 q0 q1 _ (HL.out.mono (HBw.out _ HB4.out)) hml HO4.out HF2.out.1 HF2.out.2 HW.out.1).mono ?_
   rintro e w5 ⟨rfl,hb5⟩
   have HB5:Hid (Below w1'.heap.size w1' w5):=HB4.out.trans (hb5.mono HB4.out.size)
   have hN5:=za hN4 hn4 hb5
   have hL5:=za hL4 hy4 hb5
   have hn5:=Nat.lt_of_lt_of_le hn4 hb5.size
   have hy5:=Nat.lt_of_lt_of_le hy4 hb5.size
   have HO5:Hid (qj w5 b.os[k] v0 v1):=HO4.out.mono hb5
   clear hb5 hN4 hX4 hL4 hn4 hz4 hy4
   by_cases t3:Gate.zaG l b.os[k]=true
   rotate_left
   ·have HF:Hid (Gate.zN l b=false):=HNo.out (by unfold Gate.yJ;rw [HT1.out,HT2.out,Bool.eq_false_iff.2 t3];rfl)
    rw [Bool.eq_false_iff.2 t3]
    clear t3
    go_wp2_with fail
    go_ret
    exact ⟨ze HF.out.symm,HBw.out _ HB5.out⟩
   have HT3:Hid (Gate.zaG l b.os[k]=true):=t3
   have HC:Hid (b.os[k].vs.length=(Gate.shapeOf l.ss b.os[k].kd).fs.length):=by
    have h:=t3
    unfold Gate.zaG at h
    simp only [Bool.and_eq_true,decide_eq_true_eq] at h
    exact (Gate.zbD (Gate.jF HW.out.1 h.1)).1
   rw [t3]
   clear t3
   go_wp2_with fail
   refine (zks l la lb lc lca lcb lcc w1.heap.size f b.os[k] v0 v1 q0 q1 _ (HL.out.mono (HBw.out _ HB5.out)) (HPM.out.1.mono HB5.out) HO5.out HC.out).mono ?_
   rintro e w6 ⟨rfl,hb6⟩
   have HB6:Hid (Below w1'.heap.size w1' w6):=HB5.out.trans (hb6.mono HB5.out.size)
   have HLE:Hid (zdW f (qX (Gate.shapeOf l.ss b.os[k].kd).fs b.os[k].vs (Gate.shapeOf l.ss b.os[k].kd).fs.length)=Gate.zat l b.os b.os[k]):=ziL HPM.out.2
   rw [HLE.out]
   clear hb6
   by_cases t4:Gate.zat l b.os b.os[k]=true
   ·have HY:Hid ((b.os.take (k+1)).all (Gate.yJ l b)=true):=HYes.out (by unfold Gate.yJ;rw [HT1.out,HT2.out,HT3.out,t4];rfl)
    rw [t4]
    clear t4
    go_wp2_with fail
    exact ⟨⟨k+1,by omega,by go_num,HY.out,HB6.out⟩,zn hlt⟩
   ·have HF:Hid (Gate.zN l b=false):=HNo.out (by unfold Gate.yJ;rw [HT1.out,HT2.out,HT3.out,Bool.eq_false_iff.2 t4];rfl)
    rw [Bool.eq_false_iff.2 t4]
    clear t4
    go_wp2_with fail
    go_ret
    exact ⟨ze HF.out.symm,HBw.out _ HB6.out⟩
  ·have e:k=b.os.length:=by omega
   subst e
   have HE:Hid (Gate.zN l b=true):=by
    unfold Hid
    rw [HG.out]
    have h:=HQ.out.1
    rw [List.take_of_length_le (Nat.le_refl _)] at h
    exact h
   have HBe:Hid (Below w.heap.size w wr):=HB1'.out.trans (HQ.out.2.mono HB1'.out.size)
   clear hlt hk HQ
   go_wp2_with fail
   go_ret
   exact ⟨ze HE.out.symm,HBe.out⟩
end Go.Proofs.YtihdafafigceiaaGreat
