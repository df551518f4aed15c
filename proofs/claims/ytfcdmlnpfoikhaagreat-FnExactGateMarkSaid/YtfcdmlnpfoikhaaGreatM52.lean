import Derived.Test.YtfcdmlnpfoikhaaGreatM51
import Derived.Test.YtfcdmlnpfoikhaaGreatM47
import Derived.Test.YtfcdmlnpfoikhaaGreatM17
import Derived.Test.YtfcdmlnpfoikhaaGreatM19
import Derived.Test.YtfcdmlnpfoikhaaGreatM02
import Derived.Test.YtfcdmlnpfoikhaaGreatM11
import Derived.Test.YtfcdmlnpfoikhaaGreatM07
import Derived.Test.YtfcdmlnpfoikhaaGreatM44
namespace Go.Proofs.YtfcdmlnpfoikhaaGreat
open Go.RowKit Go.Shelf
attribute [local go_sem] Oper.semAt_some
def zdj (f : ByteArray -> ByteArray -> Option Int) (xs : List Lk) : Bool := xs.any fun x => decide (x.rl = 3) && (f x.to x.nm).isSome
theorem KeepsOthers.of_below {W W' : World} (h : Below W.heap.size W W') : KeepsOthers W W' := ⟨h.size, fun k _ hk _ => (h.block k (Array.getElem?_eq_some_iff.1 hk).1).trans hk⟩
set_option maxRecDepth 100000 in
set_option maxHeartbeats 4000000 in
theorem zlR (l : Lw) (a b c : Option Addr) (ca cb cc : Nat) (r : Nat) (f : ByteArray -> ByteArray -> Option Int) (o : Ob) (va ha : Option Addr) (cap cap' : Nat) (w : World) (hL : qA w l a b c) (hM : yc w r f) (ho : qL w o va ha) (hc : o.vs.length = (Gate.shapeOf l.ss o.kd).fs.length) :
    Calls Tryz.prog 72 #[.agg (lC l a b c ca cb cc), .agg (oC o va ha cap cap'), .map (some r)] w
      fun e w' => e = .returned (.bool (zdj f (yO (Gate.shapeOf l.ss o.kd).fs o.vs (Gate.shapeOf l.ss o.kd).fs.length))) /\ Below w.heap.size w w' := by
  have HH : Hid (qA w l a b c /\ yc w r f /\ qL w o va ha /\ o.vs.length = (Gate.shapeOf l.ss o.kd).fs.length) := ⟨hL, hM, ho, hc⟩
  clear hL hM ho hc
  refine (callsIn_wide (n := 6)).1 ?_
  refine callsIn_of_wp_marks Tryz.func72 rfl trivial ?_ rfl
  simp only [Tryz.ntmps72, List.size_toArray, List.length_cons, List.length_nil, Nat.reduceAdd, Nat.reduceSub, Array.replicate_succ, Array.replicate_zero, List.push_toArray, List.append_toArray, List.nil_append, List.cons_append]
  gi_wp2_with fail
  refine ⟨trivial, ?_⟩
  have hb4 : Below w.heap.size w ((((w.alloc (.cells (lC l a b c ca cb cc) 41)).alloc (.cells (oC o va ha cap cap') 115)).alloc (.cells #[.map (some r)] 135)).alloc (.cells #[.bool false] 4)) := (qP _ _ _ _).alloc (by simp; omega) _
  have hbR := Boxed.new (((w.alloc (.cells (lC l a b c ca cb cc) 41)).alloc (.cells (oC o va ha cap cap') 115)).alloc (.cells #[.map (some r)] 135)) 4 (.bool false)
  have hbP := (Boxed.new ((w.alloc (.cells (lC l a b c ca cb cc) 41)).alloc (.cells (oC o va ha cap cap') 115)) 135 (.map (some r))).alloc (.cells #[.bool false] 4)
  simp only [World.size_alloc] at hbR hbP
  obtain ⟨w4, hw4⟩ : ∃ w4, w4 = ((((w.alloc (.cells (lC l a b c ca cb cc) 41)).alloc (.cells (oC o va ha cap cap') 115)).alloc (.cells #[.map (some r)] 135)).alloc (.cells #[.bool false] 4)) := ⟨_, rfl⟩
  rw [<- hw4] at hb4 hbR hbP ⊢
  clear hw4
  refine (callsIn_wide.2 (zgu l a b c ca cb cc o va ha cap cap' w4 (HH.out.1.mono hb4))).mono ?_
  rintro e W0 ⟨Bs, Bo, fa, fcap, rfl, hBs, hBo, hfl, hXs, hXo, hb1⟩
  have bR : Boxed W0 (w.heap.size + 1 + 1 + 1) 4 (.bool false) := (hb1.block _ hbR.lt).trans hbR
  have bP : Boxed W0 (w.heap.size + 1 + 1) 135 (.map (some r)) := (hb1.block _ hbP.lt).trans hbP
  have HB0 : Hid (Below w.heap.size w W0) := hb4.trans (hb1.mono hb4.size)
  have hN : w.heap.size <= W0.heap.size := HB0.out.size
  have HO0 : Hid (zB W0 va o.vs) := HH.out.2.2.1.vals.mono HB0.out
  clear hb1 hb4 hbR hbP
  gi_wp2_with fail
  refine wpIn_rangeFunc_ownH rfl (by omega) (gf := 163) (lb := #[.pointer (some ⟨Bs, 0, none⟩), .pointer (some ⟨Bo, 0, none⟩)]) rfl trivial (enters_of Tryz.func163 (by kernel_rfl) rfl)
    (zgw 5 (by omega) Bs Bo (Gate.shapeOf l.ss o.kd).kd (Gate.shapeOf l.ss o.kd).fs fa fcap o va ha cap cap' W0 hBs hBo hXs hXo hfl HO0.out HH.out.2.2.2) belowK_t (belowK_b (Nat.le_refl _)) (Below.refl _ _) (fun _ => rfl)
    (fun pre W => (∀ x ∈ pre, (decide (x.rl = 3) && (f x.to x.nm).isSome) = false) /\ Below W0.heap.size W0 W)
    (fun cd pre W => ((cd = .ret /\ ∃ x ∈ pre, (decide (x.rl = 3) && (f x.to x.nm).isSome) = true) /\ Boxed W (w.heap.size + 1 + 1 + 1) 4 (.bool true)) /\ Below w.heap.size w W)
    (OwnFrom.and (ownFrom_pure _ _) (ownFrom_below (Nat.le_refl _) (Nat.le_refl _)))
    (fun cd => OwnFrom.and (OwnFrom.and (ownFrom_pure _ _) (Own.from (boxed_own _ _ _) _)) (ownFrom_below (Nat.le_refl _) hN))
    ⟨by simp, Below.refl _ _⟩
    (fun x a' W => ∃ Bx, W.heap[Bx]? = some (.cells #[.int .i64 x.pl, .int .i64 x.rl, .string x.to, .string x.nm] 177) /\ a' = { tmps := #[.agg (lC l a b c ca cb cc), .agg (oC o va ha cap cap'), .map (some r), .pointer (some ⟨w.heap.size, 0, none⟩), .pointer (some ⟨w.heap.size + 1, 0, none⟩), .pointer (some ⟨w.heap.size + 1 + 1, 0, none⟩), .pointer (some ⟨w.heap.size + 1 + 1 + 1, 0, none⟩), .pointer (some ⟨Bx, 0, none⟩), .agg (lC l a b c ca cb cc), .agg (oC o va ha cap cap'), .func (.func 163) #[] #[.pointer (some ⟨Bs, 0, none⟩), .pointer (some ⟨Bo, 0, none⟩)], .agg #[.int .i64 x.pl, .int .i64 x.rl, .string x.to, .string x.nm], undef, undef, undef, undef, undef, undef, undef, undef, undef], defers := [] })
    (fun x a' _ X Y row hs hg hr => by
      obtain ⟨Bx, e1, e2⟩ := hs
      refine ⟨Bx, (hg.block Bx (Array.getElem?_eq_some_iff.1 e1).1 (fun e => ?_)).trans e1, e2⟩
      obtain ⟨_, ob, h1, h2⟩ := hr Bx e.symm
      rw [e1] at h1
      cases h1
      cases h2)
    ?assign ?body ?done ?stop
  case assign =>
    rintro l' pre x W K ⟨hp, hB1⟩ hK
    unfold Lk.enc
    gi_wp2
    exact hK _ _ ((KeepsOthers.alloc _ _).from _) ((Below.refl _ W).alloc hB1.size _) ⟨hp, hB1.alloc hB1.size _⟩ ⟨W.heap.size, World.alloc_heap_new W _, rfl⟩
  case body =>
    rintro l' pre x a' W hl ⟨rr, hr⟩ ⟨hp, hB1⟩ ⟨Bx, hBx, rfl⟩ hlt
    have cX := zbi hBx
    have bP1 : Boxed W (w.heap.size + 1 + 1) 135 (.map (some r)) := (hB1.block _ bP.lt).trans bP
    have cP := bP1.cell
    have bR1 : Boxed W (w.heap.size + 1 + 1 + 1) 4 (.bool false) := (hB1.block _ bR.lt).trans bR
    have cR := bR1.cell
    have fR := bR1.frozen
    have HB2 : Hid (Below W0.heap.size W0 W) := hB1
    have HP : Hid (∀ x ∈ pre, (decide (x.rl = 3) && (f x.to x.nm).isSome) = false) := hp
    have HR1 : Hid (Boxed W (w.heap.size + 1 + 1 + 1) 4 (.bool false)) := bR1
    have HPm : Hid (yc W r f) := HH.out.2.1.mono (HB0.out.trans (hB1.mono HB0.out.size))
    clear hp hB1 bR1
    by_cases h3 : x.rl = 3
    rotate_left
    · have hd : decide (x.rl = 3) = false := decide_eq_false h3
      have hd2 : (x.rl == 3) = false := by simpa using h3
      have HN : Hid ((decide (x.rl = 3) && (f x.to x.nm).isSome) = false) := by rw [Hid, hd]; rfl
      clear h3
      gi_wp2
      refine ⟨trivial, ?_⟩
      gi_wp2
      exact ⟨KeepsFrom.refl _ _, Below.refl _ _, fun z hz => (List.mem_append.1 hz).elim (HP.out z) (fun e => by simp at e; subst e; exact HN.out), HB2.out⟩
    · have HE3 : Hid (x.rl = 3) := h3
      rw [h3] at cX
      gi_wp2_with fail
      refine ⟨trivial, ?_⟩
      refine (callsIn_wide.2 (zo6 r f x.to x.nm W HPm.out x.hto x.hnm)).mono ?_
      rintro e W1 ⟨rfl, hb⟩
      have bR2 : Boxed W1 (w.heap.size + 1 + 1 + 1) 4 (.bool false) := (hb.block _ HR1.out.lt).trans HR1.out
      have cR2 := bR2.cell
      have fR2 := bR2.frozen
      have HR2 : Hid (Boxed W1 (w.heap.size + 1 + 1 + 1) 4 (.bool false)) := bR2
      have HBb : Hid (Below W.heap.size W W1) := hb
      clear cR fR cX cP bP1 hb bR2
      cases hq : (f x.to x.nm).isSome with
      | true =>
        have HY : Hid ((decide (x.rl = 3) && (f x.to x.nm).isSome) = true) := by rw [Hid, HE3.out, hq]; rfl
        gi_wp2
        exact ⟨((KeepsOthers.of_below HBb.out).trans (KeepsOthers.setCell _ _ _)).from _, ⟨⟨rfl, x, List.mem_append.2 (.inr (by simp)), HY.out⟩, HR2.out.set _⟩, (HB0.out.trans ((HB2.out.trans (HBb.out.mono HB2.out.size)).mono hN)).setCell (p := ⟨(w.heap.size + 1 + 1 + 1), 0, none⟩) (by show w.heap.size <= (w.heap.size + 1 + 1 + 1); omega) _⟩
      | false =>
        have HY : Hid ((decide (x.rl = 3) && (f x.to x.nm).isSome) = false) := by rw [Hid, hq]; simp
        gi_wp2
        exact ⟨(KeepsOthers.of_below HBb.out).from _, HBb.out.mono HB2.out.size, fun z hz => (List.mem_append.1 hz).elim (HP.out z) (fun e => by simp at e; subst e; exact HY.out), HB2.out.trans (HBb.out.mono HB2.out.size)⟩
  case done =>
    rintro D ys W hD rfl ⟨hp, hB1⟩ hK
    have bR1 : Boxed W (w.heap.size + 1 + 1 + 1) 4 (.bool false) := (hB1.block _ bR.lt).trans bR
    have cR := bR1.cell
    have fR := bR1.frozen
    gi_wp2
    have hK' := (KeepsOthers.setCell W ⟨(w.heap.size + 1 + 1 + 1), 0, none⟩ (.bool false)).same D _ hK rfl
    refine ⟨by simp, .inl ⟨_, _, rfl, run_takeDeferred hK', ?_⟩⟩
    have hc5 := cell_kept (World.cell?_setCell_same' W ⟨(w.heap.size + 1 + 1 + 1), 0, none⟩ (.bool false) (by rw [cR]; rfl)) (grownBy_putObj' _ D (.deferred none)) (fun r e => by cases e; exact ⟨_, hK', rfl⟩)
    have hall : zdj f (yO (Gate.shapeOf l.ss o.kd).fs o.vs (Gate.shapeOf l.ss o.kd).fs.length) = false := by
      unfold zdj
      rw [List.any_eq_false]
      exact fun x hx => by rw [hp x hx]; simp
    refine ⟨.bool false, ?_, by rw [hall], ((HB0.out.trans (hB1.mono hN)).setCell (p := ⟨(w.heap.size + 1 + 1 + 1), 0, none⟩) (by show w.heap.size <= (w.heap.size + 1 + 1 + 1); omega) _).trans (belowK_b (w := w) (Nat.le_refl _) _ D _ _ (by omega) hK' rfl rfl)⟩
    simp [results, Tryz.results72, go_sem, hc5]
  case stop =>
    rintro D cd pre W hD hpre ⟨⟨⟨rfl, x, hx, hq⟩, bR1⟩, hB⟩ hK
    gi_wp2
    refine ⟨by simp, .inl ⟨_, _, rfl, run_takeDeferred hK, ?_⟩⟩
    have hc5 := cell_kept bR1.cell (grownBy_putObj' _ D (.deferred none)) (fun r e => by cases e; exact ⟨_, hK, rfl⟩)
    have hno : zdj f (yO (Gate.shapeOf l.ss o.kd).fs o.vs (Gate.shapeOf l.ss o.kd).fs.length) = true := by
      unfold zdj
      rw [List.any_eq_true]
      exact ⟨x, hpre.subset hx, hq⟩
    refine ⟨.bool true, ?_, by rw [hno], hB.trans (belowK_b (w := w) (Nat.le_refl _) W D _ _ (by omega) hK rfl rfl)⟩
    simp [results, Tryz.results72, go_sem, hc5]
end Go.Proofs.YtfcdmlnpfoikhaaGreat

namespace Go.Proofs.YtfcdmlnpfoikhaaGreat
open Go.RowKit
namespace Gate
noncomputable def zaw (l : Lw) (b : Bk) : Bool := zaj b && (zJ l b && (yA b && (yC l.ts b && (yG b && zbT l b))))
noncomputable def jy (l : Lw) (b : Bk) : Bool := zbA l && zaw l b
end Gate
theorem zcx {ts : List Tm} {b : Bk} (h : Gate.yC ts b = true) : Gate.rising Gate.yT b.ls /\ b.ls.length <= 10 /\ ∀ i (hi : i < b.ls.length), Gate.yw ts b.ls[i] = true := by
  unfold Gate.yC at h
  simp only [Bool.and_eq_true, decide_eq_true_eq] at h
  exact ⟨(Gate.zk2 _ _).1 h.2.1, h.1, fun i hi => List.all_eq_true.1 h.2.2 _ (List.getElem_mem _)⟩
theorem zkw {b : Bk} (h : Gate.zaj b = true) : 0 <= b.tick /\ b.tick <= 1000000 := by
  unfold Gate.zaj Gate.within at h
  simp only [Bool.and_eq_true, decide_eq_true_eq] at h
  exact h.2.1
theorem zkO {b : Bk} (h : Gate.yG b = true) : b.ps.length <= 24 /\ ∀ i (hi : i < b.ps.length), Gate.yI b.ls b.tick b.ps[i] = true := by
  unfold Gate.yG at h
  simp only [Bool.and_eq_true, decide_eq_true_eq] at h
  exact ⟨h.1, fun i hi => List.all_eq_true.1 h.2.2 _ (List.getElem_mem _)⟩
theorem zmQ {b : Bk} (h : Gate.rising Gate.yT b.ls) : ∀ i j (hi : i < b.ls.length) (hj : j < b.ls.length), b.ls[i].tm = b.ls[j].tm -> b.ls[i].rs = b.ls[j].rs -> i = j := by
  intro i j hi hj e1 e2
  have hz : ∀ i j (hi : i < b.ls.length) (hj : j < b.ls.length), i < j -> b.ls[i].tm = b.ls[j].tm -> b.ls[i].rs = b.ls[j].rs -> False := by
    intro i j hi hj hlt e1 e2
    have h1 := Gate.zcJ (fun a b c => Gate.zaT (a := a) (b := b) (c := c)) h j hj i hlt
    have h2 : Gate.yT b.ls[i] b.ls[j] = 0 := by unfold Gate.yT; rw [Gate.zf5]; exact ⟨e1, e2⟩
    omega
  rcases Nat.lt_trichotomy i j with h1 | h1 | h1
  · exact (hz i j hi hj h1 e1 e2).elim
  · exact h1
  · exact (hz j i hj hi h1 e1.symm e2.symm).elim
theorem zor {ts : List Tm} {b : Bk} (h : Gate.yC ts b = true) (h' : Gate.yG b = true) (hz : yX b.os <= 1048576) : zhx b := by
  obtain ⟨h1, h2, h3⟩ := zcx h
  obtain ⟨p1, p2⟩ := zkO h'
  refine ⟨zmQ h1, fun k hk => ?_, fun i hi => ?_, fun i hi => ?_, by omega, by omega, hz⟩
  · have h4 := p2 k hk
    unfold Gate.yI Gate.jI at h4
    simp only [Bool.and_eq_true] at h4
    obtain ⟨g, hg, h5⟩ := List.any_eq_true.1 h4.1
    obtain ⟨j, hj, rfl⟩ := List.mem_iff_getElem.1 hg
    simp only [Bool.and_eq_true, decide_eq_true_eq] at h5
    exact ⟨j, hj, h5.1, h5.2⟩
  · have h4 := h3 i hi
    unfold Gate.yw Gate.jl at h4
    simp only [Bool.and_eq_true, decide_eq_true_eq] at h4
    omega
  · have h4 := p2 i hi
    unfold Gate.yI Gate.within at h4
    simp only [Bool.and_eq_true, decide_eq_true_eq] at h4
    omega
set_option maxRecDepth 20000 in
set_option maxHeartbeats 4000000 in
theorem zmj (l : Lw) (la lb lc : Option Addr) (lca lcb lcc : Nat) (b : Bk) (a0 a1 a2 a3 : Option Addr) (c0 c1 c2 c3 : Nat) (w : World) (hb : qD w b a0 a1 a2 a3) (hl : qA w l la lb lc) (hml : l.ms.length <= 1048576) (hok : Gate.zW l.ss l.ms = true) (hfw : ∀ i (h : i < b.os.length), b.os[i].vs.length <= 1048576 /\ b.os[i].hs.length <= 1048576) (hz : yX b.os <= 1048576) :
    Calls Tryz.prog 70 #[.agg (lC l la lb lc lca lcb lcc), .agg (bC b a0 a1 a2 a3 c0 c1 c2 c3)] w fun e w' => e = .returned (.bool (Gate.zaw l b)) /\ Below w.heap.size w w' := by
  have HK := hid hb
  have HL := hid hl
  have HF : Hid (l.ms.length <= 1048576 /\ Gate.zW l.ss l.ms = true /\ (∀ i (h : i < b.os.length), b.os[i].vs.length <= 1048576 /\ b.os[i].hs.length <= 1048576) /\ yX b.os <= 1048576) := ⟨hml, hok, hfw, hz⟩
  clear hb hl hml hok hfw hz
  go_enter Tryz.func70, Tryz.ntmps70
  go_wp2_with fail
  obtain ⟨hL0, hX0⟩ := yR w (lC l la lb lc lca lcb lcc) (bC b a0 a1 a2 a3 c0 c1 c2 c3) 41 48
  have HBi : Hid (Below w.heap.size w ((w.alloc (.cells (lC l la lb lc lca lcb lcc) 41)).alloc (.cells (bC b a0 a1 a2 a3 c0 c1 c2 c3) 48))) := zq w _ _
  obtain ⟨W0, hW0⟩ : ∃ W0, W0 = (w.alloc (.cells (lC l la lb lc lca lcb lcc) 41)).alloc (.cells (bC b a0 a1 a2 a3 c0 c1 c2 c3) 48) := ⟨_, rfl⟩
  have hz0 : w.heap.size + 1 < W0.heap.size := by rw [hW0]; simp
  rw [<- hW0] at HBi hX0 hL0 ⊢
  clear hW0
  refine (ziQ b a0 a1 a2 a3 c0 c1 c2 c3 _).mono ?_
  rintro e w1 ⟨rfl, hb0⟩
  have hX1 := za hX0 hz0 hb0
  have hL1 := za hL0 (Nat.lt_of_succ_lt hz0) hb0
  have hz1 := Nat.lt_of_lt_of_le hz0 hb0.size
  have hy1 := Nat.lt_of_succ_lt hz1
  have HBi := hid (HBi.out.trans (hb0.mono HBi.out.size))
  clear hb0 hX0 hL0 hz0
  by_cases t : Gate.zaj b = true
  rotate_left
  · have HN : Hid (Gate.zaw l b = false) := by unfold Hid Gate.zaw; rw [Bool.eq_false_iff.2 t]; rfl
    rw [Bool.eq_false_iff.2 t]
    clear t
    go_wp2_with fail
    go_ret
    exact ⟨ze HN.out.symm, HBi.out⟩
  have HT0 := hid t
  rw [t]
  clear t
  go_wp2_with fail
  refine (zie l la lb lc lca lcb lcc b a0 a1 a2 a3 c0 c1 c2 c3 _ (HK.out.mono HBi.out) (HL.out.mono HBi.out) HF.out.1 HF.out.2.1 HF.out.2.2.1).mono ?_
  rintro e w2 ⟨rfl, hb1⟩
  have hX2 := za hX1 hz1 hb1
  have hL2 := za hL1 (Nat.lt_of_succ_lt hz1) hb1
  have hz2 := Nat.lt_of_lt_of_le hz1 hb1.size
  have hy2 := Nat.lt_of_succ_lt hz2
  have HBi := hid (HBi.out.trans (hb1.mono HBi.out.size))
  clear hb1 hX1 hL1 hz1 hy1
  by_cases t : Gate.zJ l b = true
  rotate_left
  · have HN : Hid (Gate.zaw l b = false) := by unfold Hid Gate.zaw; rw [HT0.out, Bool.eq_false_iff.2 t]; rfl
    rw [Bool.eq_false_iff.2 t]
    clear t
    go_wp2_with fail
    go_ret
    exact ⟨ze HN.out.symm, HBi.out⟩
  have HT1 := hid t
  rw [t]
  clear t
  go_wp2_with fail
  refine (zjr b a0 a1 a2 a3 c0 c1 c2 c3 _ (HK.out.mono HBi.out)).mono ?_
  rintro e w3 ⟨rfl, hb2⟩
  have hX3 := za hX2 hz2 hb2
  have hL3 := za hL2 (Nat.lt_of_succ_lt hz2) hb2
  have hz3 := Nat.lt_of_lt_of_le hz2 hb2.size
  have hy3 := Nat.lt_of_succ_lt hz3
  have HBi := hid (HBi.out.trans (hb2.mono HBi.out.size))
  clear hb2 hX2 hL2 hz2 hy2
  by_cases t : Gate.yA b = true
  rotate_left
  · have HN : Hid (Gate.zaw l b = false) := by unfold Hid Gate.zaw; rw [HT0.out, HT1.out, Bool.eq_false_iff.2 t]; rfl
    rw [Bool.eq_false_iff.2 t]
    clear t
    go_wp2_with fail
    go_ret
    exact ⟨ze HN.out.symm, HBi.out⟩
  have HT2 := hid t
  rw [t]
  clear t
  go_wp2_with fail
  refine (zim l la lb lc lca lcb lcc b a0 a1 a2 a3 c0 c1 c2 c3 _ (HK.out.mono HBi.out) (HL.out.mono HBi.out)).mono ?_
  rintro e w4 ⟨rfl, hb3⟩
  have hX4 := za hX3 hz3 hb3
  have hL4 := za hL3 (Nat.lt_of_succ_lt hz3) hb3
  have hz4 := Nat.lt_of_lt_of_le hz3 hb3.size
  have hy4 := Nat.lt_of_succ_lt hz4
  have HBi := hid (HBi.out.trans (hb3.mono HBi.out.size))
  clear hb3 hX3 hL3 hz3 hy3
  by_cases t : Gate.yC l.ts b = true
  rotate_left
  · have HN : Hid (Gate.zaw l b = false) := by unfold Hid Gate.zaw; rw [HT0.out, HT1.out, HT2.out, Bool.eq_false_iff.2 t]; rfl
    rw [Bool.eq_false_iff.2 t]
    clear t
    go_wp2_with fail
    go_ret
    exact ⟨ze HN.out.symm, HBi.out⟩
  have HT3 := hid t
  rw [t]
  clear t
  go_wp2_with fail
  refine (zi0 b a0 a1 a2 a3 c0 c1 c2 c3 _ (HK.out.mono HBi.out) (zcx HT3.out).1 (zcx HT3.out).2.1 (zkw HT0.out)).mono ?_
  rintro e w5 ⟨rfl, hb4⟩
  have hX5 := za hX4 hz4 hb4
  have hL5 := za hL4 (Nat.lt_of_succ_lt hz4) hb4
  have hz5 := Nat.lt_of_lt_of_le hz4 hb4.size
  have hy5 := Nat.lt_of_succ_lt hz5
  have HBi := hid (HBi.out.trans (hb4.mono HBi.out.size))
  clear hb4 hX4 hL4 hz4 hy4
  by_cases t : Gate.yG b = true
  rotate_left
  · have HN : Hid (Gate.zaw l b = false) := by unfold Hid Gate.zaw; rw [HT0.out, HT1.out, HT2.out, HT3.out, Bool.eq_false_iff.2 t]; rfl
    rw [Bool.eq_false_iff.2 t]
    clear t
    go_wp2_with fail
    go_ret
    exact ⟨ze HN.out.symm, HBi.out⟩
  have HT4 := hid t
  rw [t]
  clear t
  go_wp2_with fail
  refine (zlY l la lb lc lca lcb lcc b a0 a1 a2 a3 c0 c1 c2 c3 _ (HL.out.mono HBi.out) (HK.out.mono HBi.out) (zor HT3.out HT4.out HF.out.2.2.2)).mono ?_
  rintro e w6 ⟨rfl, hb5⟩
  have HBe := hid (HBi.out.trans (hb5.mono HBi.out.size))
  have HN : Hid (Gate.zbT l b = Gate.zaw l b) := by unfold Hid Gate.zaw; rw [HT0.out, HT1.out, HT2.out, HT3.out, HT4.out]; rfl
  rw [HN.out]
  clear hb5 hX5 hL5 hz5 hy5
  go_wp2_with fail
  go_ret
  exact ⟨rfl, HBe.out⟩
set_option maxRecDepth 20000 in
set_option maxHeartbeats 4000000 in
theorem zh9 (l : Lw) (la lb lc : Option Addr) (lca lcb lcc : Nat) (b : Bk) (a0 a1 a2 a3 : Option Addr) (c0 c1 c2 c3 : Nat) (w : World) (hl : qA w l la lb lc) (hb : qD w b a0 a1 a2 a3) (hlf : l.Few) (hbf : b.Few) (hz : yX b.os <= 1048576) :
    Calls Tryz.prog 33 #[.agg (l.cells la lb lc lca lcb lcc), .agg (b.cells a0 a1 a2 a3 c0 c1 c2 c3)] w fun e w' => e = .returned (.bool (Gate.jy l b)) /\ Below w.heap.size w w' := by
  have HK := hid hb
  have HL := hid hl
  have HF : Hid (l.Few /\ b.Few /\ yX b.os <= 1048576) := ⟨hlf, hbf, hz⟩
  clear hb hl hlf hbf hz
  unfold Lw.cells Bk.cells
  go_enter Tryz.func33, Tryz.ntmps33
  go_wp2_with fail
  obtain ⟨hL0, hX0⟩ := yR w (lC l la lb lc lca lcb lcc) (bC b a0 a1 a2 a3 c0 c1 c2 c3) 41 48
  have HBi : Hid (Below w.heap.size w ((w.alloc (.cells (lC l la lb lc lca lcb lcc) 41)).alloc (.cells (bC b a0 a1 a2 a3 c0 c1 c2 c3) 48))) := zq w _ _
  obtain ⟨W0, hW0⟩ : ∃ W0, W0 = (w.alloc (.cells (lC l la lb lc lca lcb lcc) 41)).alloc (.cells (bC b a0 a1 a2 a3 c0 c1 c2 c3) 48) := ⟨_, rfl⟩
  have hz0 : w.heap.size + 1 < W0.heap.size := by rw [hW0]; simp
  rw [<- hW0] at HBi hX0 hL0 ⊢
  clear hW0
  refine (zjt l la lb lc lca lcb lcc _ (HL.out.mono HBi.out) HF.out.1).mono ?_
  rintro e w1 ⟨rfl, hb0⟩
  have hX1 := za hX0 hz0 hb0
  have hL1 := za hL0 (Nat.lt_of_succ_lt hz0) hb0
  have hz1 := Nat.lt_of_lt_of_le hz0 hb0.size
  have hy1 := Nat.lt_of_succ_lt hz1
  have HBi := hid (HBi.out.trans (hb0.mono HBi.out.size))
  clear hb0 hX0 hL0 hz0
  by_cases t : Gate.zbA l = true
  rotate_left
  · have HN : Hid (Gate.jy l b = false) := by unfold Hid Gate.jy; rw [Bool.eq_false_iff.2 t]; rfl
    rw [Bool.eq_false_iff.2 t]
    clear t
    go_wp2_with fail
    go_ret
    exact ⟨ze HN.out.symm, HBi.out⟩
  have HN : Hid (Gate.zaw l b = Gate.jy l b) := by unfold Hid Gate.jy; rw [t]; rfl
  have HM : Hid (Gate.zW l.ss l.ms = true) := by unfold Gate.zbA at t; simp only [Bool.and_eq_true] at t; exact t.1
  rw [t]
  clear t
  go_wp2_with fail
  refine (zmj l la lb lc lca lcb lcc b a0 a1 a2 a3 c0 c1 c2 c3 _ (HK.out.mono HBi.out) (HL.out.mono HBi.out) HF.out.1.ms HM.out HF.out.2.1.os.2 HF.out.2.2).mono ?_
  rintro e w2 ⟨rfl, hb1⟩
  have HBe := hid (HBi.out.trans (hb1.mono HBi.out.size))
  rw [HN.out]
  clear hb1 hX1 hL1 hz1 hy1
  go_wp2_with fail
  go_ret
  exact ⟨rfl, HBe.out⟩
end Go.Proofs.YtfcdmlnpfoikhaaGreat

namespace Go.Proofs.YtfcdmlnpfoikhaaGreat
open Go.RowKit
namespace Gate
theorem zkp {l : Lw} {b : Bk} {o : Ob} (hok : zW l.ss l.ms = true) (h : yB l b o = true) : o.vs.length = (shapeOf l.ss o.kd).fs.length := by
  unfold yB zal at h
  simp only [Bool.and_eq_true, decide_eq_true_eq] at h
  exact (zbh (jT hok h.2.2.1.1)).1
theorem zi4 {l : Lw} {b : Bk} (hok : zW l.ss l.ms = true) (h : zJ l b = true) : b.os.length <= 40 /\ ∀ k (h : k < b.os.length), zu l.ss b.os[k] = true := by
  unfold zJ at h
  simp only [Bool.and_eq_true, decide_eq_true_eq] at h
  refine ⟨h.1, fun k hk => ?_⟩
  have h2 := List.all_eq_true.1 h.2.2 _ (List.getElem_mem hk)
  unfold yB zal at h2
  simp only [Bool.and_eq_true, decide_eq_true_eq] at h2
  have h3 := jT hok h2.2.2.1.1
  unfold yZ at h3
  unfold zu
  simp only [Bool.and_eq_true, decide_eq_true_eq] at h3 ⊢
  exact ⟨h3.1, h3.2.1⟩
end Gate
theorem book_facts {l : Lw} {b : Bk} (h : Gate.jy l b = true) : Gate.zW l.ss l.ms = true /\ Gate.zJ l b = true := by
  unfold Gate.jy Gate.zaw Gate.zbA at h
  simp only [Bool.and_eq_true] at h
  exact ⟨h.1.1, h.2.2.1⟩
end Go.Proofs.YtfcdmlnpfoikhaaGreat

namespace Go.Proofs.YtfcdmlnpfoikhaaGreat
open Go.RowKit
namespace Gate
noncomputable def zbp (l : Lw) (os : List Ob) (o : Ob) : Bool := (yO (shapeOf l.ss o.kd).fs o.vs (shapeOf l.ss o.kd).fs.length).any fun x => decide (x.rl = 3) && os.any fun p => p.en && zav x.to x.nm p
noncomputable def zcy (l : Lw) (os : List Ob) (k : Nat) : List Int := if h : k < os.length then (if (!os[k].en && zbp l os os[k]) = true then [(k : Int)] else []) else []
noncomputable def yF (l : Lw) (os : List Ob) : Nat -> List Int
  | 0 => []
  | k + 1 => yF l os k ++ zcy l os k
noncomputable def marks (l : Lw) (os : List Ob) : List Int := yF l os os.length
noncomputable def qB (l : Lw) (b : Bk) : List Int := if jy l b = true then marks l b.os else []
theorem zif {l : Lw} {os : List Ob} {k : Nat} (h : k < os.length) (h1 : os[k].en = false) (h2 : zbp l os os[k] = true) : yF l os (k + 1) = yF l os k ++ [(k : Int)] := by
  show yF l os k ++ zcy l os k = _
  unfold zcy; rw [dif_pos h, h1, h2]; rfl
theorem zil {l : Lw} {os : List Ob} {k : Nat} (h : k < os.length) (h1 : os[k].en = true) : yF l os (k + 1) = yF l os k := by
  show yF l os k ++ zcy l os k = _
  unfold zcy; rw [dif_pos h, h1]; simp
theorem zjS {l : Lw} {os : List Ob} {k : Nat} (h : k < os.length) (h2 : zbp l os os[k] = false) : yF l os (k + 1) = yF l os k := by
  show yF l os k ++ zcy l os k = _
  unfold zcy; rw [dif_pos h, h2]; simp
theorem zd7 (l : Lw) (os : List Ob) : ∀ k, (yF l os k).length <= k
  | 0 => Nat.le_refl _
  | k + 1 => by
    have h := zd7 l os k
    show (yF l os k ++ zcy l os k).length <= _
    have h2 : (zcy l os k).length <= 1 := by
      unfold zcy; split
      · split <;> simp
      · simp
    rw [List.length_append]; omega
theorem zmX (l : Lw) (b : Bk) (h : b.Few) : (qB l b).length <= 1048576 := by
  unfold qB
  split
  · have h1 := zd7 l b.os b.os.length
    have h2 := h.os.1
    unfold marks
    omega
  · simp
end Gate
theorem zmw {l : Lw} {os : List Ob} {o : Ob} {f : ByteArray -> ByteArray -> Option Int} (h : zaY f os os.length) : zdj f (yO (Gate.shapeOf l.ss o.kd).fs o.vs (Gate.shapeOf l.ss o.kd).fs.length) = Gate.zbp l os o := by
  unfold zdj Gate.zbp
  congr 1
  funext x
  rw [h x.to x.nm, List.take_of_length_le (Nat.le_refl _)]
set_option maxRecDepth 20000 in
set_option maxHeartbeats 4000000 in
theorem zmt (l : Lw) (la lb lc : Option Addr) (lca lcb lcc : Nat) (b : Bk) (a0 a1 a2 a3 : Option Addr) (c0 c1 c2 c3 : Nat) (w : World) (hl : qA w l la lb lc) (hb : qD w b a0 a1 a2 a3) (hok : Gate.zW l.ss l.ms = true) (hob : Gate.zJ l b = true) :
    Calls Tryz.prog 34 #[.agg (lC l la lb lc lca lcb lcc), .agg (bC b a0 a1 a2 a3 c0 c1 c2 c3)] w fun e w' => ∃ v, e = .returned v /\ w'.ownsRow w.heap.size 3 1 v (Gate.marks l b.os).length (ints (Gate.marks l b.os)) /\ Below w.heap.size w w' := by
  obtain ⟨i0, hi, hzi0, hz1', hz2⟩ := info_parts Tryz.zeO
  have HK : Hid (qD w b a0 a1 a2 a3) := hb
  have HL : Hid (qA w l la lb lc) := hl
  have HO : Hid (b.os.length <= 40 /\ ∀ k (h : k < b.os.length), b.os[k].vs.length = (Gate.shapeOf l.ss b.os[k].kd).fs.length) := by
    unfold Gate.zJ at hob
    simp only [Bool.and_eq_true, decide_eq_true_eq] at hob
    exact ⟨hob.1, fun k h => Gate.zkp hok (List.all_eq_true.1 hob.2.2 _ (List.getElem_mem h))⟩
  clear hb hl hok hob
  go_enter Tryz.func34, Tryz.ntmps34
  go_wp2_with fail
  obtain ⟨hL0, hX0⟩ := yR w (lC l la lb lc lca lcb lcc) (bC b a0 a1 a2 a3 c0 c1 c2 c3) 41 48
  have HBi : Hid (Below w.heap.size w ((w.alloc (.cells (lC l la lb lc lca lcb lcc) 41)).alloc (.cells (bC b a0 a1 a2 a3 c0 c1 c2 c3) 48))) := zq w _ _
  obtain ⟨W0, hW0⟩ : ∃ W0, W0 = (w.alloc (.cells (lC l la lb lc lca lcb lcc) 41)).alloc (.cells (bC b a0 a1 a2 a3 c0 c1 c2 c3) 48) := ⟨_, rfl⟩
  have hz0 : w.heap.size + 1 < W0.heap.size := by rw [hW0]; simp
  rw [<- hW0] at HBi hX0 hL0 ⊢
  clear hW0
  refine (zi6 b a0 a1 a2 a3 c0 c1 c2 c3 _ (HK.out.mono HBi.out) (by have := HO.out.1; omega)).mono ?_
  rintro e w1 ⟨⟨r, f, rfl, hr, hf, hef⟩, hb1⟩
  have hX1 := za hX0 hz0 hb1
  have hL1 := za hL0 (Nat.lt_of_succ_lt hz0) hb1
  have hz1 := Nat.lt_of_lt_of_le hz0 hb1.size
  have hq1 := Nat.lt_of_succ_lt hz1
  have HF : Hid (yc w1 r f /\ zaY f b.os b.os.length) := ⟨hf, hef⟩
  have HB1 : Hid (Below w.heap.size w w1) := HBi.out.trans (hb1.mono HBi.out.size)
  clear hb1 hX0 hL0 hz0 hf hef hr HBi
  go_wp2_with fail
  go_loopw [6, 14] (fun v0 iv wr => ∃ (k : Nat) (v : Value), v = v0 /\ k <= b.os.length /\ iv = .int .i64 k /\ Hid (wr.ownsRow w1.heap.size 3 1 v (Gate.yF l b.os k).length (ints (Gate.yF l b.os k)) /\ Below w1.heap.size w1 wr)) (fun _ iv _ => b.os.length - (intOf iv).toNat)
  case atStart => exact ⟨0, _, rfl, Nat.zero_le _, rfl, World.ownsRow_nil _ _ _ _, Below.refl _ _⟩
  case round =>
    obtain ⟨k, v, hv, hk, rfl, HQ⟩ := hrel
    subst hv
    have hkn : k <= 40 := by have := HO.out.1; omega
    have hX2 := za hX1 hz1 HQ.out.2
    have hL2 := za hL1 hq1 HQ.out.2
    have hz3 := Nat.lt_of_lt_of_le hz1 HQ.out.2.size
    have hq3 := Nat.lt_of_lt_of_le hq1 HQ.out.2.size
    have HBr : Hid (Below w.heap.size w wr) := HB1.out.trans (HQ.out.2.mono HB1.out.size)
    by_cases hlt : k < b.os.length
    · obtain ⟨ob, off, v0, v1, q0, q1, rfl, hob, hsm, hl0, hl1, d0, d1, d2, d3, d4, d5, d6⟩ := HK.out.os.load HBr.out k hlt
      have hltI : (k : Int) < (b.os.length : Int) := by omega
      have hob' : ob < wr.heap.size := Nat.lt_of_lt_of_le hob HBr.out.size
      have HIt : Hid (qL wr b.os[k] v0 v1) := ⟨hsm, hl0, hl1⟩
      clear hsm hl0 hl1
      cases he : b.os[k].en with
      | true =>
        rw [he] at d4
        have HS : Hid (Gate.yF l b.os (k + 1) = Gate.yF l b.os k) := Gate.zil hlt he
        have HBa : Hid (∀ o, Below wr.heap.size wr (wr.alloc o)) := fun o => (Below.refl _ _).alloc (Nat.le_refl _) _
        go_wp2_with fail
        exact ⟨⟨k + 1, _, rfl, by omega, by go_num, by rw [HS.out]; exact yJ HQ.out.1 (HBa.out _), HQ.out.2.trans ((HBa.out _).mono HQ.out.2.size)⟩, zk hlt⟩
      | false =>
        rw [he] at d4
        have hba : Below wr.heap.size wr (wr.alloc (.cells #[.string b.os[k].kd, .string b.os[k].nm, .string b.os[k].tm, .slice v0 b.os[k].vs.length q0, .bool false, .slice v1 b.os[k].hs.length q1, .int .i64 b.os[k].vr] 115)) := (Below.refl _ _).alloc (Nat.le_refl _) _
        have hcall := zlR l la lb lc lca lcb lcc r f b.os[k] v0 v1 q0 q1 _ (HL.out.mono (HBr.out.trans (hba.mono HBr.out.size))) (HF.out.1.mono (HQ.out.2.trans (hba.mono HQ.out.2.size))) (HIt.out.mono hba) (HO.out.2 k hlt)
        unfold oC at hcall
        rw [he, zmw HF.out.2] at hcall
        have HBa : Hid (Below wr.heap.size wr (wr.alloc (.cells #[.string b.os[k].kd, .string b.os[k].nm, .string b.os[k].tm, .slice v0 b.os[k].vs.length q0, .bool false, .slice v1 b.os[k].hs.length q1, .int .i64 b.os[k].vr] 115))) := hba
        clear hba
        go_wp2_with fail
        refine hcall.mono ?_
        rintro e w3 ⟨rfl, hb3⟩
        have HB3 : Hid (Below wr.heap.size wr w3) := HBa.out.trans (hb3.mono HBa.out.size)
        have HQ3 : Hid (w3.ownsRow w1.heap.size 3 1 v (Gate.yF l b.os k).length (ints (Gate.yF l b.os k)) /\ Below w1.heap.size w1 w3) := ⟨yJ HQ.out.1 HB3.out, HQ.out.2.trans (HB3.out.mono HQ.out.2.size)⟩
        have HLL : Hid ((Gate.yF l b.os k).length <= 40) := by have := Gate.zd7 l b.os k; have := HO.out.1; show _ <= _; omega
        clear hb3 hcall d0 d1 d2 d3 d4 d5 d6 hob'
        by_cases how : Gate.zbp l b.os b.os[k] = true
        rotate_left
        · have HS : Hid (Gate.yF l b.os (k + 1) = Gate.yF l b.os k) := Gate.zjS hlt (by simpa using how)
          rw [Bool.eq_false_iff.2 how]
          go_wp2_with fail
          exact ⟨⟨k + 1, _, rfl, by omega, by go_num, by rw [HS.out]; exact HQ3.out.1, HQ3.out.2⟩, zk hlt⟩
        · have HS : Hid (Gate.yF l b.os (k + 1) = Gate.yF l b.os k ++ [(k : Int)]) := Gate.zif hlt he how
          rw [how]
          go_wp2_with (at_builtin; refine wpList_append_own _ rfl (.tmp 28) (.tmp 30) 35 rfl w1.heap.size 3 i0 (.int .i64 0) 1 8 Tryz.underlying35 hi hzi0 hz1' hz2 rfl (by decide) _ _ _ rfl (HQ3.out.1.alloc _) ⟨w3.heap.size, 0, none⟩ 1 1 [.int .i64 (k : Int)] rfl rfl (zbR _ _ _) (by intro u hu; simp at hu; subst hu; rfl) (by have := HLL.out; unfold maxLen; omega) (by have := HLL.out; omega) (by have := HQ3.out.2.size; simp; omega) ?_; intro v' w4 hown' hgr _)
          have hgb : ∀ g', v.ownBlock = some g' -> w1.heap.size <= g' := fun g' hg' => (HQ3.out.1.lt g' hg').1
          refine ⟨⟨k + 1, _, rfl, by omega, by go_num, ?_, zaR HQ3.out.2 HQ3.out.2.size hgr hgb⟩, zk hlt⟩
          rw [HS.out, List.length_append]
          have e1 : ints (Gate.yF l b.os k ++ [(k : Int)]) = ints (Gate.yF l b.os k) ++ [.int .i64 (k : Int)] := by simp [ints]
          rw [e1]
          exact hown'
    · have e : k = b.os.length := by omega
      subst e
      have HW : Hid (wr.ownsRow w.heap.size 3 1 v (Gate.marks l b.os).length (ints (Gate.marks l b.os)) /\ Below w.heap.size w wr) := ⟨jN HQ.out.1 HB1.out.size, HBr.out⟩
      clear HQ hlt hk hX1 hL1 hX2 hL2
      go_wp2_with fail
      go_ret
      exact ⟨v, rfl, HW.out⟩
end Go.Proofs.YtfcdmlnpfoikhaaGreat

namespace Go.Proofs.YtfcdmlnpfoikhaaGreat
open Go.RowKit
set_option maxRecDepth 20000 in
set_option maxHeartbeats 4000000 in
theorem zfs (l : Lw) (la lb lc : Option Addr) (lca lcb lcc : Nat) (b : Bk) (a0 a1 a2 a3 : Option Addr) (c0 c1 c2 c3 : Nat) (w : World) (hl : qA w l la lb lc) (hb : qD w b a0 a1 a2 a3) (hlf : l.Few) (hbf : b.Few) (hz : yX b.os <= 1048576) :
    Calls Tryz.prog 9 #[.agg (l.cells la lb lc lca lcb lcc), .agg (b.cells a0 a1 a2 a3 c0 c1 c2 c3)] w fun e w' => ∃ v, e = .returned v /\ w'.ownsRow w.heap.size 3 1 v (Gate.qB l b).length (ints (Gate.qB l b)) /\ Below w.heap.size w w' := by
  have HK : Hid (qD w b a0 a1 a2 a3) := hb
  have HL : Hid (qA w l la lb lc) := hl
  have HF : Hid (l.Few /\ b.Few /\ yX b.os <= 1048576) := ⟨hlf, hbf, hz⟩
  clear hb hl hlf hbf hz
  unfold Lw.cells Bk.cells
  go_enter Tryz.func9, Tryz.ntmps9
  go_wp2_with fail
  obtain ⟨hL0, hX0⟩ := yR w #[.slice la l.ss.length lca, .slice lb l.ms.length lcb, .slice lc l.ts.length lcc] #[.int .i64 b.now, .int .i64 b.tick, .int .i64 b.given, .slice a0 b.os.length c0, .slice a1 b.gs.length c1, .slice a2 b.ls.length c2, .slice a3 b.ps.length c3] 41 48
  have HBi : Hid (Below w.heap.size w ((w.alloc (.cells #[.slice la l.ss.length lca, .slice lb l.ms.length lcb, .slice lc l.ts.length lcc] 41)).alloc (.cells #[.int .i64 b.now, .int .i64 b.tick, .int .i64 b.given, .slice a0 b.os.length c0, .slice a1 b.gs.length c1, .slice a2 b.ls.length c2, .slice a3 b.ps.length c3] 48))) := zq w _ _
  obtain ⟨W0, hW0⟩ : ∃ W0, W0 = (w.alloc (.cells #[.slice la l.ss.length lca, .slice lb l.ms.length lcb, .slice lc l.ts.length lcc] 41)).alloc (.cells #[.int .i64 b.now, .int .i64 b.tick, .int .i64 b.given, .slice a0 b.os.length c0, .slice a1 b.gs.length c1, .slice a2 b.ls.length c2, .slice a3 b.ps.length c3] 48) := ⟨_, rfl⟩
  have hz0 : w.heap.size + 1 < W0.heap.size := by rw [hW0]; simp
  rw [<- hW0] at HBi hX0 hL0 ⊢
  clear hW0
  refine (zh9 l la lb lc lca lcb lcc b a0 a1 a2 a3 c0 c1 c2 c3 _ (HL.out.mono HBi.out) (HK.out.mono HBi.out) HF.out.1 HF.out.2.1 HF.out.2.2).mono ?_
  rintro e w1 ⟨rfl, hb0⟩
  have hX1 := za hX0 hz0 hb0
  have hL1 := za hL0 (Nat.lt_of_succ_lt hz0) hb0
  have hz1 := Nat.lt_of_lt_of_le hz0 hb0.size
  have hy1 := Nat.lt_of_succ_lt hz1
  have HBi : Hid (Below w.heap.size w w1) := HBi.out.trans (hb0.mono HBi.out.size)
  clear hb0 hX0 hL0 hz0
  by_cases t : Gate.jy l b = true
  rotate_left
  · have HN : Hid (Gate.qB l b = []) := by unfold Hid Gate.qB; rw [if_neg t]
    rw [Bool.eq_false_iff.2 t]
    clear t
    go_wp2_with fail
    go_ret
    exact ⟨_, rfl, by rw [HN.out]; exact World.ownsRow_nil _ _ _ _, HBi.out⟩
  have HM : Hid (Gate.qB l b = Gate.marks l b.os) := by unfold Hid Gate.qB; rw [if_pos t]
  have HT : Hid (Gate.jy l b = true) := t
  rw [t]
  clear t
  go_wp2_with fail
  refine (zmt l la lb lc lca lcb lcc b a0 a1 a2 a3 c0 c1 c2 c3 _ (HL.out.mono HBi.out) (HK.out.mono HBi.out) (book_facts HT.out).1 (book_facts HT.out).2).mono ?_
  rintro e w2 ⟨v, rfl, hv, hb1⟩
  have HV : Hid (w2.ownsRow w.heap.size 3 1 v (Gate.qB l b).length (ints (Gate.qB l b)) /\ Below w.heap.size w w2) := by rw [HM.out]; exact ⟨jN hv HBi.out.size, HBi.out.trans (hb1.mono HBi.out.size)⟩
  clear hv hb1
  go_wp2_with fail
  go_ret
  exact ⟨v, rfl, HV.out⟩
end Go.Proofs.YtfcdmlnpfoikhaaGreat

namespace Go.Proofs.YtfcdmlnpfoikhaaGreat
open Go.RowKit
namespace Gate
noncomputable def zas (l : Lw) (o p : Ob) (role : Int) (m : Nat) : Bool := (yO (shapeOf l.ss o.kd).fs o.vs m).any fun x => decide (x.rl = role) && zav x.to x.nm p
noncomputable def names (l : Lw) (o p : Ob) (role : Int) : Bool := zas l o p role (shapeOf l.ss o.kd).fs.length
theorem zku {l : Lw} {o p : Ob} {role : Int} {fs : List Fld} (e : fs = (shapeOf l.ss o.kd).fs) {m : Nat} (hk : m < fs.length) (hv : m < o.vs.length) (h : ¬ (fs[m].kd = 4 /\ o.vs[m].toList.isEmpty = false)) : zas l o p role (m + 1) = zas l o p role m := by
  subst e
  unfold zas
  rw [jP, List.any_append]
  have : zed (shapeOf l.ss o.kd).fs o.vs m = [] := by
    unfold zed
    rw [List.getElem?_eq_getElem hk, List.getElem?_eq_getElem hv]
    exact dif_neg (fun h' => h h'.1)
  rw [this]; simp
theorem zla {l : Lw} {o p : Ob} {role : Int} {fs : List Fld} (e : fs = (shapeOf l.ss o.kd).fs) {m : Nat} (hk : m < fs.length) (hv : m < o.vs.length) (h1 : fs[m].kd = 4) (h2 : o.vs[m].toList.isEmpty = false) (hs1 : fs[m].to.size <= maxLen) (hs2 : o.vs[m].size <= maxLen) : zas l o p role (m + 1) = (zas l o p role m || (decide (fs[m].rl = role) && zav fs[m].to o.vs[m] p)) := by
  subst e
  unfold zas
  rw [jP, List.any_append]
  have : zed (shapeOf l.ss o.kd).fs o.vs m = [⟨m, (shapeOf l.ss o.kd).fs[m].rl, (shapeOf l.ss o.kd).fs[m].to, o.vs[m], hs1, hs2⟩] := by
    unfold zed
    rw [List.getElem?_eq_getElem hk, List.getElem?_eq_getElem hv]
    exact dif_pos ⟨⟨h1, h2⟩, hs1, hs2⟩
  rw [this]; simp
theorem ziW {l : Lw} {o p : Ob} {role : Int} {fs : List Fld} (e : fs = (shapeOf l.ss o.kd).fs) {m : Nat} (hk : m <= fs.length) (h : zas l o p role m = true) : names l o p role = true := by
  subst e
  unfold names zas at *
  obtain ⟨t, ht⟩ := zaq (shapeOf l.ss o.kd).fs o.vs hk
  rw [<- ht, List.any_append, h]; rfl
theorem zoi (kd nm : ByteArray) (p : Ob) : zav kd nm p = ((kd.toList == p.kd.toList) && (nm.toList == p.nm.toList)) := by
  unfold zav
  rw [Gate.beq_toList, Gate.beq_toList]
  congr 1
  · exact decide_eq_decide.2 eq_comm
  · exact decide_eq_decide.2 eq_comm
end Gate
set_option maxRecDepth 20000 in
set_option maxHeartbeats 40000000 in
theorem zlL (l : Lw) (la lb lc : Option Addr) (lca lcb lcc : Nat) (b : Bk) (a0 a1 a2 a3 : Option Addr) (c0 c1 c2 c3 : Nat) (i k : Nat) (role : Int) (w : World) (hl : qA w l la lb lc) (hb : qD w b a0 a1 a2 a3) (hi : i < b.os.length) (hk : k < b.os.length) (hwc : Gate.zu l.ss b.os[i] = true) (hfw : b.os[i].vs.length <= 1048576) :
    Calls Tryz.prog 61 #[.agg (lC l la lb lc lca lcb lcc), .agg (bC b a0 a1 a2 a3 c0 c1 c2 c3), .int .i64 (i : Int), .int .i64 (k : Int), .int .i64 role] w fun e w' => e = .returned (.bool (Gate.names l b.os[i] b.os[k] role)) /\ Below w.heap.size w w' := by
  have HK := hid hb
  have HL := hid hl
  have HWc : Hid (Gate.zu l.ss b.os[i] = true /\ b.os[i].vs.length <= 1048576) := ⟨hwc, hfw⟩
  have hiI : (i : Int) < (b.os.length : Int) := by omega
  have hkI : (k : Int) < (b.os.length : Int) := by omega
  clear hb hl hwc hfw
  obtain ⟨ob, off, va, ha, q0, q1, rfl, hob, hsm, hs0, hs1, d0, d1, d2, d3, d4, d5, d6⟩ := HK.out.os.load (zq w (.cells (lC l la lb lc lca lcb lcc) 41) (.cells (bC b a0 a1 a2 a3 c0 c1 c2 c3) 48)) i hi
  have hob' : ob < ((w.alloc (.cells (lC l la lb lc lca lcb lcc) 41)).alloc (.cells (bC b (some ⟨ob, off, none⟩) a1 a2 a3 c0 c1 c2 c3) 48)).heap.size := by simp; omega
  go_enter Tryz.func61, Tryz.ntmps61
  go_wp2_with fail
  have HIt : Hid (qL ((w.alloc (.cells (lC l la lb lc lca lcb lcc) 41)).alloc (.cells (bC b (some ⟨ob, off, none⟩) a1 a2 a3 c0 c1 c2 c3) 48)) b.os[i] va ha) := ⟨hsm, hs0, hs1⟩
  obtain ⟨hX0, hY0, hZ0⟩ := zoK w (.cells (lC l la lb lc lca lcb lcc) 41) (.cells (bC b (some ⟨ob, off, none⟩) a1 a2 a3 c0 c1 c2 c3) 48) (.cells (oC b.os[i] va ha q0 q1) 115)
  have HB3 : Hid (Below w.heap.size w (((w.alloc (.cells (lC l la lb lc lca lcb lcc) 41)).alloc (.cells (bC b (some ⟨ob, off, none⟩) a1 a2 a3 c0 c1 c2 c3) 48)).alloc (.cells (oC b.os[i] va ha q0 q1) 115))) := below3' w _ _ _
  have HI3 : Hid (qL (((w.alloc (.cells (lC l la lb lc lca lcb lcc) 41)).alloc (.cells (bC b (some ⟨ob, off, none⟩) a1 a2 a3 c0 c1 c2 c3) 48)).alloc (.cells (oC b.os[i] va ha q0 q1) 115)) b.os[i] va ha) := HIt.out.mono ((Below.refl _ _).alloc (Nat.le_refl _) _)
  obtain ⟨W3, hW3⟩ : ∃ W3, W3 = ((w.alloc (.cells (lC l la lb lc lca lcb lcc) 41)).alloc (.cells (bC b (some ⟨ob, off, none⟩) a1 a2 a3 c0 c1 c2 c3) 48)).alloc (.cells (oC b.os[i] va ha q0 q1) 115) := ⟨_, rfl⟩
  have hz3 : w.heap.size + 1 + 1 < W3.heap.size := by rw [hW3]; simp
  rw [<- hW3] at HB3 HI3 hX0 hY0 hZ0 ⊢
  clear hW3 d0 d1 d2 d3 d4 d5 d6 HIt hsm hs0 hs1 hob'
  refine (za2 _ _ l.ss b.os[i] _ _ _ _ _ (HL.out.ss.mono HB3.out) HI3.out HWc.out.1).mono ?_
  rintro e w4 ⟨fa, fcap, rfl, hfa, hb4⟩
  have hY4 : ∀ j, w4.cell? ⟨w.heap.size + 1, j, none⟩ = (bC b (some ⟨ob, off, none⟩) a1 a2 a3 c0 c1 c2 c3)[j]? := za (zbi hY0) (by omega) hb4
  have hZ4 : ∀ j, w4.cell? ⟨w.heap.size + 1 + 1, j, none⟩ = (oC b.os[i] va ha q0 q1)[j]? := za (zbi hZ0) (by omega) hb4
  have hz4 := Nat.lt_of_lt_of_le hz3 hb4.size
  have hy4 := Nat.lt_of_succ_lt hz4
  have HB4 : Hid (Below w.heap.size w w4) := HB3.out.trans (hb4.mono HB3.out.size)
  have HI4 : Hid (qL w4 b.os[i] va ha) := HI3.out.mono hb4
  have HFa : Hid (zY w4 fa (Gate.shapeOf l.ss b.os[i].kd).fs) := hfa.mono hb4
  have HLv : Hid ((Gate.shapeOf l.ss b.os[i].kd).fs.length = b.os[i].vs.length) := by have := HWc.out.1; unfold Gate.zu at this; simp only [Bool.and_eq_true, decide_eq_true_eq] at this; exact this.2.symm
  clear hfa hb4 hX0 hY0 hZ0 hz3 HI3 HB3
  obtain ⟨fs, hfs⟩ : ∃ fs, fs = (Gate.shapeOf l.ss b.os[i].kd).fs := ⟨_, rfl⟩
  have HFS : Hid (fs = (Gate.shapeOf l.ss b.os[i].kd).fs) := hfs
  rw [<- hfs] at HFa HLv ⊢
  clear hfs
  go_wp2_with fail
  go_loopw [14] (fun jv wi => ∃ m : Nat, m <= fs.length /\ jv = .int .i64 m /\ Hid (Gate.zas l b.os[i] b.os[k] role m = false /\ Below w4.heap.size w4 wi)) (fun jv _ => fs.length - (intOf jv).toNat)
  case atStart => exact ⟨0, Nat.zero_le _, rfl, by simp [Gate.zas, yO], Below.refl _ _⟩
  case round =>
    obtain ⟨m, hm, rfl, HR⟩ := hrel
    have hfl : fs.length <= 1048576 := by have := HLv.out; have := HWc.out.2; omega
    have hYm := za hY4 hy4 HR.out.2
    have hZm := za hZ4 hz4 HR.out.2
    have hzm := Nat.lt_of_lt_of_le hz4 HR.out.2.size
    have hym := Nat.lt_of_lt_of_le hy4 HR.out.2.size
    have HBm : Hid (Below w.heap.size w wr) := HB4.out.trans (HR.out.2.mono HB4.out.size)
    by_cases hml : m < fs.length
    · have hmI : (m : Int) < (fs.length : Int) := by omega
      have hmv : m < b.os[i].vs.length := by have := HLv.out; omega
      have hmvI : (m : Int) < (b.os[i].vs.length : Int) := by omega
      obtain ⟨fb, foff, fw, fc, rfl, hfb, hfi⟩ := znk HFa.out HR.out.2 m hml
      obtain ⟨d0, d1, d2, d3, d4, d5, d6, d7, d8, d9, d10⟩ := hfi.load
      obtain ⟨vb, voff, rfl, hvb, cv0⟩ := HI4.out.vals.cells (by intro e; rw [e] at hmv; simp at hmv)
      have cv := (HR.out.2.cell (p := ⟨vb, voff + m, none⟩) hvb).trans (cv0 m hmv)
      have HSt : Hid (fs[m].to.size <= maxLen /\ b.os[i].vs[m].size <= maxLen) := ⟨hfi.small.to, HI4.out.vals.small _ (List.getElem_mem _)⟩
      obtain ⟨ob2, off2, _, _, _, _, e2, hob2, _, _, _, p0, p1, _⟩ := HK.out.os.load HBm.out k hk
      simp only [Option.some.injEq, Addr.mk.injEq] at e2
      obtain ⟨rfl, rfl, _⟩ := e2
      have hfb' : fb < wr.heap.size := Nat.lt_of_lt_of_le hfb HR.out.2.size
      have HBa : Hid (Below wr.heap.size wr (wr.alloc (.cells #[.string fs[m].nm, .int .i64 fs[m].kd, .int .i64 fs[m].ls, .int .i64 fs[m].ms, .slice fw fs[m].ws.length fc, .string fs[m].to, .int .i64 fs[m].rl, .bool fs[m].mu, .bool fs[m].fx, .string fs[m].df, .string fs[m].wg] 161))) := (Below.refl _ _).alloc (Nat.le_refl _) _
      have hob3 := Nat.lt_of_lt_of_le hob2 HBm.out.size
      have hvb3 := Nat.lt_of_lt_of_le hvb HR.out.2.size
      clear hfi cv0 hY4 hZ4 hz4 hy4
      go_wp2_with fail
      have hT0 := zH wr #[.string fs[m].nm, .int .i64 fs[m].kd, .int .i64 fs[m].ls, .int .i64 fs[m].ms, .slice fw fs[m].ws.length fc, .string fs[m].to, .int .i64 fs[m].rl, .bool fs[m].mu, .bool fs[m].fx, .string fs[m].df, .string fs[m].wg] 161
      obtain ⟨W5, hW5⟩ : ∃ W5, W5 = wr.alloc (.cells #[.string fs[m].nm, .int .i64 fs[m].kd, .int .i64 fs[m].ls, .int .i64 fs[m].ms, .slice fw fs[m].ws.length fc, .string fs[m].to, .int .i64 fs[m].rl, .bool fs[m].mu, .bool fs[m].fx, .string fs[m].df, .string fs[m].wg] 161) := ⟨_, rfl⟩
      have hy5 : wr.heap.size < W5.heap.size := by rw [hW5]; simp
      rw [<- hW5] at HBa hT0 ⊢
      clear hW5 d0 d1 d2 d3 d4 d5 d6 d7 d8 d9 d10
      have hT := za hT0 hy5 (Below.refl W5.heap.size W5).drew
      have hY := za (za hYm hym HBa.out) (Nat.lt_of_lt_of_le hym HBa.out.size) (Below.refl W5.heap.size W5).drew
      have hZ := za (za hZm hzm HBa.out) (Nat.lt_of_lt_of_le hzm HBa.out.size) (Below.refl W5.heap.size W5).drew
      have cvd := (HBa.out.cell (p := ⟨vb, voff + m, none⟩) hvb3).trans cv
      have p0d := (HBa.out.cell (p := ⟨ob, off + k * 7, none⟩) hob3).trans p0
      have p1d := (HBa.out.cell (p := ⟨ob, off + k * 7 + 1, none⟩) hob3).trans p1
      have HRd := hid ((HR.out.2.trans (HBa.out.mono HR.out.2.size)).drew)
      have HBd := hid (HB4.out.trans (HRd.out.mono HB4.out.size))
      clear hT0 hYm hZm hzm hym cv p0 p1
      refine wp_region_held_drew (S := fun w' => (∀ j, w'.cell? ⟨w.heap.size + 1, j, none⟩ = (bC b (some ⟨ob, off, none⟩) a1 a2 a3 c0 c1 c2 c3)[j]?) /\ (∀ j, w'.cell? ⟨w.heap.size + 1 + 1, j, none⟩ = (oC b.os[i] (some ⟨vb, voff, none⟩) ha q0 q1)[j]?) /\ (∀ j, w'.cell? ⟨wr.heap.size, j, none⟩ = (#[.string fs[m].nm, .int .i64 fs[m].kd, .int .i64 fs[m].ls, .int .i64 fs[m].ms, .slice fw fs[m].ws.length fc, .string fs[m].to, .int .i64 fs[m].rl, .bool fs[m].mu, .bool fs[m].fx, .string fs[m].df, .string fs[m].wg] : Array Value)[j]?) /\ w'.cell? ⟨vb, voff + m, none⟩ = some (.string b.os[i].vs[m]) /\ w'.cell? ⟨ob, off + k * 7, none⟩ = some (.string b.os[k].kd) /\ w'.cell? ⟨ob, off + k * 7 + 1, none⟩ = some (.string b.os[k].nm)) (by kernel_rfl) ⟨hY, hZ, hT, cvd, p0d, p1d⟩ (fun hHeld => ?_)
      obtain ⟨x2, hx2⟩ : ∃ x, x = ((fs[m].kd == 4) && (fs[m].rl == role)) := ⟨_, rfl⟩
      obtain ⟨x3, hx3⟩ : ∃ x, x = (x2 && !(b.os[i].vs[m].toList.isEmpty)) := ⟨_, rfl⟩
      obtain ⟨x4, hx4⟩ : ∃ x, x = (x3 && (fs[m].to.toList == b.os[k].kd.toList)) := ⟨_, rfl⟩
      obtain ⟨x5, hx5⟩ : ∃ x, x = (x4 && (b.os[i].vs[m].toList == b.os[k].nm.toList)) := ⟨_, rfl⟩
      have HX := ziV hx2 hx3 hx4 hx5
      clear hx2 hx3 hx4 hx5
      refine tG 0 ?_; refine tG 1 ?_; refine tG 2 ?_; refine tG 3 ?_
      refine sT 4 ?_; refine sT 5 ?_; refine sT 6 ?_; refine sT 7 ?_
      refine tG (v := .bool x2) 8 ?_ (hy := by intro w hSw; rw [HX.out.1]; cases h : (fs[m].kd == 4) <;> go_simp)
      refine tG 9 ?_
      refine sT 10 ?_; refine sT 11 ?_; refine sT 12 ?_; refine sT 13 ?_; refine sT 14 ?_
      refine sT (v := .bool (!(b.os[i].vs[m].toList.isEmpty))) 15 ?_
      refine tG (v := .bool x3) 16 ?_ (hy := by intro w hSw; rw [HX.out.2.1]; cases h : x2 <;> go_simp)
      refine tG 17 ?_
      refine sT 18 ?_; refine sT 19 ?_; refine sT 20 ?_; refine sT 21 ?_; refine sT 22 ?_; refine sT 23 ?_; refine sT 24 ?_; refine sT 25 ?_; refine sT 26 ?_
      refine tG (v := .bool x4) 27 ?_ (hy := by intro w hSw; rw [HX.out.2.2.1]; cases h : x3 <;> go_simp)
      refine tG 28 ?_
      refine sT 29 ?_; refine sT 30 ?_; refine sT 31 ?_; refine sT 32 ?_; refine sT 33 ?_; refine sT 34 ?_; refine sT 35 ?_; refine sT 36 ?_; refine sT 37 ?_; refine sT 38 ?_; refine sT 39 ?_; refine sT 40 ?_
      refine tG (v := .bool x5) 41 ?_ (hy := by intro w hSw; rw [HX.out.2.2.2]; cases h : x4 <;> go_simp)
      refine wpAnyH_done (by kernel_rfl) ?_ _
      have HN : Hid (Gate.zas l b.os[i] b.os[k] role (m + 1) = x5) := by
        unfold Hid
        obtain ⟨e2, e3, e4, e5⟩ := HX.out
        subst e2 e3 e4 e5
        by_cases h1 : fs[m].kd = 4 /\ b.os[i].vs[m].toList.isEmpty = false
        · rw [Gate.zla HFS.out hml hmv h1.1 h1.2 HSt.out.1 HSt.out.2, HR.out.1, Gate.zoi, h1.1, h1.2]
          cases h2 : decide (fs[m].rl = role) <;> simp_all
        · rw [Gate.zku HFS.out hml hmv h1, HR.out.1]
          by_cases h4 : fs[m].kd = 4
          · have h5 : b.os[i].vs[m].toList.isEmpty = true := by simpa using fun h => h1 ⟨h4, h⟩
            rw [h5]; simp
          · rw [beq_eq_false_iff_ne.2 h4]; rfl
      clear hHeld HX
      cases x5 with
      | true =>
        have HF : Hid (Gate.names l b.os[i] b.os[k] role = true) := Gate.ziW (m := m + 1) HFS.out hml HN.out
        go_wp2_with fail
        go_ret
        exact ⟨ze HF.out.symm, HBd.out⟩
      | false =>
        go_wp2_with fail
        exact ⟨⟨m + 1, by omega, by go_num, HN.out, HRd.out⟩, by simp [intOf]; omega⟩
    · have e : m = fs.length := by omega
      subst e
      have HN : Hid (Gate.names l b.os[i] b.os[k] role = false) := by
        have h1 := HR.out.1
        rw [HFS.out] at h1
        exact h1
      clear HR hY4 hZ4
      go_wp2_with fail
      go_ret
      exact ⟨ze HN.out.symm, HBm.out⟩
end Go.Proofs.YtfcdmlnpfoikhaaGreat
