import Derived.Test.YtfpeplbmfbepcaaGreatM49
import Derived.Test.YtfpeplbmfbepcaaGreatM47
import Derived.RangeFuncNested
import Derived.Test.YtfpeplbmfbepcaaGreatM41
namespace Go.Proofs.YtfpeplbmfbepcaaGreat
open Go.RowKit Go.Shelf
attribute [local go_sem] Oper.semAt_some
def zdp (f : ByteArray -> ByteArray -> Option Int) (xs : List Lk) : Bool := xs.all fun x => (f x.to x.nm).isSome
set_option maxRecDepth 100000 in
set_option maxHeartbeats 4000000 in
theorem zlI (l : Lw) (a b c : Option Addr) (ca cb cc : Nat) (r : Nat) (f : ByteArray -> ByteArray -> Option Int) (o : Ob) (va ha : Option Addr) (cap cap' : Nat) (w : World) (hL : qB w l a b c) (hM : zN w r f) (ho : qR w o va ha) (hc : o.vs.length = (Gate.shapeOf l.ss o.kd).fs.length) :
    Calls Tryz.prog 154 #[.agg (lC l a b c ca cb cc), .map (some r), .agg (oC o va ha cap cap')] w
      fun e w' => e = .returned (.bool (zdp f (yG (Gate.shapeOf l.ss o.kd).fs o.vs (Gate.shapeOf l.ss o.kd).fs.length))) /\ Below w.heap.size w w' := by
  have HH := zia hL hM ho hc
  clear hL hM ho hc
  refine (callsIn_wide (n := 6)).1 ?_
  refine callsIn_of_wp_marks Tryz.func154 rfl trivial ?_ rfl
  simp only [Tryz.ntmps154, List.size_toArray, List.length_cons, List.length_nil, Nat.reduceAdd, Nat.reduceSub, Array.replicate_succ, Array.replicate_zero, List.push_toArray, List.append_toArray, List.nil_append, List.cons_append]
  gi_wp2_with fail
  refine ⟨trivial, ?_⟩
  have hb4 : Below w.heap.size w ((((w.alloc (.cells (lC l a b c ca cb cc) 41)).alloc (.cells #[.map (some r)] 139)).alloc (.cells (oC o va ha cap cap') 119)).alloc (.cells #[.bool false] 4)) := (jl _ _ _ _).alloc (by simp; omega) _
  have hbR := Boxed.new (((w.alloc (.cells (lC l a b c ca cb cc) 41)).alloc (.cells #[.map (some r)] 139)).alloc (.cells (oC o va ha cap cap') 119)) 4 (.bool false)
  have hbP := ((Boxed.new (w.alloc (.cells (lC l a b c ca cb cc) 41)) 139 (.map (some r))).alloc (.cells (oC o va ha cap cap') 119)).alloc (.cells #[.bool false] 4)
  simp only [World.size_alloc] at hbR hbP
  obtain ⟨w4, hw4⟩ : ∃ w4, w4 = ((((w.alloc (.cells (lC l a b c ca cb cc) 41)).alloc (.cells #[.map (some r)] 139)).alloc (.cells (oC o va ha cap cap') 119)).alloc (.cells #[.bool false] 4)) := ⟨_, rfl⟩
  rw [<- hw4] at hb4 hbR hbP ⊢
  clear hw4
  refine (callsIn_wide.2 (zgY l a b c ca cb cc o va ha cap cap' w4 (HH.out.1.mono hb4))).mono ?_
  rintro e W0 ⟨Bs, Bo, fa, fcap, rfl, hBs, hBo, hfl, hXs, hXo, hb1⟩
  have bR : Boxed W0 (w.heap.size + 1 + 1 + 1) 4 (.bool false) := (hb1.block _ hbR.lt).trans hbR
  have bP : Boxed W0 (w.heap.size + 1) 139 (.map (some r)) := (hb1.block _ hbP.lt).trans hbP
  have HB0 : Hid (Below w.heap.size w W0) := hb4.trans (hb1.mono hb4.size)
  have hN : w.heap.size <= W0.heap.size := HB0.out.size
  have HO0 : Hid (zA W0 va o.vs) := HH.out.2.2.1.vals.mono HB0.out
  clear hb1 hb4 hbR hbP
  gi_wp2_with fail
  refine wpIn_rangeFunc_ownH rfl (by omega) (gf := 167) (lb := #[.pointer (some ⟨Bs, 0, none⟩), .pointer (some ⟨Bo, 0, none⟩)]) rfl trivial (enters_of Tryz.func167 (by kernel_rfl) rfl)
    (zmg 5 (by omega) Bs Bo (Gate.shapeOf l.ss o.kd).kd (Gate.shapeOf l.ss o.kd).fs fa fcap o va ha cap cap' W0 hBs hBo hXs hXo hfl HO0.out HH.out.2.2.2) belowK_t (belowK_b (Nat.le_refl _)) (Below.refl _ _) (fun _ => rfl)
    (fun pre W => (∀ x ∈ pre, (f x.to x.nm).isSome = true) /\ Below W0.heap.size W0 W)
    (fun cd pre W => ((cd = .ret /\ ∃ x ∈ pre, (f x.to x.nm).isSome = false) /\ Boxed W (w.heap.size + 1 + 1 + 1) 4 (.bool false)) /\ Below w.heap.size w W)
    (OwnFrom.and (ownFrom_pure _ _) (ownFrom_below (Nat.le_refl _) (Nat.le_refl _)))
    (fun cd => OwnFrom.and (OwnFrom.and (ownFrom_pure _ _) (Own.from (boxed_own _ _ _) _)) (ownFrom_below (Nat.le_refl _) hN))
    ⟨by simp, Below.refl _ _⟩
    (fun x a' W => ∃ Bx, W.heap[Bx]? = some (.cells #[.int .i64 x.pl, .int .i64 x.rl, .string x.to, .string x.nm] 184) /\ a' = { tmps := #[.agg (lC l a b c ca cb cc), .map (some r), .agg (oC o va ha cap cap'), .pointer (some ⟨w.heap.size, 0, none⟩), .pointer (some ⟨w.heap.size + 1, 0, none⟩), .pointer (some ⟨w.heap.size + 1 + 1, 0, none⟩), .pointer (some ⟨w.heap.size + 1 + 1 + 1, 0, none⟩), .pointer (some ⟨Bx, 0, none⟩), undef, undef, .agg (lC l a b c ca cb cc), .agg (oC o va ha cap cap'), .func (.func 167) #[] #[.pointer (some ⟨Bs, 0, none⟩), .pointer (some ⟨Bo, 0, none⟩)], .agg #[.int .i64 x.pl, .int .i64 x.rl, .string x.to, .string x.nm], undef, undef, undef, undef, undef, undef, undef, undef, undef], defers := [] })
    (fun x a' _ X Y row hs hg hr => by
      obtain ⟨Bx, e1, e2⟩ := hs
      refine ⟨Bx, (hg.block Bx (Array.getElem?_eq_some_iff.1 e1).1 (fun e => ?_)).trans e1, e2⟩
      obtain ⟨_, ob, h1, h2⟩ := hr Bx e.symm
      rw [e1] at h1
      cases h1
      cases h2)
    ?assign ?body ?done ?stop
  case assign =>
    rintro l' pre x W K ⟨hp, hB1⟩ hK
    unfold Lk.enc
    gi_wp2
    exact hK _ _ ((KeepsOthers.alloc _ _).from _) ((Below.refl _ W).alloc hB1.size _) ⟨hp, hB1.alloc hB1.size _⟩ ⟨W.heap.size, World.alloc_heap_new W _, rfl⟩
  case body =>
    rintro l' pre x a' W hl ⟨rr, hr⟩ ⟨hp, hB1⟩ ⟨Bx, hBx, rfl⟩ hlt
    have cX := j5 hBx
    have bP1 : Boxed W (w.heap.size + 1) 139 (.map (some r)) := (hB1.block _ bP.lt).trans bP
    have cP := bP1.cell
    have bR1 : Boxed W (w.heap.size + 1 + 1 + 1) 4 (.bool false) := (hB1.block _ bR.lt).trans bR
    have cR := bR1.cell
    have fR := bR1.frozen
    have hlk := (HH.out.2.1.mono (HB0.out.trans (hB1.mono HB0.out.size))).look zat Tryz.underlying139 x.to x.nm x.hto x.hnm true
    unfold yO at hlk
    simp only [if_true] at hlk
    have HB2 : Hid (Below W0.heap.size W0 W) := hB1
    have HP : Hid (∀ x ∈ pre, (f x.to x.nm).isSome = true) := hp
    have HR1 : Hid (Boxed W (w.heap.size + 1 + 1 + 1) 4 (.bool false)) := bR1
    clear hp hB1 bR1
    cases hq : (f x.to x.nm).isSome with
    | false =>
      rw [hq] at hlk
      gi_wp2
      exact ⟨(KeepsOthers.setCell _ _ _).from _, ⟨⟨rfl, x, List.mem_append.2 (.inr (by simp)), hq⟩, HR1.out.set _⟩, (HB0.out.trans (HB2.out.mono hN)).setCell (p := ⟨(w.heap.size + 1 + 1 + 1), 0, none⟩) (by show w.heap.size <= (w.heap.size + 1 + 1 + 1); omega) _⟩
    | true =>
      rw [hq] at hlk
      gi_wp2
      exact ⟨KeepsFrom.refl _ _, Below.refl _ _, fun z hz => (List.mem_append.1 hz).elim (HP.out z) (fun e => by simp at e; subst e; exact hq), HB2.out⟩
  case done =>
    rintro D ys W hD rfl ⟨hp, hB1⟩ hK
    have bR1 : Boxed W (w.heap.size + 1 + 1 + 1) 4 (.bool false) := (hB1.block _ bR.lt).trans bR
    have cR := bR1.cell
    have fR := bR1.frozen
    gi_wp2
    have hK' := (KeepsOthers.setCell W ⟨(w.heap.size + 1 + 1 + 1), 0, none⟩ (.bool true)).same D _ hK rfl
    refine ⟨by simp, .inl ⟨_, _, rfl, run_takeDeferred hK', ?_⟩⟩
    have hc5 := cell_kept (World.cell?_setCell_same' W ⟨(w.heap.size + 1 + 1 + 1), 0, none⟩ (.bool true) (by rw [cR]; rfl)) (grownBy_putObj' _ D (.deferred none)) (fun r e => by cases e; exact ⟨_, hK', rfl⟩)
    have hall : zdp f (yG (Gate.shapeOf l.ss o.kd).fs o.vs (Gate.shapeOf l.ss o.kd).fs.length) = true := List.all_eq_true.2 hp
    refine ⟨.bool true, ?_, by rw [hall], ((HB0.out.trans (hB1.mono hN)).setCell (p := ⟨(w.heap.size + 1 + 1 + 1), 0, none⟩) (by show w.heap.size <= (w.heap.size + 1 + 1 + 1); omega) _).trans (belowK_b (w := w) (Nat.le_refl _) _ D _ _ (by omega) hK' rfl rfl)⟩
    simp [results, Tryz.results154, go_sem, hc5]
  case stop =>
    rintro D cd pre W hD hpre ⟨⟨⟨rfl, x, hx, hq⟩, bR1⟩, hB⟩ hK
    gi_wp2
    refine ⟨by simp, .inl ⟨_, _, rfl, run_takeDeferred hK, ?_⟩⟩
    have hc5 := cell_kept bR1.cell (grownBy_putObj' _ D (.deferred none)) (fun r e => by cases e; exact ⟨_, hK, rfl⟩)
    have hno : zdp f (yG (Gate.shapeOf l.ss o.kd).fs o.vs (Gate.shapeOf l.ss o.kd).fs.length) = false := by
      unfold zdp
      rw [List.all_eq_false]
      exact ⟨x, hpre.subset hx, by rw [hq]; simp⟩
    refine ⟨.bool false, ?_, by rw [hno], hB.trans (belowK_b (w := w) (Nat.le_refl _) W D _ _ (by omega) hK rfl rfl)⟩
    simp [results, Tryz.results154, go_sem, hc5]
end Go.Proofs.YtfpeplbmfbepcaaGreat

namespace Go.Proofs.YtfpeplbmfbepcaaGreat
open Go.RowKit
namespace Gate
noncomputable def j3 (l : Lw) (os : List Ob) (o : Ob) : Bool := (yG (shapeOf l.ss o.kd).fs o.vs (shapeOf l.ss o.kd).fs.length).all fun x => os.any (jV x.to x.nm)
noncomputable def yF (l : Lw) (b : Bk) (o : Ob) : Bool := within o.vr 1 b.now && (yh l.ts o.tm && (zaK l o && j3 l b.os o))
noncomputable def zK (l : Lw) (b : Bk) : Bool := decide (b.os.length <= 40) && (zbs zbc b.os && b.os.all (yF l b))
end Gate
theorem zic {l : Lw} {os : List Ob} {o : Ob} {f : ByteArray -> ByteArray -> Option Int} (h : ∀ p q, (f p q).isSome = os.any (Gate.jV p q)) : zdp f (yG (Gate.shapeOf l.ss o.kd).fs o.vs (Gate.shapeOf l.ss o.kd).fs.length) = Gate.j3 l os o := by
  unfold zdp Gate.j3
  congr 1
  funext x
  exact h _ _
set_option maxRecDepth 20000 in
set_option maxHeartbeats 4000000 in
theorem ziQ (l : Lw) (la lb lc : Option Addr) (lca lcb lcc : Nat) (b : Bk) (a0 a1 a2 a3 : Option Addr) (c0 c1 c2 c3 : Nat) (w : World) (hb : y9 w b a0 a1 a2 a3) (hl : qB w l la lb lc) (hml : l.ms.length <= 1048576) (hok : Gate.yc l.ss l.ms = true) (hfw : ∀ i (h : i < b.os.length), b.os[i].vs.length <= 1048576 /\ b.os[i].hs.length <= 1048576) :
    Calls Tryz.prog 110 #[.agg (lC l la lb lc lca lcb lcc), .agg (bC b a0 a1 a2 a3 c0 c1 c2 c3)] w fun e w' => e = .returned (.bool (Gate.zK l b)) /\ Below w.heap.size w w' := by
  have HK := hid hb
  have HL := hid hl
  have HW := qJ hok hfw
  clear hb hl hok hfw
  by_cases hln : b.os.length <= 40
  rotate_left
  · have HF : Hid (Gate.zK l b = false) := by unfold Hid Gate.zK; rw [decide_eq_false hln]; rfl
    have hg : (40 : Int) < (b.os.length : Int) := by omega
    go_enter Tryz.func110, Tryz.ntmps110
    go_wp2_with fail
    go_ret
    exact ⟨ze HF.out.symm, zn _ _ _⟩
  have hg : decide ((40 : Int) < (b.os.length : Int)) = false := by simp; omega
  have HLN : Hid (b.os.length <= 40) := hln
  clear hln
  go_enter Tryz.func110, Tryz.ntmps110
  go_wp2_with fail
  obtain ⟨hL0, hX0⟩ := yP w (lC l la lb lc lca lcb lcc) (bC b a0 a1 a2 a3 c0 c1 c2 c3) 41 48
  have HB0 : Hid (Below w.heap.size w ((w.alloc (.cells (lC l la lb lc lca lcb lcc) 41)).alloc (.cells (bC b a0 a1 a2 a3 c0 c1 c2 c3) 48))) := zn w _ _
  obtain ⟨W0, hW0⟩ : ∃ W0, W0 = (w.alloc (.cells (lC l la lb lc lca lcb lcc) 41)).alloc (.cells (bC b a0 a1 a2 a3 c0 c1 c2 c3) 48) := ⟨_, rfl⟩
  have hz0 : w.heap.size + 1 < W0.heap.size := by rw [hW0]; simp
  rw [<- hW0] at HB0 hX0 hL0 ⊢
  clear hW0
  refine (zhw _ _ b.os _ (HK.out.os.mono HB0.out)).mono ?_
  rintro e w1 ⟨rfl, hb1⟩
  have HB1 := hid (HB0.out.trans (hb1.mono HB0.out.size))
  have hX1 := za hX0 hz0 hb1
  have hL1 := za hL0 (Nat.lt_of_succ_lt hz0) hb1
  have hz1 := Nat.lt_of_lt_of_le hz0 hb1.size
  clear hb1 hX0 hL0 hz0 HB0
  by_cases has : Gate.zbs Gate.zbc b.os = true
  rotate_left
  · have has' : Gate.zbs Gate.zbc b.os = false := by simpa using has
    have HF : Hid (Gate.zK l b = false) := by unfold Hid Gate.zK; rw [has']; simp
    rw [has']
    clear has has'
    go_wp2_with fail
    go_ret
    exact ⟨ze HF.out.symm, HB1.out⟩
  have HG : Hid (Gate.zK l b = b.os.all (Gate.yF l b)) := by unfold Hid Gate.zK; rw [has, decide_eq_true HLN.out]; rfl
  rw [has]
  clear has
  go_wp2_with fail
  refine (zf7 _ _ b.os _ (HK.out.os.mono HB1.out) (by have := HLN.out; omega)).mono ?_
  rintro e w1' ⟨⟨f, rfl, hpm, hpf⟩, hb1⟩
  have HB1' := hid (HB1.out.trans (hb1.mono HB1.out.size))
  have hX1' := za hX1 hz1 hb1
  have hL1' := za hL1 (Nat.lt_of_succ_lt hz1) hb1
  have hz1' := Nat.lt_of_lt_of_le hz1 hb1.size
  have HPM := qJ hpm hpf
  clear hb1 hX1 hL1 hz1 HB1 hpm hpf
  go_wp2_with fail
  go_loopw [24] (fun iv wr => ∃ k : Nat, k <= b.os.length /\ iv = .int .i64 k /\ Hid ((b.os.take k).all (Gate.yF l b) = true /\ Below w1'.heap.size w1' wr)) (fun iv _ => b.os.length - (intOf iv).toNat)
  case atStart => exact ⟨0, Nat.zero_le _, rfl, by simp, Below.refl _ _⟩
  case round =>
    obtain ⟨k, hk, rfl, HQ⟩ := hrel
    have hkn : k <= 40 := by have := HLN.out; omega
    by_cases hlt : k < b.os.length
    · have HBw : Hid (∀ W, Below w1'.heap.size w1' W -> Below w.heap.size w W) := fun W hW => HB1'.out.trans (hW.mono HB1'.out.size)
      obtain ⟨ob, off, v0, v1, q0, q1, rfl, hob, hsm, hl0, hl1, d0, d1, d2, d3, d4, d5, d6⟩ := HK.out.os.load (HBw.out _ HQ.out.2) k hlt
      have hltI : (k : Int) < (b.os.length : Int) := by omega
      have hob' := Nat.lt_of_lt_of_le hob (HBw.out _ HQ.out.2).size
      have hX := za hX1' hz1' HQ.out.2
      have hL := za hL1' (Nat.lt_of_succ_lt hz1') HQ.out.2
      have hz := Nat.lt_of_lt_of_le hz1' HQ.out.2.size
      have HOB : Hid (qR wr b.os[k] v0 v1) := ⟨hsm, hl0, hl1⟩
      have HSn : Hid ((b.os.take (k + 1)).all (Gate.yF l b) = ((b.os.take k).all (Gate.yF l b) && (Gate.yF l b) b.os[k])) := Gate.ql _ _ _ hlt
      have HBo : Hid (∀ ob, Below w1'.heap.size w1' (wr.alloc ob)) := fun ob => HQ.out.2.alloc HQ.out.2.size _
      have HNo : Hid ((Gate.yF l b) b.os[k] = false -> Gate.zK l b = false) := fun h => by rw [HG.out]; exact Gate.j6 _ _ _ hlt h
      have HYes : Hid ((Gate.yF l b) b.os[k] = true -> (b.os.take (k + 1)).all (Gate.yF l b) = true) := fun h => by rw [HSn.out, HQ.out.1, h]; rfl
      have HF2 : Hid (b.os[k].vs.length <= 1048576 /\ b.os[k].hs.length <= 1048576) := HW.out.2 k hlt
      clear HQ hsm hl0 hl1
      go_wp2_with fail
      have hbN : Below wr.heap.size wr (wr.alloc (.cells (oC b.os[k] v0 v1 q0 q1) 119)) := (Below.refl _ _).alloc (Nat.le_refl _) _
      have hN := zG wr (oC b.os[k] v0 v1 q0 q1) 119
      obtain ⟨w2, hw2⟩ : ∃ w2, w2 = wr.alloc (.cells (oC b.os[k] v0 v1 q0 q1) 119) := ⟨_, rfl⟩
      have hn2 : wr.heap.size < w2.heap.size := by rw [hw2]; simp
      rw [<- hw2] at hbN hN ⊢
      have HB2 : Hid (Below w1'.heap.size w1' w2) := by unfold Hid; rw [hw2]; exact HBo.out _
      have HO2 := hid (HOB.out.mono hbN)
      have hX2 := za hX hz hbN
      have hL2 := za hL (Nat.lt_of_succ_lt hz) hbN
      have hz2 := Nat.lt_of_lt_of_le hz hbN.size
      have hy2 := Nat.lt_of_succ_lt hz2
      clear hw2 d0 d1 d2 d3 d4 d5 d6 hX hL hbN
      refine (qE _ _ _ _).mono ?_
      rintro e w3 ⟨rfl, rfl⟩
      by_cases t1 : Gate.within b.os[k].vr 1 b.now = true
      rotate_left
      · have HF : Hid (Gate.zK l b = false) := HNo.out (by unfold Gate.yF; rw [Bool.eq_false_iff.2 t1]; rfl)
        rw [Bool.eq_false_iff.2 t1]
        clear t1
        go_wp2_with fail
        go_ret
        exact ⟨ze HF.out.symm, HBw.out _ HB2.out⟩
      rw [t1]
      have HT1 := hid t1
      clear t1
      go_wp2_with fail
      refine (zcc _ _ l.ts b.os[k].tm _ (HL.out.ts.mono (HBw.out _ HB2.out))).mono ?_
      rintro e w4 ⟨rfl, hb4⟩
      have HB4 := hid (HB2.out.trans (hb4.mono HB2.out.size))
      have hN4 := za hN hn2 hb4
      have hX4 := za hX2 hz2 hb4
      have hL4 := za hL2 hy2 hb4
      have hn4 := Nat.lt_of_lt_of_le hn2 hb4.size
      have hz4 := Nat.lt_of_lt_of_le hz2 hb4.size
      have hy4 := Nat.lt_of_lt_of_le hy2 hb4.size
      have HO4 := hid (HO2.out.mono hb4)
      clear hb4 hN hX2 hL2 hn2 hz2 hy2
      by_cases t2 : Gate.yh l.ts b.os[k].tm = true
      rotate_left
      · have HF : Hid (Gate.zK l b = false) := HNo.out (by unfold Gate.yF; rw [HT1.out, Bool.eq_false_iff.2 t2]; rfl)
        rw [Bool.eq_false_iff.2 t2]
        clear t2
        go_wp2_with fail
        go_ret
        exact ⟨ze HF.out.symm, HBw.out _ HB4.out⟩
      rw [t2]
      have HT2 : Hid (Gate.yh l.ts b.os[k].tm = true) := t2
      clear t2
      go_wp2_with fail
      refine (zlH l la lb lc lca lcb lcc b.os[k] v0 v1 q0 q1 _ (HL.out.mono (HBw.out _ HB4.out)) hml HO4.out HF2.out.1 HF2.out.2 HW.out.1).mono ?_
      rintro e w5 ⟨rfl, hb5⟩
      have HB5 : Hid (Below w1'.heap.size w1' w5) := HB4.out.trans (hb5.mono HB4.out.size)
      have hN5 := za hN4 hn4 hb5
      have hL5 := za hL4 hy4 hb5
      have hn5 := Nat.lt_of_lt_of_le hn4 hb5.size
      have hy5 := Nat.lt_of_lt_of_le hy4 hb5.size
      have HO5 : Hid (qR w5 b.os[k] v0 v1) := HO4.out.mono hb5
      clear hb5 hN4 hX4 hL4 hn4 hz4 hy4
      by_cases t3 : Gate.zaK l b.os[k] = true
      rotate_left
      · have HF : Hid (Gate.zK l b = false) := HNo.out (by unfold Gate.yF; rw [HT1.out, HT2.out, Bool.eq_false_iff.2 t3]; rfl)
        rw [Bool.eq_false_iff.2 t3]
        clear t3
        go_wp2_with fail
        go_ret
        exact ⟨ze HF.out.symm, HBw.out _ HB5.out⟩
      have HT3 : Hid (Gate.zaK l b.os[k] = true) := t3
      have HC : Hid (b.os[k].vs.length = (Gate.shapeOf l.ss b.os[k].kd).fs.length) := by
        have h := t3
        unfold Gate.zaK at h
        simp only [Bool.and_eq_true, decide_eq_true_eq] at h
        exact (Gate.zb9 (Gate.zay HW.out.1 h.1)).1
      rw [t3]
      clear t3
      go_wp2_with fail
      refine (zlI l la lb lc lca lcb lcc w1.heap.size f b.os[k] v0 v1 q0 q1 _ (HL.out.mono (HBw.out _ HB5.out)) (HPM.out.1.mono HB5.out) HO5.out HC.out).mono ?_
      rintro e w6 ⟨rfl, hb6⟩
      have HB6 : Hid (Below w1'.heap.size w1' w6) := HB5.out.trans (hb6.mono HB5.out.size)
      have HLE : Hid (zdp f (yG (Gate.shapeOf l.ss b.os[k].kd).fs b.os[k].vs (Gate.shapeOf l.ss b.os[k].kd).fs.length) = Gate.j3 l b.os b.os[k]) := zic HPM.out.2
      rw [HLE.out]
      clear hb6
      by_cases t4 : Gate.j3 l b.os b.os[k] = true
      · have HY : Hid ((b.os.take (k + 1)).all (Gate.yF l b) = true) := HYes.out (by unfold Gate.yF; rw [HT1.out, HT2.out, HT3.out, t4]; rfl)
        rw [t4]
        clear t4
        go_wp2_with fail
        exact ⟨⟨k + 1, by omega, by go_num, HY.out, HB6.out⟩, zi hlt⟩
      · have HF : Hid (Gate.zK l b = false) := HNo.out (by unfold Gate.yF; rw [HT1.out, HT2.out, HT3.out, Bool.eq_false_iff.2 t4]; rfl)
        rw [Bool.eq_false_iff.2 t4]
        clear t4
        go_wp2_with fail
        go_ret
        exact ⟨ze HF.out.symm, HBw.out _ HB6.out⟩
    · have e : k = b.os.length := by omega
      subst e
      have HE : Hid (Gate.zK l b = true) := by
        unfold Hid
        rw [HG.out]
        have h := HQ.out.1
        rw [List.take_of_length_le (Nat.le_refl _)] at h
        exact h
      have HBe := hid (HB1'.out.trans (HQ.out.2.mono HB1'.out.size))
      clear hlt hk HQ
      go_wp2_with fail
      go_ret
      exact ⟨ze HE.out.symm, HBe.out⟩
end Go.Proofs.YtfpeplbmfbepcaaGreat

namespace Go.Proofs.YtfpeplbmfbepcaaGreat
open Go.RowKit Go.Shelf
theorem zqv (w : World) (X : Obj) : ∃ W, W = w.alloc X /\ W.heap[w.heap.size]? = some X /\ Below w.heap.size w W /\ W.heap.size = w.heap.size + 1 := ⟨_, rfl, alloc_at w X, (Below.refl _ _).alloc (Nat.le_refl _) _, by simp⟩
structure But (r B : Nat) (w w' : World) : Prop where
  os : w'.os = w.os
  tape : w'.tape = w.tape
  output : w'.output = w.output
  size : w.heap.size <= w'.heap.size
  block : ∀ k, k < B -> k ≠ r -> w'.heap[k]? = w.heap[k]?
theorem But.of_below {r B : Nat} {w w' : World} (h : Below B w w') : But r B w w' := ⟨h.os, h.tape, h.output, h.size, fun k hk _ => h.block k hk⟩
theorem But.refl (r B : Nat) (w : World) : But r B w w := But.of_below (Below.refl B w)
theorem But.trans {r B : Nat} {a b c : World} (h : But r B a b) (k : But r B b c) : But r B a c :=
  ⟨k.os.trans h.os, k.tape.trans h.tape, k.output.trans h.output, Nat.le_trans h.size k.size, fun i hi hr => (k.block i hi hr).trans (h.block i hi hr)⟩
theorem But.mono {r B B' : Nat} {w w' : World} (h : But r B w w') (hB : B' <= B) : But r B' w w' := ⟨h.os, h.tape, h.output, h.size, fun k hk hr => h.block k (Nat.lt_of_lt_of_le hk hB) hr⟩
theorem But.below {r B : Nat} {w w' : World} (h : But r B w w') (hr : r < B) : Below r w w' := ⟨h.os, h.tape, h.output, h.size, fun k hk => h.block k (Nat.lt_trans hk hr) (Nat.ne_of_lt hk)⟩
theorem But.putObj {r B : Nat} (w : World) (o : Obj) : But r B w (w.putObj r o) := by
  exact ⟨rfl, rfl, rfl, by simp, fun k _ hr => World.putObj_heap_other (fun e => hr e)⟩
theorem But.cb {r B : Nat} {w w' : World} {es : Array MapEntry} {ck : Nat} (h : But r B w w') (hm : w.heap[r]? = some (.map es ck)) : CB B w w' :=
  ⟨h.size, fun k C t z hk hc => (h.block k hk (fun e => by rw [e, hm] at hc; cases hc)).trans hc⟩
theorem But.keeps {r B : Nat} {w w' : World} (h : But r w.heap.size w w') (hr : r < B) : KeepsFrom B w w' :=
  ⟨h.size, fun k o hB hk _ => (h.block k (Array.getElem?_eq_some_iff.1 hk).1 (by omega)).trans hk⟩
theorem But.boxed {r B : Nat} {w w' : World} {b : Nat} {t : TypeId} {v : Value} (h : But r B w w') (hb : Boxed w b t v) (hB : b < B) (hr : b ≠ r) : Boxed w' b t v := (h.block b hB hr).trans hb
theorem zN.but {r r' B : Nat} {w w' : World} {f : ByteArray -> ByteArray -> Option Int} (hp : zN w r' f) (h : But r B w w') (hB : r' < B) (hr : r' ≠ r) : zN w' r' f := hp.keep (h.block r' hB hr)
theorem zlD {β : Type} {B r : Nat} (hr : r < B) (f : β -> ByteArray -> ByteArray -> Option Int) : OwnFrom B (fun s W => zN W r (f s)) := by
  intro s W W' row hs hg hrow
  refine hs.keep (hg.block r hs.lt (fun e => ?_))
  have := (hrow r e.symm).1
  omega
theorem znw {β γ : Type} {B : Nat} {I : γ -> β -> World -> Prop} (h : ∀ c, OwnFrom B (I c)) : OwnFrom B (fun s W => ∃ c, I c s W) := by
  rintro s W W' row ⟨c, hs⟩ hg hr
  exact ⟨c, h c s W W' row hs hg hr⟩
theorem zlU {β : Type} {B r C : Nat} {w0 : World} (h0 : C <= w0.heap.size) (hC : C <= B) : OwnFrom B (fun (_ : β) W => But r C w0 W) := by
  intro s W W' row hs hg hr
  refine hs.trans ⟨hg.os, hg.tape, hg.output, hg.size, fun k hk _ => ?_⟩
  exact hg.block k (Nat.lt_of_lt_of_le hk (Nat.le_trans h0 hs.size)) (fun e => by have := (hr k e.symm).1; omega)
end Go.Proofs.YtfpeplbmfbepcaaGreat
