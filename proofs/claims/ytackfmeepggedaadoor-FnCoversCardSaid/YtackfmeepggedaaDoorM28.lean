import Derived.Test.YtackfmeepggedaaDoorM26
namespace Go.Proofs.YtackfmeepggedaaDoor
open Go.RowKit

theorem own_lit (w : World) (lo : Nat) (C : Array Value) (hl : lo ≤ w.heap.size) (hm : C.size ≤ maxLen) : (w.alloc (.cells C 3)).ownsRow lo 3 1 (.slice (some ⟨w.heap.size, 0, none⟩) C.size C.size) C.size C.toList :=
  ⟨by simp, Or.inr ⟨w.heap.size, C.size, C, rfl, hl, (MapKept.heap_alloc w _).1, Nat.le_refl _, hm, by simp, by rw [Nat.mul_one]; exact List.take_of_length_le (by simp)⟩⟩

set_option maxRecDepth 10000 in
set_option maxHeartbeats 8000000 in
theorem l4AnyRule_any (r p : Nat) (w : World) (hp : p ≤ 20000) (hr : RdAt w r p) :
    Calls Tryd.prog 13 #[.pointer (some ⟨r, 0, none⟩)] w fun e w' => ∃ (q : Rl) (g cap p' : Nat), e = .returned (.agg (q.cells (some ⟨g, 0, none⟩) cap)) ∧ RlDrew (w.heap.size + 1) w' q g cap ∧ p' ≤ p + 14 ∧ RdAt w' r p' ∧ Dr r w w' := by
  have hlt := hr.lt
  go_enter Tryd.func13, Tryd.ntmps13
  go_wp2_with fail
  obtain ⟨W0, hW0, hk0, hz0, hr0, D0⟩ := alloc_box w #[.slice none 0 0, .string ByteArray.empty, .string ByteArray.empty, .string ByteArray.empty] 27 hr
  refine calls_eq hW0 ?_
  have hs0 : W0.heap.size = w.heap.size + 1 := by rw [hW0]; simp
  clear hW0 hr
  refine (l4DrawRule_any r p W0 (by omega) hr0).mono ?_
  rintro e w1 ⟨q, g, cap, p1, rfl, hq, hp1, hr1, D1⟩
  obtain ⟨vs, s1, s2, s3⟩ := q
  have HQ : Hid (RlDrew (W0.heap.size + 1) w1 ⟨vs, s1, s2, s3⟩ g cap) := hq
  clear hq
  unfold Rl.cells
  dsimp only
  go_wp2_with fail
  obtain ⟨W1, hW1, hk1, hz1, hr2, D2⟩ := alloc_box w1 #[.slice (some ⟨g, 0, none⟩) vs.length cap, .string s1, .string s2, .string s3] 27 hr1
  refine calls_eq hW1 ?_
  have HQ1 : Hid (W1.ownsRow (w.heap.size + 1) 3 1 (.slice (some ⟨g, 0, none⟩) vs.length cap) vs.length (vs.map (Value.int .i64)) ∧ (∀ g', (Value.slice (some ⟨g, 0, none⟩) vs.length cap).ownBlock = some g' → g' ≠ w1.heap.size) ∧ vs.length ≤ 5 ∧ (⟨vs, s1, s2, s3⟩ : Rl).Small ∧ s3.size ≤ 1000) := ⟨ownsRow_low (by rw [hW1]; exact HQ.out.own.alloc _) (by omega), fun g' hg => Nat.ne_of_lt (HQ.out.own.lt g' hg).2, HQ.out.len, HQ.out.small, HQ.out.px⟩
  have hk01 : W1.heap[w.heap.size]? = some (.cells #[.slice none 0 0, .string ByteArray.empty, .string ByteArray.empty, .string ByteArray.empty] 27) := (dr_block D2 (Nat.lt_of_lt_of_le hz0 (dr_le D1)) (by omega)).trans ((dr_block D1 hz0 (by omega)).trans hk0)
  have hzz : w.heap.size < w1.heap.size := Nat.lt_of_lt_of_le hz0 (dr_le D1)
  have DW : Dr r w W1 := dr_trans D0 (dr_trans D1 D2)
  clear hW1 hr1 D0 D1 D2 hk0 hr0 HQ hs0 hz0
  refine (pick_any 24 r p1 W1 (by omega) (by omega) (by omega) hr2).mono ?_
  rintro e w2 ⟨c, rfl, hc, hr3, -, D3⟩
  have HQ2 : Hid (w2.ownsRow (w.heap.size + 1) 3 1 (.slice (some ⟨g, 0, none⟩) vs.length cap) vs.length (vs.map (Value.int .i64))) := owns_dr HQ1.out.1 D3 (by omega)
  have hq2 := (dr_block D3 hz1 (by omega)).trans hk1
  have h02 := (dr_block D3 (Nat.lt_trans hzz hz1) (by omega)).trans hk01
  have D2 := dr_trans DW D3
  have hz2 : w1.heap.size < w2.heap.size := Nat.lt_of_lt_of_le hz1 (dr_le D3)
  clear hk1 hk01 DW D3 hr2 hz1
  by_cases c0 : c = 0
  · subst c0
    go_wp2_with fail
    obtain ⟨W3, hW3⟩ : ∃ W3, W3 = (((((((w2.alloc (.cells #[] 3)).alloc (.cells #[.int .i64 2, .int .i64 1] 3)).alloc (.cells #[.int .i64 0] 3)).alloc (.cells #[.int .i64 6] 3)).alloc (.cells #[.int .i64 1, .int .i64 1] 3)).alloc (.cells #[.int .i64 (-1)] 3)).alloc (.cells #[.slice (some ⟨w2.heap.size, 0, none⟩) 0 0, .slice (some ⟨w2.heap.size + 1, 0, none⟩) 2 2, .slice (some ⟨w2.heap.size + 1 + 1, 0, none⟩) 1 1, .slice (some ⟨w2.heap.size + 1 + 1 + 1, 0, none⟩) 1 1, .slice (some ⟨w2.heap.size + 1 + 1 + 1 + 1, 0, none⟩) 2 2, .slice (some ⟨w2.heap.size + 1 + 1 + 1 + 1 + 1, 0, none⟩) 1 1] 25)) := ⟨_, rfl⟩
    have bW : Below w2.heap.size w2 W3 := by rw [hW3]; exact ((((((((Below.refl _ _).alloc (Nat.le_refl _) _).alloc (by simp) _).alloc (by simp; omega) _).alloc (by simp; omega) _).alloc (by simp; omega) _).alloc (by simp; omega) _).alloc (by simp; omega) _)
    have o0 : W3.ownsRow (w.heap.size + 1) 3 1 (.slice (some ⟨w2.heap.size, 0, none⟩) 0 0) 0 (([] : List Int).map (Value.int .i64)) := by rw [hW3]; have h := (World.ownsRow.alloc (World.ownsRow.alloc (World.ownsRow.alloc (World.ownsRow.alloc (World.ownsRow.alloc (World.ownsRow.alloc (own_lit w2 (w.heap.size + 1) #[] (by first | omega | (simp; omega)) (by simp [maxLen])) (.cells #[.int .i64 2, .int .i64 1] 3)) (.cells #[.int .i64 0] 3)) (.cells #[.int .i64 6] 3)) (.cells #[.int .i64 1, .int .i64 1] 3)) (.cells #[.int .i64 (-1)] 3)) (.cells #[.slice (some ⟨w2.heap.size, 0, none⟩) 0 0, .slice (some ⟨w2.heap.size + 1, 0, none⟩) 2 2, .slice (some ⟨w2.heap.size + 1 + 1, 0, none⟩) 1 1, .slice (some ⟨w2.heap.size + 1 + 1 + 1, 0, none⟩) 1 1, .slice (some ⟨w2.heap.size + 1 + 1 + 1 + 1, 0, none⟩) 2 2, .slice (some ⟨w2.heap.size + 1 + 1 + 1 + 1 + 1, 0, none⟩) 1 1] 25)); simpa using h
    have o1 : W3.ownsRow (w.heap.size + 1) 3 1 (.slice (some ⟨w2.heap.size + 1, 0, none⟩) 2 2) 2 (([2, 1] : List Int).map (Value.int .i64)) := by rw [hW3]; have h := (World.ownsRow.alloc (World.ownsRow.alloc (World.ownsRow.alloc (World.ownsRow.alloc (World.ownsRow.alloc (own_lit (w2.alloc (.cells #[] 3)) (w.heap.size + 1) #[.int .i64 2, .int .i64 1] (by first | omega | (simp; omega)) (by simp [maxLen])) (.cells #[.int .i64 0] 3)) (.cells #[.int .i64 6] 3)) (.cells #[.int .i64 1, .int .i64 1] 3)) (.cells #[.int .i64 (-1)] 3)) (.cells #[.slice (some ⟨w2.heap.size, 0, none⟩) 0 0, .slice (some ⟨w2.heap.size + 1, 0, none⟩) 2 2, .slice (some ⟨w2.heap.size + 1 + 1, 0, none⟩) 1 1, .slice (some ⟨w2.heap.size + 1 + 1 + 1, 0, none⟩) 1 1, .slice (some ⟨w2.heap.size + 1 + 1 + 1 + 1, 0, none⟩) 2 2, .slice (some ⟨w2.heap.size + 1 + 1 + 1 + 1 + 1, 0, none⟩) 1 1] 25)); simpa using h
    have o2 : W3.ownsRow (w.heap.size + 1) 3 1 (.slice (some ⟨w2.heap.size + 1 + 1, 0, none⟩) 1 1) 1 (([0] : List Int).map (Value.int .i64)) := by rw [hW3]; have h := (World.ownsRow.alloc (World.ownsRow.alloc (World.ownsRow.alloc (World.ownsRow.alloc (own_lit ((w2.alloc (.cells #[] 3)).alloc (.cells #[.int .i64 2, .int .i64 1] 3)) (w.heap.size + 1) #[.int .i64 0] (by first | omega | (simp; omega)) (by simp [maxLen])) (.cells #[.int .i64 6] 3)) (.cells #[.int .i64 1, .int .i64 1] 3)) (.cells #[.int .i64 (-1)] 3)) (.cells #[.slice (some ⟨w2.heap.size, 0, none⟩) 0 0, .slice (some ⟨w2.heap.size + 1, 0, none⟩) 2 2, .slice (some ⟨w2.heap.size + 1 + 1, 0, none⟩) 1 1, .slice (some ⟨w2.heap.size + 1 + 1 + 1, 0, none⟩) 1 1, .slice (some ⟨w2.heap.size + 1 + 1 + 1 + 1, 0, none⟩) 2 2, .slice (some ⟨w2.heap.size + 1 + 1 + 1 + 1 + 1, 0, none⟩) 1 1] 25)); simpa using h
    have o3 : W3.ownsRow (w.heap.size + 1) 3 1 (.slice (some ⟨w2.heap.size + 1 + 1 + 1, 0, none⟩) 1 1) 1 (([6] : List Int).map (Value.int .i64)) := by rw [hW3]; have h := (World.ownsRow.alloc (World.ownsRow.alloc (World.ownsRow.alloc (own_lit (((w2.alloc (.cells #[] 3)).alloc (.cells #[.int .i64 2, .int .i64 1] 3)).alloc (.cells #[.int .i64 0] 3)) (w.heap.size + 1) #[.int .i64 6] (by first | omega | (simp; omega)) (by simp [maxLen])) (.cells #[.int .i64 1, .int .i64 1] 3)) (.cells #[.int .i64 (-1)] 3)) (.cells #[.slice (some ⟨w2.heap.size, 0, none⟩) 0 0, .slice (some ⟨w2.heap.size + 1, 0, none⟩) 2 2, .slice (some ⟨w2.heap.size + 1 + 1, 0, none⟩) 1 1, .slice (some ⟨w2.heap.size + 1 + 1 + 1, 0, none⟩) 1 1, .slice (some ⟨w2.heap.size + 1 + 1 + 1 + 1, 0, none⟩) 2 2, .slice (some ⟨w2.heap.size + 1 + 1 + 1 + 1 + 1, 0, none⟩) 1 1] 25)); simpa using h
    have o4 : W3.ownsRow (w.heap.size + 1) 3 1 (.slice (some ⟨w2.heap.size + 1 + 1 + 1 + 1, 0, none⟩) 2 2) 2 (([1, 1] : List Int).map (Value.int .i64)) := by rw [hW3]; have h := (World.ownsRow.alloc (World.ownsRow.alloc (own_lit ((((w2.alloc (.cells #[] 3)).alloc (.cells #[.int .i64 2, .int .i64 1] 3)).alloc (.cells #[.int .i64 0] 3)).alloc (.cells #[.int .i64 6] 3)) (w.heap.size + 1) #[.int .i64 1, .int .i64 1] (by first | omega | (simp; omega)) (by simp [maxLen])) (.cells #[.int .i64 (-1)] 3)) (.cells #[.slice (some ⟨w2.heap.size, 0, none⟩) 0 0, .slice (some ⟨w2.heap.size + 1, 0, none⟩) 2 2, .slice (some ⟨w2.heap.size + 1 + 1, 0, none⟩) 1 1, .slice (some ⟨w2.heap.size + 1 + 1 + 1, 0, none⟩) 1 1, .slice (some ⟨w2.heap.size + 1 + 1 + 1 + 1, 0, none⟩) 2 2, .slice (some ⟨w2.heap.size + 1 + 1 + 1 + 1 + 1, 0, none⟩) 1 1] 25)); simpa using h
    have o5 : W3.ownsRow (w.heap.size + 1) 3 1 (.slice (some ⟨w2.heap.size + 1 + 1 + 1 + 1 + 1, 0, none⟩) 1 1) 1 (([-1] : List Int).map (Value.int .i64)) := by rw [hW3]; have h := (World.ownsRow.alloc (own_lit (((((w2.alloc (.cells #[] 3)).alloc (.cells #[.int .i64 2, .int .i64 1] 3)).alloc (.cells #[.int .i64 0] 3)).alloc (.cells #[.int .i64 6] 3)).alloc (.cells #[.int .i64 1, .int .i64 1] 3)) (w.heap.size + 1) #[.int .i64 (-1)] (by first | omega | (simp; omega)) (by simp [maxLen])) (.cells #[.slice (some ⟨w2.heap.size, 0, none⟩) 0 0, .slice (some ⟨w2.heap.size + 1, 0, none⟩) 2 2, .slice (some ⟨w2.heap.size + 1 + 1, 0, none⟩) 1 1, .slice (some ⟨w2.heap.size + 1 + 1 + 1, 0, none⟩) 1 1, .slice (some ⟨w2.heap.size + 1 + 1 + 1 + 1, 0, none⟩) 2 2, .slice (some ⟨w2.heap.size + 1 + 1 + 1 + 1 + 1, 0, none⟩) 1 1] 25)); simpa using h
    have hT : W3.heap[w2.heap.size + 1 + 1 + 1 + 1 + 1 + 1]? = some (.cells #[.slice (some ⟨w2.heap.size, 0, none⟩) 0 0, .slice (some ⟨w2.heap.size + 1, 0, none⟩) 2 2, .slice (some ⟨w2.heap.size + 1 + 1, 0, none⟩) 1 1, .slice (some ⟨w2.heap.size + 1 + 1 + 1, 0, none⟩) 1 1, .slice (some ⟨w2.heap.size + 1 + 1 + 1 + 1, 0, none⟩) 2 2, .slice (some ⟨w2.heap.size + 1 + 1 + 1 + 1 + 1, 0, none⟩) 1 1] 25) := by rw [hW3]; have h := (MapKept.heap_alloc ((((((w2.alloc (.cells #[] 3)).alloc (.cells #[.int .i64 2, .int .i64 1] 3)).alloc (.cells #[.int .i64 0] 3)).alloc (.cells #[.int .i64 6] 3)).alloc (.cells #[.int .i64 1, .int .i64 1] 3)).alloc (.cells #[.int .i64 (-1)] 3)) (.cells #[.slice (some ⟨w2.heap.size, 0, none⟩) 0 0, .slice (some ⟨w2.heap.size + 1, 0, none⟩) 2 2, .slice (some ⟨w2.heap.size + 1 + 1, 0, none⟩) 1 1, .slice (some ⟨w2.heap.size + 1 + 1 + 1, 0, none⟩) 1 1, .slice (some ⟨w2.heap.size + 1 + 1 + 1 + 1, 0, none⟩) 2 2, .slice (some ⟨w2.heap.size + 1 + 1 + 1 + 1 + 1, 0, none⟩) 1 1] 25)).1; simpa using h
    refine calls_eq hW3 ?_
    have hzT : w2.heap.size + 1 + 1 + 1 + 1 + 1 + 1 < W3.heap.size := by rw [hW3]; simp
    clear hW3
    refine (pick_any 6 r (p1 + 1) W3 (by omega) (by omega) (by omega) (hr3.mono bW)).mono ?_
    rintro e w3 ⟨j, rfl, hj, hr4, -, D5⟩
    have D4 : Dr r w2 w3 := dr_trans (dr_below bW) D5
    have hT3 := (dr_block D5 hzT (by omega)).trans hT
    have cT := fun j => cell_of_block (o := j) hT3
    have hq3 := (dr_block D4 hz2 (by omega)).trans hq2
    have h03 := (dr_block D4 (Nat.lt_trans hzz hz2) (by omega)).trans h02
    have hz3 : w1.heap.size < w3.heap.size := Nat.lt_of_lt_of_le hz2 (dr_le D4)
    have HX : Hid (RdAt w3 r (p1 + 2) ∧ Dr r w w3) := ⟨hr4, dr_trans D2 D4⟩
    have O0 : Hid (w3.ownsRow (w.heap.size + 1) 3 1 (.slice (some ⟨w2.heap.size, 0, none⟩) 0 0) 0 (([] : List Int).map (Value.int .i64))) := owns_dr o0 D5 (by omega)
    have O1 : Hid (w3.ownsRow (w.heap.size + 1) 3 1 (.slice (some ⟨w2.heap.size + 1, 0, none⟩) 2 2) 2 (([2, 1] : List Int).map (Value.int .i64))) := owns_dr o1 D5 (by omega)
    have O2 : Hid (w3.ownsRow (w.heap.size + 1) 3 1 (.slice (some ⟨w2.heap.size + 1 + 1, 0, none⟩) 1 1) 1 (([0] : List Int).map (Value.int .i64))) := owns_dr o2 D5 (by omega)
    have O3 : Hid (w3.ownsRow (w.heap.size + 1) 3 1 (.slice (some ⟨w2.heap.size + 1 + 1 + 1, 0, none⟩) 1 1) 1 (([6] : List Int).map (Value.int .i64))) := owns_dr o3 D5 (by omega)
    have O4 : Hid (w3.ownsRow (w.heap.size + 1) 3 1 (.slice (some ⟨w2.heap.size + 1 + 1 + 1 + 1, 0, none⟩) 2 2) 2 (([1, 1] : List Int).map (Value.int .i64))) := owns_dr o4 D5 (by omega)
    have O5 : Hid (w3.ownsRow (w.heap.size + 1) 3 1 (.slice (some ⟨w2.heap.size + 1 + 1 + 1 + 1 + 1, 0, none⟩) 1 1) 1 (([-1] : List Int).map (Value.int .i64))) := owns_dr o5 D5 (by omega)
    have cQ := fun j => cell_of_block (o := j) hq3
    have fQ := fun j => frozen_of_block (o := j) hq3
    have cR := fun j => cell_of_block (o := j) h03
    have fR := fun j => frozen_of_block (o := j) h03
    clear D4 D5 D2 hq2 h02 hq3 h03 hr3 hr4 hT hT3 bW o0 o1 o2 o3 o4 o5 hzT
    rcases (by omega : j = 0 ∨ j = 1 ∨ j = 2 ∨ j = 3 ∨ j = 4 ∨ j = 5) with rfl | rfl | rfl | rfl | rfl | rfl
    · have HF : Hid (w3.ownsRow (w.heap.size + 1) 3 1 (.slice (some ⟨w2.heap.size, 0, none⟩) 0 0) 0 (([] : List Int).map (Value.int .i64)) ∧ RdAt w3 r (p1 + 2) ∧ Dr r w w3) := ⟨O0.out, HX.out⟩
      clear O0 O1 O2 O3 O4 O5
      go_wp2_with fail
      refine bodyPost_ret (v := .agg #[.slice (some ⟨(w2.heap.size), 0, none⟩) ([] : List Int).length 0, .string s1, .string s2, .string s3]) (by simp [results, Tryd.results13, go_sem, cR]) rfl ⟨⟨([] : List Int), s1, s2, s3⟩, (w2.heap.size), 0, p1 + 2, rfl, ⟨⟨by first | exact HQ1.out.2.2.2.1.kd | (dsimp only; unfold maxLen; omega), by first | exact HQ1.out.2.2.2.1.tm | (dsimp only; unfold maxLen; omega), by first | exact HQ1.out.2.2.2.1.px | (dsimp only; unfold maxLen; omega)⟩, by first | exact HQ1.out.2.2.2.2 | (dsimp only; omega), by first | exact HQ1.out.2.2.1 | simp, ?_⟩, by omega, ?_, ?_⟩
      · have hk : ∀ g', (Value.slice (some ⟨(w2.heap.size), 0, none⟩) ([] : List Int).length 0).ownBlock = some g' → g' ≠ w.heap.size := fun g' hg => by have := (HF.out.1.lt g' hg).1; omega
        iterate 4 refine owns_set ?_ hk
        iterate 1 refine owns_set ?_ (fun g hg => by cases hg; dsimp only; omega)
        exact HF.out.1
      · iterate 4 refine rd_set ?_ hlt
        iterate 1 refine rd_set ?_ (by omega)
        exact HF.out.2.1
      · iterate 4 refine dr_set ?_ (Nat.le_refl _)
        iterate 1 refine dr_set ?_ (by omega)
        exact HF.out.2.2
    · have HF : Hid (w3.ownsRow (w.heap.size + 1) 3 1 (.slice (some ⟨w2.heap.size + 1, 0, none⟩) 2 2) 2 (([2, 1] : List Int).map (Value.int .i64)) ∧ RdAt w3 r (p1 + 2) ∧ Dr r w w3) := ⟨O1.out, HX.out⟩
      clear O0 O1 O2 O3 O4 O5
      go_wp2_with fail
      refine bodyPost_ret (v := .agg #[.slice (some ⟨(w2.heap.size + 1), 0, none⟩) ([2, 1] : List Int).length 2, .string s1, .string s2, .string s3]) (by simp [results, Tryd.results13, go_sem, cR]) rfl ⟨⟨([2, 1] : List Int), s1, s2, s3⟩, (w2.heap.size + 1), 2, p1 + 2, rfl, ⟨⟨by first | exact HQ1.out.2.2.2.1.kd | (dsimp only; unfold maxLen; omega), by first | exact HQ1.out.2.2.2.1.tm | (dsimp only; unfold maxLen; omega), by first | exact HQ1.out.2.2.2.1.px | (dsimp only; unfold maxLen; omega)⟩, by first | exact HQ1.out.2.2.2.2 | (dsimp only; omega), by first | exact HQ1.out.2.2.1 | simp, ?_⟩, by omega, ?_, ?_⟩
      · have hk : ∀ g', (Value.slice (some ⟨(w2.heap.size + 1), 0, none⟩) ([2, 1] : List Int).length 2).ownBlock = some g' → g' ≠ w.heap.size := fun g' hg => by have := (HF.out.1.lt g' hg).1; omega
        iterate 4 refine owns_set ?_ hk
        iterate 1 refine owns_set ?_ (fun g hg => by cases hg; dsimp only; omega)
        exact HF.out.1
      · iterate 4 refine rd_set ?_ hlt
        iterate 1 refine rd_set ?_ (by omega)
        exact HF.out.2.1
      · iterate 4 refine dr_set ?_ (Nat.le_refl _)
        iterate 1 refine dr_set ?_ (by omega)
        exact HF.out.2.2
    · have HF : Hid (w3.ownsRow (w.heap.size + 1) 3 1 (.slice (some ⟨w2.heap.size + 1 + 1, 0, none⟩) 1 1) 1 (([0] : List Int).map (Value.int .i64)) ∧ RdAt w3 r (p1 + 2) ∧ Dr r w w3) := ⟨O2.out, HX.out⟩
      clear O0 O1 O2 O3 O4 O5
      go_wp2_with fail
      refine bodyPost_ret (v := .agg #[.slice (some ⟨(w2.heap.size + 1 + 1), 0, none⟩) ([0] : List Int).length 1, .string s1, .string s2, .string s3]) (by simp [results, Tryd.results13, go_sem, cR]) rfl ⟨⟨([0] : List Int), s1, s2, s3⟩, (w2.heap.size + 1 + 1), 1, p1 + 2, rfl, ⟨⟨by first | exact HQ1.out.2.2.2.1.kd | (dsimp only; unfold maxLen; omega), by first | exact HQ1.out.2.2.2.1.tm | (dsimp only; unfold maxLen; omega), by first | exact HQ1.out.2.2.2.1.px | (dsimp only; unfold maxLen; omega)⟩, by first | exact HQ1.out.2.2.2.2 | (dsimp only; omega), by first | exact HQ1.out.2.2.1 | simp, ?_⟩, by omega, ?_, ?_⟩
      · have hk : ∀ g', (Value.slice (some ⟨(w2.heap.size + 1 + 1), 0, none⟩) ([0] : List Int).length 1).ownBlock = some g' → g' ≠ w.heap.size := fun g' hg => by have := (HF.out.1.lt g' hg).1; omega
        iterate 4 refine owns_set ?_ hk
        iterate 1 refine owns_set ?_ (fun g hg => by cases hg; dsimp only; omega)
        exact HF.out.1
      · iterate 4 refine rd_set ?_ hlt
        iterate 1 refine rd_set ?_ (by omega)
        exact HF.out.2.1
      · iterate 4 refine dr_set ?_ (Nat.le_refl _)
        iterate 1 refine dr_set ?_ (by omega)
        exact HF.out.2.2
    · have HF : Hid (w3.ownsRow (w.heap.size + 1) 3 1 (.slice (some ⟨w2.heap.size + 1 + 1 + 1, 0, none⟩) 1 1) 1 (([6] : List Int).map (Value.int .i64)) ∧ RdAt w3 r (p1 + 2) ∧ Dr r w w3) := ⟨O3.out, HX.out⟩
      clear O0 O1 O2 O3 O4 O5
      go_wp2_with fail
      refine bodyPost_ret (v := .agg #[.slice (some ⟨(w2.heap.size + 1 + 1 + 1), 0, none⟩) ([6] : List Int).length 1, .string s1, .string s2, .string s3]) (by simp [results, Tryd.results13, go_sem, cR]) rfl ⟨⟨([6] : List Int), s1, s2, s3⟩, (w2.heap.size + 1 + 1 + 1), 1, p1 + 2, rfl, ⟨⟨by first | exact HQ1.out.2.2.2.1.kd | (dsimp only; unfold maxLen; omega), by first | exact HQ1.out.2.2.2.1.tm | (dsimp only; unfold maxLen; omega), by first | exact HQ1.out.2.2.2.1.px | (dsimp only; unfold maxLen; omega)⟩, by first | exact HQ1.out.2.2.2.2 | (dsimp only; omega), by first | exact HQ1.out.2.2.1 | simp, ?_⟩, by omega, ?_, ?_⟩
      · have hk : ∀ g', (Value.slice (some ⟨(w2.heap.size + 1 + 1 + 1), 0, none⟩) ([6] : List Int).length 1).ownBlock = some g' → g' ≠ w.heap.size := fun g' hg => by have := (HF.out.1.lt g' hg).1; omega
        iterate 4 refine owns_set ?_ hk
        iterate 1 refine owns_set ?_ (fun g hg => by cases hg; dsimp only; omega)
        exact HF.out.1
      · iterate 4 refine rd_set ?_ hlt
        iterate 1 refine rd_set ?_ (by omega)
        exact HF.out.2.1
      · iterate 4 refine dr_set ?_ (Nat.le_refl _)
        iterate 1 refine dr_set ?_ (by omega)
        exact HF.out.2.2
    · have HF : Hid (w3.ownsRow (w.heap.size + 1) 3 1 (.slice (some ⟨w2.heap.size + 1 + 1 + 1 + 1, 0, none⟩) 2 2) 2 (([1, 1] : List Int).map (Value.int .i64)) ∧ RdAt w3 r (p1 + 2) ∧ Dr r w w3) := ⟨O4.out, HX.out⟩
      clear O0 O1 O2 O3 O4 O5
      go_wp2_with fail
      refine bodyPost_ret (v := .agg #[.slice (some ⟨(w2.heap.size + 1 + 1 + 1 + 1), 0, none⟩) ([1, 1] : List Int).length 2, .string s1, .string s2, .string s3]) (by simp [results, Tryd.results13, go_sem, cR]) rfl ⟨⟨([1, 1] : List Int), s1, s2, s3⟩, (w2.heap.size + 1 + 1 + 1 + 1), 2, p1 + 2, rfl, ⟨⟨by first | exact HQ1.out.2.2.2.1.kd | (dsimp only; unfold maxLen; omega), by first | exact HQ1.out.2.2.2.1.tm | (dsimp only; unfold maxLen; omega), by first | exact HQ1.out.2.2.2.1.px | (dsimp only; unfold maxLen; omega)⟩, by first | exact HQ1.out.2.2.2.2 | (dsimp only; omega), by first | exact HQ1.out.2.2.1 | simp, ?_⟩, by omega, ?_, ?_⟩
      · have hk : ∀ g', (Value.slice (some ⟨(w2.heap.size + 1 + 1 + 1 + 1), 0, none⟩) ([1, 1] : List Int).length 2).ownBlock = some g' → g' ≠ w.heap.size := fun g' hg => by have := (HF.out.1.lt g' hg).1; omega
        iterate 4 refine owns_set ?_ hk
        iterate 1 refine owns_set ?_ (fun g hg => by cases hg; dsimp only; omega)
        exact HF.out.1
      · iterate 4 refine rd_set ?_ hlt
        iterate 1 refine rd_set ?_ (by omega)
        exact HF.out.2.1
      · iterate 4 refine dr_set ?_ (Nat.le_refl _)
        iterate 1 refine dr_set ?_ (by omega)
        exact HF.out.2.2
    · have HF : Hid (w3.ownsRow (w.heap.size + 1) 3 1 (.slice (some ⟨w2.heap.size + 1 + 1 + 1 + 1 + 1, 0, none⟩) 1 1) 1 (([-1] : List Int).map (Value.int .i64)) ∧ RdAt w3 r (p1 + 2) ∧ Dr r w w3) := ⟨O5.out, HX.out⟩
      clear O0 O1 O2 O3 O4 O5
      go_wp2_with fail
      refine bodyPost_ret (v := .agg #[.slice (some ⟨(w2.heap.size + 1 + 1 + 1 + 1 + 1), 0, none⟩) ([-1] : List Int).length 1, .string s1, .string s2, .string s3]) (by simp [results, Tryd.results13, go_sem, cR]) rfl ⟨⟨([-1] : List Int), s1, s2, s3⟩, (w2.heap.size + 1 + 1 + 1 + 1 + 1), 1, p1 + 2, rfl, ⟨⟨by first | exact HQ1.out.2.2.2.1.kd | (dsimp only; unfold maxLen; omega), by first | exact HQ1.out.2.2.2.1.tm | (dsimp only; unfold maxLen; omega), by first | exact HQ1.out.2.2.2.1.px | (dsimp only; unfold maxLen; omega)⟩, by first | exact HQ1.out.2.2.2.2 | (dsimp only; omega), by first | exact HQ1.out.2.2.1 | simp, ?_⟩, by omega, ?_, ?_⟩
      · have hk : ∀ g', (Value.slice (some ⟨(w2.heap.size + 1 + 1 + 1 + 1 + 1), 0, none⟩) ([-1] : List Int).length 1).ownBlock = some g' → g' ≠ w.heap.size := fun g' hg => by have := (HF.out.1.lt g' hg).1; omega
        iterate 4 refine owns_set ?_ hk
        iterate 1 refine owns_set ?_ (fun g hg => by cases hg; dsimp only; omega)
        exact HF.out.1
      · iterate 4 refine rd_set ?_ hlt
        iterate 1 refine rd_set ?_ (by omega)
        exact HF.out.2.1
      · iterate 4 refine dr_set ?_ (Nat.le_refl _)
        iterate 1 refine dr_set ?_ (by omega)
        exact HF.out.2.2
  have n0 : ((c : Int) == 0) = false := by rw [beq_eq_false_iff_ne]; omega
  by_cases c1 : c = 1
  · subst c1
    go_wp2_with fail
    refine (ofLit [⟨#[75]⟩, ⟨#[122, 122, 122]⟩] r (p1 + 1) _ (by simp) (by simp) (by simp +decide) (by omega) hr3).mono ?_
    rintro e w3 ⟨t, rfl, ht, hr4, D4⟩
    have HF : Hid (w3.ownsRow (w.heap.size + 1) 3 1 (.slice (some ⟨g, 0, none⟩) vs.length cap) vs.length (vs.map (Value.int .i64)) ∧ RdAt w3 r (p1 + 2) ∧ Dr r w w3) := ⟨owns_dr HQ2.out D4 (by omega), hr4, dr_trans D2 D4⟩
    have hq3 := (dr_block D4 hz2 (by omega)).trans hq2
    have h03 := (dr_block D4 (Nat.lt_trans hzz hz2) (by omega)).trans h02
    have hz3 : w1.heap.size < w3.heap.size := Nat.lt_of_lt_of_le hz2 (dr_le D4)
    have cQ := fun j => cell_of_block (o := j) hq3
    have fQ := fun j => frozen_of_block (o := j) hq3
    have cR := fun j => cell_of_block (o := j) h03
    have fR := fun j => frozen_of_block (o := j) h03
    clear D4 D2 hq2 h02 hq3 h03 hr3 hr4
    go_wp2_with fail
    refine bodyPost_ret (v := .agg #[.slice (some ⟨g, 0, none⟩) vs.length cap, .string t, .string s2, .string s3]) (by simp [results, Tryd.results13, go_sem, cR]) rfl ⟨⟨vs, t, s2, s3⟩, g, cap, p1 + 2, rfl, ⟨⟨by first | exact HQ1.out.2.2.2.1.kd | (dsimp only; unfold maxLen; omega), by first | exact HQ1.out.2.2.2.1.tm | (dsimp only; unfold maxLen; omega), by first | exact HQ1.out.2.2.2.1.px | (dsimp only; unfold maxLen; omega)⟩, by first | exact HQ1.out.2.2.2.2 | (dsimp only; omega), by first | exact HQ1.out.2.2.1 | simp, ?_⟩, by omega, ?_, ?_⟩
    · have hk : ∀ g', (Value.slice (some ⟨g, 0, none⟩) vs.length cap).ownBlock = some g' → g' ≠ w.heap.size := fun g' hg => by have := (HF.out.1.lt g' hg).1; omega
      iterate 4 refine owns_set ?_ hk
      iterate 1 refine owns_set ?_ HQ1.out.2.1
      exact HF.out.1
    · iterate 4 refine rd_set ?_ hlt
      iterate 1 refine rd_set ?_ (by omega)
      exact HF.out.2.1
    · iterate 4 refine dr_set ?_ (Nat.le_refl _)
      iterate 1 refine dr_set ?_ (by omega)
      exact HF.out.2.2
  have n1 : ((c : Int) == 1) = false := by rw [beq_eq_false_iff_ne]; omega
  by_cases c2 : c = 2
  · subst c2
    go_wp2_with fail
    refine (ofLit [⟨#[84]⟩, ⟨#[110, 111, 110, 101]⟩] r (p1 + 1) _ (by simp) (by simp) (by simp +decide) (by omega) hr3).mono ?_
    rintro e w3 ⟨t, rfl, ht, hr4, D4⟩
    have HF : Hid (w3.ownsRow (w.heap.size + 1) 3 1 (.slice (some ⟨g, 0, none⟩) vs.length cap) vs.length (vs.map (Value.int .i64)) ∧ RdAt w3 r (p1 + 2) ∧ Dr r w w3) := ⟨owns_dr HQ2.out D4 (by omega), hr4, dr_trans D2 D4⟩
    have hq3 := (dr_block D4 hz2 (by omega)).trans hq2
    have h03 := (dr_block D4 (Nat.lt_trans hzz hz2) (by omega)).trans h02
    have hz3 : w1.heap.size < w3.heap.size := Nat.lt_of_lt_of_le hz2 (dr_le D4)
    have cQ := fun j => cell_of_block (o := j) hq3
    have fQ := fun j => frozen_of_block (o := j) hq3
    have cR := fun j => cell_of_block (o := j) h03
    have fR := fun j => frozen_of_block (o := j) h03
    clear D4 D2 hq2 h02 hq3 h03 hr3 hr4
    go_wp2_with fail
    refine bodyPost_ret (v := .agg #[.slice (some ⟨g, 0, none⟩) vs.length cap, .string s1, .string t, .string s3]) (by simp [results, Tryd.results13, go_sem, cR]) rfl ⟨⟨vs, s1, t, s3⟩, g, cap, p1 + 2, rfl, ⟨⟨by first | exact HQ1.out.2.2.2.1.kd | (dsimp only; unfold maxLen; omega), by first | exact HQ1.out.2.2.2.1.tm | (dsimp only; unfold maxLen; omega), by first | exact HQ1.out.2.2.2.1.px | (dsimp only; unfold maxLen; omega)⟩, by first | exact HQ1.out.2.2.2.2 | (dsimp only; omega), by first | exact HQ1.out.2.2.1 | simp, ?_⟩, by omega, ?_, ?_⟩
    · have hk : ∀ g', (Value.slice (some ⟨g, 0, none⟩) vs.length cap).ownBlock = some g' → g' ≠ w.heap.size := fun g' hg => by have := (HF.out.1.lt g' hg).1; omega
      iterate 4 refine owns_set ?_ hk
      iterate 1 refine owns_set ?_ HQ1.out.2.1
      exact HF.out.1
    · iterate 4 refine rd_set ?_ hlt
      iterate 1 refine rd_set ?_ (by omega)
      exact HF.out.2.1
    · iterate 4 refine dr_set ?_ (Nat.le_refl _)
      iterate 1 refine dr_set ?_ (by omega)
      exact HF.out.2.2
  have n2 : ((c : Int) == 2) = false := by rw [beq_eq_false_iff_ne]; omega
  by_cases c3 : c = 3
  · subst c3
    go_wp2_with fail
    refine (pick_any 2 r (p1 + 1) w2 (by omega) (by omega) (by omega) hr3).mono ?_
    rintro e w3 ⟨j, rfl, hj, hr4, -, D4⟩
    go_wp2_with fail
    have hm := l1Many_any ⟨#[98]⟩ (16 + j) w3 (by decide) (by omega)
    have e16 : ((16 + j : Nat) : Int) = 16 + (j : Int) := by push_cast; rfl
    rw [e16] at hm
    refine hm.mono ?_
    rintro e w4 ⟨tt, rfl, htt, rfl⟩
    clear hm e16
    go_wp2_with fail
    refine (ofLit [⟨#[66]⟩, tt] r (p1 + 1 + 1) _ (by simp) (by simp) (by intro x hx; simp at hx; rcases hx with rfl | rfl <;> first | decide | omega) (by omega) hr4).mono ?_
    rintro e w5 ⟨t, rfl, ht, hr5, D5⟩
    replace D4 := dr_trans D4 D5
    replace hr4 := hr5
    clear D5 hr5
    have HF : Hid (w5.ownsRow (w.heap.size + 1) 3 1 (.slice (some ⟨g, 0, none⟩) vs.length cap) vs.length (vs.map (Value.int .i64)) ∧ RdAt w5 r (p1 + 3) ∧ Dr r w w5) := ⟨owns_dr HQ2.out D4 (by omega), hr4, dr_trans D2 D4⟩
    have hq3 := (dr_block D4 hz2 (by omega)).trans hq2
    have h03 := (dr_block D4 (Nat.lt_trans hzz hz2) (by omega)).trans h02
    have hz3 : w1.heap.size < w5.heap.size := Nat.lt_of_lt_of_le hz2 (dr_le D4)
    have cQ := fun j => cell_of_block (o := j) hq3
    have fQ := fun j => frozen_of_block (o := j) hq3
    have cR := fun j => cell_of_block (o := j) h03
    have fR := fun j => frozen_of_block (o := j) h03
    clear D4 D2 hq2 h02 hq3 h03 hr3 hr4
    go_wp2_with fail
    refine bodyPost_ret (v := .agg #[.slice (some ⟨g, 0, none⟩) vs.length cap, .string s1, .string s2, .string t]) (by simp [results, Tryd.results13, go_sem, cR]) rfl ⟨⟨vs, s1, s2, t⟩, g, cap, p1 + 3, rfl, ⟨⟨by first | exact HQ1.out.2.2.2.1.kd | (dsimp only; unfold maxLen; omega), by first | exact HQ1.out.2.2.2.1.tm | (dsimp only; unfold maxLen; omega), by first | exact HQ1.out.2.2.2.1.px | (dsimp only; unfold maxLen; omega)⟩, by first | exact HQ1.out.2.2.2.2 | (dsimp only; omega), by first | exact HQ1.out.2.2.1 | simp, ?_⟩, by omega, ?_, ?_⟩
    · have hk : ∀ g', (Value.slice (some ⟨g, 0, none⟩) vs.length cap).ownBlock = some g' → g' ≠ w.heap.size := fun g' hg => by have := (HF.out.1.lt g' hg).1; omega
      iterate 4 refine owns_set ?_ hk
      iterate 1 refine owns_set ?_ HQ1.out.2.1
      exact HF.out.1
    · iterate 4 refine rd_set ?_ hlt
      iterate 1 refine rd_set ?_ (by omega)
      exact HF.out.2.1
    · iterate 4 refine dr_set ?_ (Nat.le_refl _)
      iterate 1 refine dr_set ?_ (by omega)
      exact HF.out.2.2
  have n3 : ((c : Int) == 3) = false := by rw [beq_eq_false_iff_ne]; omega
  · have HF : Hid (w2.ownsRow (w.heap.size + 1) 3 1 (.slice (some ⟨g, 0, none⟩) vs.length cap) vs.length (vs.map (Value.int .i64)) ∧ RdAt w2 r (p1 + 1) ∧ Dr r w w2) := ⟨HQ2.out, hr3, D2⟩
    have cQ := fun j => cell_of_block (o := j) hq2
    have fQ := fun j => frozen_of_block (o := j) hq2
    have cR := fun j => cell_of_block (o := j) h02
    have fR := fun j => frozen_of_block (o := j) h02
    clear D2 hq2 h02 hr3
    go_wp2_with fail
    refine bodyPost_ret (v := .agg #[.slice (some ⟨g, 0, none⟩) vs.length cap, .string s1, .string s2, .string s3]) (by simp [results, Tryd.results13, go_sem, cR]) rfl ⟨⟨vs, s1, s2, s3⟩, g, cap, p1 + 1, rfl, ⟨⟨by first | exact HQ1.out.2.2.2.1.kd | (dsimp only; unfold maxLen; omega), by first | exact HQ1.out.2.2.2.1.tm | (dsimp only; unfold maxLen; omega), by first | exact HQ1.out.2.2.2.1.px | (dsimp only; unfold maxLen; omega)⟩, by first | exact HQ1.out.2.2.2.2 | (dsimp only; omega), by first | exact HQ1.out.2.2.1 | simp, ?_⟩, by omega, ?_, ?_⟩
    · have hk : ∀ g', (Value.slice (some ⟨g, 0, none⟩) vs.length cap).ownBlock = some g' → g' ≠ w.heap.size := fun g' hg => by have := (HF.out.1.lt g' hg).1; omega
      iterate 4 refine owns_set ?_ hk
      exact HF.out.1
    · iterate 4 refine rd_set ?_ hlt
      exact HF.out.2.1
    · iterate 4 refine dr_set ?_ (Nat.le_refl _)
      exact HF.out.2.2

end Go.Proofs.YtackfmeepggedaaDoor
