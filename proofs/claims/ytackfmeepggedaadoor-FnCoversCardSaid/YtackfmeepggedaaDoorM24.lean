import Derived.Test.YtackfmeepggedaaDoorM22
import Derived.Test.YtackfmeepggedaaDoorM03
namespace Go.Proofs.YtackfmeepggedaaDoor
open Go.RowKit

theorem owns_dr {r B : Nat} {w w' : World} {e : TypeId} {size : Nat} {v : Value} {n : Nat} {xs : List Value} (h : w.ownsRow B e size v n xs) (hd : Dr r w w') (hr : r < B) : w'.ownsRow B e size v n xs :=
  ownsRow_same h fun g hg => dr_block hd (h.lt g hg).2 (by have := (h.lt g hg).1; omega)
theorem owns_set {B k o : Nat} {w : World} {x : Value} {e : TypeId} {size : Nat} {v : Value} {n : Nat} {xs : List Value} (h : w.ownsRow B e size v n xs) (hk : ∀ g, v.ownBlock = some g → g ≠ k) : (w.setCell ⟨k, o, none⟩ x).ownsRow B e size v n xs :=
  ownsRow_same h fun g hg => setCell_other (hk g hg)
theorem owns_some {w : World} {lo sz : Nat} {e : TypeId} {v : Value} {n : Nat} {xs : List Value} (h : w.ownsRow lo e sz v n xs) (hv : v ≠ .slice none 0 0) : ∃ g cap, v = .slice (some ⟨g, 0, none⟩) n cap := by
  obtain ⟨_, ⟨h0, _⟩ | ⟨g, cap, cur, rfl, _⟩⟩ := h
  · exact absurd h0 hv
  · exact ⟨g, cap, rfl⟩
theorem owns_ints {r B : Nat} {w : World} {a : Option Addr} {cap : Nat} {vs : List Int} (h : w.ownsRow B 3 1 (.slice a vs.length cap) vs.length (vs.map (Value.int .i64))) (hr : r < B) (hl : vs.length ≤ maxLen) : IntsAt (clr r w) a vs := by
  refine ⟨hl, fun hne => ?_⟩
  obtain ⟨_, ⟨h0, h1⟩ | ⟨g, cp, cur, h0, h1⟩⟩ := id h
  · exact absurd (List.length_eq_zero_iff.1 h1) hne
  · cases h0
    have hg := h.lt g rfl
    refine ⟨g, 0, rfl, by rw [clr_size]; exact hg.2, fun i hi => ?_⟩
    have hgr : g ≠ r := by omega
    have e : (clr r w).cell? ⟨g, i, none⟩ = w.cell? ⟨g, i, none⟩ := by simp only [World.cell?, clr_other w hgr]
    rw [Nat.zero_add, e, h.cellAt i (by omega)]
    simp [hi]

set_option maxRecDepth 10000 in
set_option maxHeartbeats 4000000 in
theorem l4DrawVerbs_any (r p : Nat) (w : World) (hp : p ≤ 40000) (hr : RdAt w r p) :
    Calls Tryd.prog 55 #[.pointer (some ⟨r, 0, none⟩)] w fun e w' => ∃ (vs : List Int) (g cap p' : Nat), e = .returned (.slice (some ⟨g, 0, none⟩) vs.length cap) ∧ vs.length ≤ 5 ∧ w'.ownsRow w.heap.size 3 1 (.slice (some ⟨g, 0, none⟩) vs.length cap) vs.length (vs.map (Value.int .i64)) ∧ p' ≤ p + 6 ∧ RdAt w' r p' ∧ Dr r w w' := by
  have hlt := hr.lt
  obtain ⟨i0, hi, hz0, hz1', hz2⟩ := info_parts Tryd.infoInt
  go_enter Tryd.func55, Tryd.ntmps55
  go_wp2_with fail
  go_loopw [3, 4] (fun v i wr => ∃ (vs : List Int) (k : Nat), 1 ≤ k ∧ k ≤ 6 ∧ i = .int .i64 (k : Int) ∧ vs.length < k ∧ v ≠ .slice none 0 0 ∧ wr.ownsRow w.heap.size 3 1 v vs.length (vs.map (Value.int .i64)) ∧ RdAt wr r (p + (k - 1)) ∧ Dr r w wr) (fun _ i _ => 6 - (intOf i).toNat)
  case atStart => exact ⟨[], 1, by omega, by omega, rfl, by simp, by simp, ⟨rfl, Or.inr ⟨w.heap.size, 0, #[], rfl, Nat.le_refl _, (MapKept.heap_alloc w _).1, Nat.le_refl _, by simp [maxLen], rfl, rfl⟩⟩, by simpa using hr.mono ((Below.refl _ _).alloc (Nat.le_refl _) _), dr_below ((Below.refl _ _).alloc (Nat.le_refl _) _)⟩
  case round =>
    obtain ⟨vs, k, hk1, hk6, rfl, hvl, hne, hown, hrd, hD⟩ := hrel
    obtain ⟨g, cap, rfl⟩ := owns_some hown hne
    by_cases h5 : k ≤ 5
    · have h5I : (k : Int) ≤ 5 := by omega
      have HO : Hid (wr.ownsRow w.heap.size 3 1 (.slice (some ⟨g, 0, none⟩) vs.length cap) vs.length (vs.map (Value.int .i64)) ∧ Dr r w wr) := ⟨hown, hD⟩
      clear hown hD
      go_wp2_with fail
      refine (pick_any 2 r (p + (k - 1)) wr (by omega) (by omega) (by omega) hrd).mono ?_
      rintro e w1 ⟨q, rfl, hq, hr1, -, D1⟩
      have e9 : p + (k - 1) + 1 = p + (k + 1 - 1) := by omega
      rw [e9] at hr1
      have HO1 : Hid (w1.ownsRow w.heap.size 3 1 (.slice (some ⟨g, 0, none⟩) vs.length cap) vs.length (vs.map (Value.int .i64)) ∧ Dr r w w1 ∧ RdAt w1 r (p + (k + 1 - 1))) := ⟨owns_dr HO.out.1 D1 hlt, dr_trans HO.out.2 D1, hr1⟩
      clear HO hrd hr1 D1
      by_cases hq0 : q = 0
      · subst hq0
        go_wp2_with (at_builtin; refine wpList_append_own _ rfl (.tmp 13) (.tmp 15) 25 rfl w.heap.size 3 i0 (.int .i64 0) 1 8 Tryd.underlying25 hi hz0 hz1' hz2 rfl (by decide) _ _ _ rfl (HO1.out.1.alloc _) ⟨w1.heap.size, 0, none⟩ 1 1 [.int .i64 (k : Int)] rfl rfl (one_news _ _ _) (by intro u hu; simp at hu; subst hu; rfl) (by unfold maxLen; omega) (by omega) (by have := dr_le HO1.out.2.1; simp; omega) ?_; intro v' w4 hown' hgr hnil)
        have hgb : ∀ g', (Value.slice (some ⟨g, 0, none⟩) vs.length cap).ownBlock = some g' → w.heap.size ≤ g' := fun g' hg => (HO1.out.1.lt g' hg).1
        have hbl := grown_below (Below.refl w.heap.size w1) (dr_le HO1.out.2.1) hgr hgb
        exact ⟨⟨vs ++ [(k : Int)], k + 1, by omega, by omega, by go_num, by simp; omega, (fun e => by have := (hnil.1 e).2; omega), by rw [List.length_append, List.map_append]; exact hown', HO1.out.2.2.keep (hbl.mono hlt), Below.trans HO1.out.2.1 (below_clr hbl)⟩, by simp [intOf]; omega⟩
      · have hqd : ((q : Int) == 0) = false := by simp; omega
        go_wp2_with fail
        exact ⟨⟨vs, k + 1, by omega, by omega, by go_num, by omega, hne, HO1.out.1, HO1.out.2.2, HO1.out.2.1⟩, by simp [intOf]; omega⟩
    · have hk : k = 6 := by omega
      subst hk
      have h5I : ¬ ((6 : Nat) : Int) ≤ 5 := by omega
      rcases Nat.eq_zero_or_pos vs.length with h0 | h0
      · have hvd : ((vs.length : Int) == 0) = true := by rw [h0]; rfl
        have HO : Hid (Dr r w wr) := hD
        clear hown hD
        go_wp2_with fail
        refine (pick_any 5 r (p + (6 - 1)) wr (by omega) (by omega) (by omega) hrd).mono ?_
        rintro e w1 ⟨q, rfl, hq, hr1, -, D1⟩
        have HX : Hid (RdAt w1 r (p + 6) ∧ Dr r w w1) := ⟨hr1, dr_trans HO.out D1⟩
        clear hr1 D1 HO hrd
        go_wp2_with fail
        go_ret
        have hb : Below w1.heap.size w1 (w1.alloc (.cells #[.int .i64 (1 + (q : Int))] 3)) := (Below.refl _ _).alloc (Nat.le_refl _) _
        exact ⟨[1 + (q : Int)], w1.heap.size, 1, p + 6, rfl, by simp, ⟨rfl, Or.inr ⟨w1.heap.size, 1, #[.int .i64 (1 + (q : Int))], rfl, dr_le HX.out.2, (MapKept.heap_alloc w1 _).1, Nat.le_refl _, by simp [maxLen], rfl, rfl⟩⟩, Nat.le_refl _, HX.out.1.mono hb, dr_trans HX.out.2 (dr_below hb)⟩
      · have hvd : ((vs.length : Int) == 0) = false := by rw [beq_eq_false_iff_ne]; omega
        have HO : Hid (wr.ownsRow w.heap.size 3 1 (.slice (some ⟨g, 0, none⟩) vs.length cap) vs.length (vs.map (Value.int .i64)) ∧ Dr r w wr ∧ RdAt wr r (p + (6 - 1))) := ⟨hown, hD, hrd⟩
        clear hown hD hrd
        go_wp2_with fail
        go_ret
        exact ⟨vs, g, cap, rfl, by omega, HO.out.1, p + (6 - 1), by omega, HO.out.2.2, HO.out.2.1⟩

/-- What a drawn rule is: small texts, verbs of its own. -/
structure RlDrew (lo : Nat) (w : World) (q : Rl) (g : Nat) (cap : Nat) : Prop where
  small : q.Small
  px : q.px.size ≤ 1000
  len : q.vs.length ≤ 5
  own : w.ownsRow lo 3 1 (.slice (some ⟨g, 0, none⟩) q.vs.length cap) q.vs.length (q.vs.map (Value.int .i64))

set_option maxRecDepth 10000 in
set_option maxHeartbeats 4000000 in
theorem l4DrawRule_any (r p : Nat) (w : World) (hp : p ≤ 30000) (hr : RdAt w r p) :
    Calls Tryd.prog 31 #[.pointer (some ⟨r, 0, none⟩)] w fun e w' => ∃ (q : Rl) (g cap p' : Nat), e = .returned (.agg (q.cells (some ⟨g, 0, none⟩) cap)) ∧ RlDrew (w.heap.size + 1) w' q g cap ∧ p' ≤ p + 9 ∧ RdAt w' r p' ∧ Dr r w w' := by
  have hlt := hr.lt
  go_enter Tryd.func31, Tryd.ntmps31
  go_wp2_with fail
  obtain ⟨W0, hW0, hk0, hz0, hr0, D0⟩ := alloc_box w #[.slice none 0 0, .string ByteArray.empty, .string ByteArray.empty, .string ByteArray.empty] 27 hr
  refine calls_eq hW0 ?_
  have hs0 : W0.heap.size = w.heap.size + 1 := by rw [hW0]; simp
  clear hW0 hr
  refine (l4DrawVerbs_any r p W0 (by omega) hr0).mono ?_
  rintro e w1 ⟨vs, g, cap, p1, rfl, hvl, hown, hp1, hr1, D1⟩
  rw [hs0] at hown
  have HO : Hid (w1.ownsRow (w.heap.size + 1) 3 1 (.slice (some ⟨g, 0, none⟩) vs.length cap) vs.length (vs.map (Value.int .i64))) := hown
  clear hown
  go_wp2_with fail
  refine (ofLit [⟨#[]⟩, ⟨#[]⟩, ⟨#[106, 111, 98]⟩, ⟨#[118, 111, 108]⟩, ⟨#[107]⟩] r p1 _ (by simp) (by simp) (by simp +decide) (by omega) hr1).mono ?_
  rintro e w2 ⟨s1, rfl, hs1, hr2, D2⟩
  go_wp2_with fail
  refine (ofLit [⟨#[]⟩, ⟨#[]⟩, ⟨#[100, 101, 118]⟩, ⟨#[108, 97, 98]⟩, ⟨#[111, 112, 115]⟩, ⟨#[114, 49]⟩] r (p1 + 1) _ (by simp) (by simp) (by simp +decide) (by omega) hr2).mono ?_
  rintro e w3 ⟨s2, rfl, hs2, hr3, D3⟩
  go_wp2_with fail
  refine (ofLit [⟨#[]⟩, ⟨#[]⟩, ⟨#[98]⟩, ⟨#[98, 49]⟩, ⟨#[120]⟩] r (p1 + 1 + 1) _ (by simp) (by simp) (by simp +decide) (by omega) hr3).mono ?_
  rintro e w4 ⟨s3, rfl, hs3, hr4, D4⟩
  have F := dr_trans D2 (dr_trans D3 D4)
  have E := dr_trans D1 F
  have HO4 : Hid (w4.ownsRow (w.heap.size + 1) 3 1 (.slice (some ⟨g, 0, none⟩) vs.length cap) vs.length (vs.map (Value.int .i64))) := owns_dr HO.out F (by omega)
  have hb := (dr_block E hz0 (by omega)).trans hk0
  have cR := fun j => cell_of_block (o := j) hb
  have fR := fun j => frozen_of_block (o := j) hb
  have HF : Hid (RdAt w4 r (p1 + 3) ∧ Dr r w w4 ∧ w.heap.size < w4.heap.size) := ⟨hr4, dr_trans D0 E, Nat.lt_of_lt_of_le hz0 (dr_le E)⟩
  have hz4 := HF.out.2.2
  clear hb E F D0 D1 D2 D3 D4 hr0 hr1 hr2 hr3 hr4 hk0 HO hs0
  go_wp2_with fail
  refine bodyPost_ret (v := .agg #[.slice (some ⟨g, 0, none⟩) vs.length cap, .string s1, .string s2, .string s3]) (by simp [results, Tryd.results31, go_sem, cR]) rfl ⟨⟨vs, s1, s2, s3⟩, g, cap, p1 + 3, rfl, ⟨⟨by show s1.size ≤ maxLen; unfold maxLen; omega, by show s2.size ≤ maxLen; unfold maxLen; omega, by show s3.size ≤ maxLen; unfold maxLen; omega⟩, hs3, hvl, ?_⟩, by omega, ?_, ?_⟩
  · have hk : ∀ g', (Value.slice (some ⟨g, 0, none⟩) vs.length cap).ownBlock = some g' → g' ≠ w.heap.size := fun g' hg => by have := (HO4.out.lt g' hg).1; omega
    iterate 4 refine owns_set ?_ hk
    exact HO4.out
  · iterate 4 refine rd_set ?_ hlt
    exact HF.out.1
  · iterate 4 refine dr_set ?_ (Nat.le_refl _)
    exact HF.out.2.1

end Go.Proofs.YtackfmeepggedaaDoor
