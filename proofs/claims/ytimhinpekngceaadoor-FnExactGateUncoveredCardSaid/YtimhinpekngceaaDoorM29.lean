import Derived.Test.YtimhinpekngceaaDoorM28
import Derived.Test.YtimhinpekngceaaDoorM10
namespace Go.Proofs.YtimhinpekngceaaDoor
open Go.RowKit

namespace Gate
/-- What GateUncovered answers, on either side. -/
def UPost (ts : List Tm) (rs : List Rl) (r : Rl) (x : Ac) (ok : Bool) : Prop :=
  (allOk ts rs r = true ∧ ¬ lacksS ts rs r = 0 ∧ ok = true ∧ x.vb = lacksS ts rs r ∧ UncovRest ts rs r x) ∨ ((allOk ts rs r = false ∨ lacksS ts rs r = 0) ∧ ok = false ∧ x = noAct)

theorem UPost.one {ts : List Tm} {rs : List Rl} {r : Rl} {x y : Ac} {p q : Bool} (h : UPost ts rs r x p) (h' : UPost ts rs r y q) : x = y ∧ p = q := by
  rcases h with ⟨h1, h2, h3, h4, h5⟩ | ⟨h1, h2, h3⟩
  · rcases h' with ⟨_, _, k3, k4, k5⟩ | ⟨k1, _, _⟩
    · refine ⟨?_, by rw [h3, k3]⟩
      have e0 : x.vb = y.vb := by rw [h4, k4]
      have e3 : x.nm = y.nm := by rw [h5.nm, k5.nm]
      have e1 : x.kd = y.kd := by
        have a := h5.kd
        have b := k5.kd
        by_cases hk : r.kd.toList.isEmpty = true
        · rw [if_pos hk] at a b
          obtain ⟨i, ei, fi⟩ := a
          obtain ⟨j, ej, fj⟩ := b
          rw [ei, ej, fi.one fj (fun _ => Iff.rfl)]
        · rw [if_neg hk] at a b
          rw [a, b]
      have e2 : x.tm = y.tm := by
        have a := h5.tm
        have b := k5.tm
        by_cases hk : r.tm.toList.isEmpty = true
        · rw [if_pos hk] at a b
          obtain ⟨i, ei, fi⟩ := a
          obtain ⟨j, ej, fj⟩ := b
          rw [ei, ej, fi.one fj (fun _ => Iff.rfl)]
        · rw [if_neg hk] at a b
          rw [a, b]
      cases x
      cases y
      simp only at e0 e1 e2 e3
      rw [e0, e1, e2, e3]
    · rcases k1 with k1 | k1
      · rw [h1] at k1; cases k1
      · exact absurd k1 h2
  · rcases h' with ⟨k1, k2, _⟩ | ⟨_, k2, k3⟩
    · rcases h1 with h1 | h1
      · rw [h1] at k1; cases k1
      · exact absurd h1 k2
    · exact ⟨by rw [h3, k3], by rw [h2, k2]⟩
end Gate

theorem specUncovered_any (ta : Option Addr) (tcap : Nat) (ts : List Tm) (ra : Option Addr) (rcap : Nat) (rs : List Rl) (r : Rl) (a : Option Addr) (cap : Nat) (w : World) (hw : TmsAt w ta ts) (hr : RlsAt w ra rs) (hm : r.Small) (hi : IntsAt w a r.vs) (hlt : ts.length ≤ 1048576) (hlr : rs.length ≤ 1048576) :
    Calls Tryd.prog 8 #[.slice ta ts.length tcap, .slice ra rs.length rcap, .agg (r.cells a cap)] w fun e w' => ∃ (x : Ac) (ok : Bool), e = .returned (.tuple #[.agg x.cells, .bool ok]) ∧ Gate.UPost ts rs r x ok ∧ Below w.heap.size w w' := by
  by_cases h1 : Gate.allOk ts rs r = true
  · by_cases h2 : Gate.lacksS ts rs r = 0
    · refine (specUncovered_none ta tcap ts ra rcap rs r a cap w hw hr hm hi h1 h2).mono ?_
      rintro e w' ⟨he, hb⟩
      exact ⟨_, _, he, Or.inr ⟨Or.inr h2, rfl, rfl⟩, hb⟩
    · refine (specUncovered_yes ta tcap ts ra rcap rs r a cap w hw hr hm hi h1 h2 hlt hlr).mono ?_
      rintro e w' ⟨⟨x, he, hx, hu⟩, hb⟩
      exact ⟨_, _, he, Or.inl ⟨h1, h2, rfl, hx, hu⟩, hb⟩
  · have h1' : Gate.allOk ts rs r = false := by simpa using h1
    refine (specUncovered_bad ta tcap ts ra rcap rs r a cap w hw hr hm hi h1').mono ?_
    rintro e w' ⟨he, hb⟩
    exact ⟨_, _, he, Or.inr ⟨Or.inl h1', rfl, rfl⟩, hb⟩

theorem implUncovered_any (ta : Option Addr) (tcap : Nat) (ts : List Tm) (ra : Option Addr) (rcap : Nat) (rs : List Rl) (r : Rl) (a : Option Addr) (cap : Nat) (w : World) (hw : TmsAt w ta ts) (hr : RlsAt w ra rs) (hm : r.Small) (hi : IntsAt w a r.vs) (htab : TabW w) (hlt : ts.length ≤ 1048576) (hlr : rs.length ≤ 1048576) :
    Calls Tryd.prog 12 #[.slice ta ts.length tcap, .slice ra rs.length rcap, .agg (r.cells a cap)] w fun e w' => ∃ (x : Ac) (ok : Bool), e = .returned (.tuple #[.agg x.cells, .bool ok]) ∧ Gate.UPost ts rs r x ok ∧ Below w.heap.size w w' := by
  have bad : ∀ {e : Ending} {w' : World}, (e = .returned (.tuple #[.agg Gate.noAct.cells, .bool false]) ∧ Below w.heap.size w w') → (Gate.allOk ts rs r = false ∨ Gate.lacksS ts rs r = 0) → ∃ (x : Ac) (ok : Bool), e = .returned (.tuple #[.agg x.cells, .bool ok]) ∧ Gate.UPost ts rs r x ok ∧ Below w.heap.size w w' :=
    fun h hc => ⟨_, _, h.1, Or.inr ⟨hc, rfl, rfl⟩, h.2⟩
  by_cases h1 : Gate.teamsOk ts = true
  rotate_left
  · have h1' : Gate.teamsOk ts = false := by simpa using h1
    exact (implUncovered_teams ta tcap ts ra rcap rs r a cap w hw h1').mono fun e w' h => bad h (Or.inl (by unfold Gate.allOk; rw [h1']; rfl))
  by_cases h2 : Gate.ruleOk r = true
  rotate_left
  · have h2' : Gate.ruleOk r = false := by simpa using h2
    exact (implUncovered_rule ta tcap ts ra rcap rs r a cap w hw hr hm hi h1 h2').mono fun e w' h => bad h (Or.inl (by unfold Gate.allOk; rw [h1, h2']; rfl))
  by_cases h3 : Gate.rulesOk rs = true
  rotate_left
  · have h3' : Gate.rulesOk rs = false := by simpa using h3
    exact (implUncovered_rules ta tcap ts ra rcap rs r a cap w hw hr hm hi h1 h2 h3').mono fun e w' h => bad h (Or.inl (by unfold Gate.allOk; rw [h1, h2, h3']; rfl))
  have hall : Gate.allOk ts rs r = true := by unfold Gate.allOk; rw [h1, h2, h3]; rfl
  by_cases h4 : Gate.leftBits ts rs r = 0
  · refine (implUncovered_none ta tcap ts ra rcap rs r a cap w hw hr hm hi h1 h2 h3 h4).mono fun e w' h => bad h (Or.inr ?_)
    have h := Gate.covers_same ts rs r
    unfold Gate.covers Gate.coversS at h
    rw [hall, h4] at h
    simpa using h.symm
  · have hl := Gate.lacks_low h1 rs (Gate.ruleOk_verbs h2) (by simpa using h4)
    refine (implUncovered_yes ta tcap ts ra rcap rs r a cap w hw hr hm hi h1 h2 h3 h4 htab (by omega)).mono ?_
    rintro e w' ⟨⟨x, he, hx, hu⟩, hb⟩
    exact ⟨_, _, he, Or.inl ⟨hall, hl.2, rfl, hx.trans hl.1.symm, hu⟩, hb⟩

set_option maxHeartbeats 1000000 in
theorem eqGateAct_yes (x : Ac) (w : World) :
    Calls Tryd.prog 13 #[.agg x.cells, .agg x.cells] w fun e w' => e = .returned (.bool true) ∧ Below w.heap.size w w' := by
  unfold Ac.cells
  go_enter Tryd.func13, Tryd.ntmps13
  go_wp2_with fail
  go_ret
  exact ⟨rfl, below2' _ _ _⟩

end Go.Proofs.YtimhinpekngceaaDoor

namespace Go.Proofs.YtimhinpekngceaaDoor
open Go.RowKit

set_option maxHeartbeats 1000000 in
theorem szGateRuleS_any (a : Option Addr) (cap : Nat) (rs : List Rl) (left : Int) (w : World) (hw : RlsAt w a rs) (h0 : 0 ≤ left) (h1 : left ≤ 1048576) :
    Calls Tryd.prog 6 #[.slice a rs.length cap, .int .i64 left] w fun e w' => e = .returned (.int .i64 (szRes (rlsSz rs) left)) ∧ Below w.heap.size w w' := by
  have hl := hw.len
  unfold maxLen at hl
  by_cases hfit : (rs.length : Int) ≤ left
  · go_enter Tryd.func6, Tryd.ntmps6
    go_wp2_with fail
    go_loopw [1, 5] (fun l i wr => ∃ k : Nat, k ≤ rs.length ∧ i = .int .i64 k ∧ 0 ≤ left - rs.length - sumR (rs.take k) ∧ l = .int .i64 (left - rs.length - sumR (rs.take k)) ∧ Below w.heap.size w wr) (fun _ i _ => rs.length - (intOf i).toNat)
    case atStart => exact ⟨0, Nat.zero_le _, rfl, by simp [sumR]; omega, by simp [sumR], Below.refl _ _⟩
    case round =>
      obtain ⟨k, hk, rfl, hpos, rfl, hB⟩ := hrel
      by_cases hlt : k < rs.length
      · obtain ⟨b, off, va, vcap, rfl, hb, hsm, hI, c0, c1, c2, c3⟩ := hw.load hB k hlt
        have hbr : b < wr.heap.size := Nat.lt_of_lt_of_le hb hB.size
        have hvl := hI.len
        have HS : Hid (sumR (rs.take (k + 1)) = sumR (rs.take k) + rs[k].sz) := sum_snoc Rl.sz rs k hlt
        have hle : sumR (rs.take (k + 1)) ≤ sumR rs := sum_le Rl.sz rs (k + 1)
        clear hw
        by_cases hneg : (rs[k].sz : Int) ≤ left - rs.length - sumR (rs.take k)
        · have HNG : Hid ((rs[k].sz : Int) ≤ left - rs.length - sumR (rs.take k)) := hneg
          clear hle
          go_wp2_with fail
          refine (szGateRule_yes rs[k] va vcap _ _ hsm hvl hpos (by omega) HNG.out).mono ?_
          rintro e w1 ⟨rfl, hb1⟩
          have hB1 := hB.trans (hb1.mono hB.size)
          clear hb1
          go_wp2_with fail
          exact ⟨⟨k + 1, by omega, by go_num, by rw [HS.out]; omega, by rw [HS.out]; congr 1; omega, hB1⟩, by simp [intOf]; omega⟩
        · have HF : Hid (szRes (rlsSz rs) left = -1) := szRes_no (by have := HS.out; unfold rlsSz; omega)
          have HNG : Hid (¬ (rs[k].sz : Int) ≤ left - rs.length - sumR (rs.take k)) := hneg
          clear hneg hle
          go_wp2_with fail
          refine (szGateRule_no rs[k] va vcap _ _ hsm hvl hpos (by omega) (by have := HNG.out; omega)).mono ?_
          rintro e w1 ⟨rfl, hb1⟩
          have hB1 := hB.trans (hb1.mono hB.size)
          clear hb1
          go_wp2_with fail
          go_ret
          exact ⟨ret_int HF.out.symm, hB1⟩
      · have HF : Hid (szRes (rlsSz rs) left = left - rs.length - sumR (rs.take k)) := by
          rw [List.take_of_length_le (by omega)] at hpos ⊢
          have e : szRes (rlsSz rs) left = left - rlsSz rs := szRes_yes (by unfold rlsSz; omega)
          unfold Hid; rw [e]; unfold rlsSz; omega
        clear hw
        go_wp2
        go_ret
        exact ⟨ret_int HF.out.symm, hB⟩
  · have HF : Hid (szRes (rlsSz rs) left = -1) := szRes_no (by unfold rlsSz; omega)
    clear hw
    go_enter Tryd.func6, Tryd.ntmps6
    go_wp2
    go_ret
    exact ⟨ret_int HF.out.symm, Below.refl _ _⟩

set_option maxHeartbeats 2000000 in
theorem eqGateRuleS_yes (a a' : Option Addr) (cap cap' : Nat) (rs : List Rl) (w : World) (hw : RlsAt w a rs) (hw' : RlsAt w a' rs) :
    Calls Tryd.prog 15 #[.slice a rs.length cap, .slice a' rs.length cap'] w fun e w' => e = .returned (.bool true) ∧ Below w.heap.size w w' := by
  have hl := hw.len
  unfold maxLen at hl
  have hnn : ((rs.length : Int) != rs.length) = false := by simp
  go_enter Tryd.func15, Tryd.ntmps15
  go_wp2_with fail
  go_loopw [5] (fun i wr => ∃ k : Nat, k ≤ rs.length ∧ i = .int .i64 k ∧ Below w.heap.size w wr) (fun i _ => rs.length - (intOf i).toNat)
  case atStart => exact ⟨0, Nat.zero_le _, rfl, Below.refl _ _⟩
  case round =>
    obtain ⟨k, hk, rfl, hB⟩ := hrel
    by_cases hlt : k < rs.length
    · obtain ⟨b, off, va, vcap, rfl, hb, hsm, hI, c0, c1, c2, c3⟩ := hw.load hB k hlt
      obtain ⟨b', off', va', vcap', rfl, hb', _, hI', d0, d1, d2, d3⟩ := hw'.load hB k hlt
      have hltI : (k : Int) < (rs.length : Int) := by omega
      clear hw hw'
      go_wp2_with fail
      go_region_with (go_at_call 16; refine (eqGateRule_yes rs[k] _ _ _ _ _ (by exact hI.mono ((Below.refl _ _).drew)) (by exact hI'.mono ((Below.refl _ _).drew))).mono ?_; rintro e w1 ⟨rfl, hb1'⟩; have hb1 := (Below.refl wr.heap.size wr).drew.trans hb1'; clear hb1')
      all_goals go_wp2_with fail
      all_goals exact ⟨⟨k + 1, by omega, by go_num, hB.trans (hb1.mono hB.size)⟩, by simp [intOf]; omega⟩
    · clear hw hw'
      go_wp2_with fail
      go_ret
      exact ⟨rfl, hB⟩

theorem rls_few {rs : List Rl} {left : Int} (h : (rlsSz rs : Int) ≤ left) (hl : left ≤ 1048576) : rs.length ≤ 1048576 ∧ ∀ i (h : i < rs.length), rs[i].vs.length ≤ 1048576 := by
  unfold rlsSz at h
  refine ⟨by omega, fun i hi => ?_⟩
  have h1 : rs[i].sz ≤ sumR rs := sum_mem Rl.sz rs i hi
  unfold Rl.sz at h1
  omega

set_option maxHeartbeats 2000000 in
theorem toGateRuleS_any (a : Option Addr) (cap : Nat) (rs : List Rl) (w : World) (hw : RlsAt w a rs) (hl : rs.length ≤ 1048576) (hls : ∀ i (h : i < rs.length), rs[i].vs.length ≤ 1048576) :
    Calls Tryd.prog 10 #[.slice a rs.length cap] w fun e w' => e = .returned (.slice (some ⟨w.heap.size, 0, none⟩) rs.length rs.length) ∧ RlsOwn 38 3 w.heap.size w' w.heap.size rs rs.length ∧ Below w.heap.size w w' := by
  have hmk : ∀ w : World, (Instr.makeSlice 36 (.int .i64 rs.length) (.int .i64 rs.length)).run Tryd.prog w = .ok (.slice (some ⟨w.heap.size, 0, none⟩) rs.length rs.length) (w.alloc (.cells (rlsZero rs.length) 38)) :=
    fun w => run_make_rows (P := Tryd.prog) 36 38 (.agg rlZero) 4 72 Tryd.underlying36 (by kernel_rfl) rs.length (by omega) (by omega) w
  go_enter Tryd.func10, Tryd.ntmps10
  go_wp2_with fail
  clear hmk
  go_loopw [4] (fun i wr => ∃ k : Nat, k ≤ rs.length ∧ i = .int .i64 k ∧ RlsOwn 38 3 w.heap.size wr w.heap.size rs k ∧ Below w.heap.size w wr) (fun i _ => rs.length - (intOf i).toNat)
  case atStart => exact ⟨0, Nat.zero_le _, rfl, ⟨Nat.le_refl _, rlsZero rs.length, (MapKept.heap_alloc w _).1, size_madeCells _ _, fun i _ h => absurd h (by omega)⟩, (Below.refl _ _).alloc (Nat.le_refl _) _⟩
  case round =>
    obtain ⟨k, hk, rfl, hown, hB⟩ := hrel
    by_cases hlt : k < rs.length
    · obtain ⟨b, off, va, vcap, rfl, hb, hsm, hI, c0, c1, c2, c3⟩ := hw.load hB k hlt
      have HLS : Hid (rs[k].vs.length ≤ 1048576) := hls k hlt
      have hltI : (k : Int) < (rs.length : Int) := by omega
      clear hw
      go_wp2_with fail
      refine (toGateRule_any rs[k] va vcap _ hI HLS.out).mono ?_
      rintro e w1 ⟨bk, rfl, hlo, hhi, hbk, hb1⟩
      have hB1 := hB.trans (hb1.mono hB.size)
      have hown1 := hown.later hb1
      obtain ⟨C, hC, hsz, _⟩ := hown1.rows
      have hfz : ∀ o, w1.frozen? ⟨w.heap.size, o, none⟩ = false := fun o => frozen_of_block hC
      have hex : ∀ o, o < rs.length * 4 → ∃ v, w1.cell? ⟨w.heap.size, o, none⟩ = some v := fun o ho => ⟨C[o]'(by omega), by rw [cell_of_block hC]; exact Array.getElem?_eq_getElem (by omega)⟩
      obtain ⟨v0, hv0⟩ := hex (k * 4) (by omega)
      obtain ⟨v1, hv1⟩ := hex (k * 4 + 1) (by omega)
      obtain ⟨v2, hv2⟩ := hex (k * 4 + 2) (by omega)
      obtain ⟨v3, hv3⟩ := hex (k * 4 + 3) (by omega)
      clear hex hC hsz c0 c1 c2 c3
      have hbo : w.heap.size < wr.heap.size := by
        obtain ⟨C', hC', _⟩ := hown.rows
        exact (Array.getElem?_eq_some_iff.1 hC').1
      unfold Rl.cells
      go_wp2_with fail
      exact ⟨⟨k + 1, by omega, by go_num, hown1.put hlt bk (by omega) (by omega) hbk, put4_below hB1 (Nat.le_refl _) _ _ _ _ _⟩, by simp [intOf]; omega⟩
    · have HF : Hid (RlsOwn 38 3 w.heap.size wr w.heap.size rs rs.length) := by
        have e : k = rs.length := by omega
        subst e; exact hown
      clear hw hown
      go_wp2_with fail
      go_ret
      exact ⟨rfl, HF.out, hB⟩

end Go.Proofs.YtimhinpekngceaaDoor
