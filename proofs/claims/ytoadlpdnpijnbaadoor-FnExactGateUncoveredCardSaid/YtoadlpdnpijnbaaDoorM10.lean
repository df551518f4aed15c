import Derived.Test.YtoadlpdnpijnbaaDoorM09
import Derived.Test.YtoadlpdnpijnbaaDoorM03
import Derived.Test.YtoadlpdnpijnbaaDoorM01
import Derived.Test.YtoadlpdnpijnbaaDoorRows
import Derived.ProofKit
import Derived.SliceStrings
namespace Go.Proofs.YtoadlpdnpijnbaaDoor
open Go.RowKit

namespace Gate
/-- What GateUncovered answers, on either side. -/
def UPost (ts : List Tm) (rs : List Rl) (r : Rl) (x : Ac) (ok : Bool) : Prop :=
  (allOk ts rs r = true ∧ ¬ lacksS ts rs r = 0 ∧ ok = true ∧ x.vb = lacksS ts rs r ∧ UncovRest ts rs r x) ∨ ((allOk ts rs r = false ∨ lacksS ts rs r = 0) ∧ ok = false ∧ x = noAct)

theorem UPost.one {ts : List Tm} {rs : List Rl} {r : Rl} {x y : Ac} {p q : Bool} (h : UPost ts rs r x p) (h' : UPost ts rs r y q) : x = y ∧ p = q := by
  rcases h with ⟨h1, h2, h3, h4, h5⟩ | ⟨h1, h2, h3⟩
  · rcases h' with ⟨_, _, k3, k4, k5⟩ | ⟨k1, _, _⟩
    · refine ⟨?_, by rw [h3, k3]⟩
      have e0 : x.vb = y.vb := by rw [h4, k4]
      have e3 : x.nm = y.nm := by rw [h5.nm, k5.nm]
      have e1 : x.kd = y.kd := by
        have a := h5.kd
        have b := k5.kd
        by_cases hk : r.kd.toList.isEmpty = true
        · rw [if_pos hk] at a b
          obtain ⟨i, ei, fi⟩ := a
          obtain ⟨j, ej, fj⟩ := b
          rw [ei, ej, fi.one fj (fun _ => Iff.rfl)]
        · rw [if_neg hk] at a b
          rw [a, b]
      have e2 : x.tm = y.tm := by
        have a := h5.tm
        have b := k5.tm
        by_cases hk : r.tm.toList.isEmpty = true
        · rw [if_pos hk] at a b
          obtain ⟨i, ei, fi⟩ := a
          obtain ⟨j, ej, fj⟩ := b
          rw [ei, ej, fi.one fj (fun _ => Iff.rfl)]
        · rw [if_neg hk] at a b
          rw [a, b]
      cases x
      cases y
      simp only at e0 e1 e2 e3
      rw [e0, e1, e2, e3]
    · rcases k1 with k1 | k1
      · rw [h1] at k1; cases k1
      · exact absurd k1 h2
  · rcases h' with ⟨k1, k2, _⟩ | ⟨_, k2, k3⟩
    · rcases h1 with h1 | h1
      · rw [h1] at k1; cases k1
      · exact absurd h1 k2
    · exact ⟨by rw [h3, k3], by rw [h2, k2]⟩
end Gate

theorem specUncovered_any (ta : Option Addr) (tcap : Nat) (ts : List Tm) (ra : Option Addr) (rcap : Nat) (rs : List Rl) (r : Rl) (a : Option Addr) (cap : Nat) (w : World) (hw : TmsAt w ta ts) (hr : RlsAt w ra rs) (hm : r.Small) (hi : IntsAt w a r.vs) (hlt : ts.length ≤ 1048576) (hlr : rs.length ≤ 1048576) :
    Calls Tryd.prog 8 #[.slice ta ts.length tcap, .slice ra rs.length rcap, .agg (r.cells a cap)] w fun e w' => ∃ (x : Ac) (ok : Bool), e = .returned (.tuple #[.agg x.cells, .bool ok]) ∧ Gate.UPost ts rs r x ok ∧ Below w.heap.size w w' := by
  by_cases h1 : Gate.allOk ts rs r = true
  · by_cases h2 : Gate.lacksS ts rs r = 0
    · refine (specUncovered_none ta tcap ts ra rcap rs r a cap w hw hr hm hi h1 h2).mono ?_
      rintro e w' ⟨he, hb⟩
      exact ⟨_, _, he, Or.inr ⟨Or.inr h2, rfl, rfl⟩, hb⟩
    · refine (specUncovered_yes ta tcap ts ra rcap rs r a cap w hw hr hm hi h1 h2 hlt hlr).mono ?_
      rintro e w' ⟨⟨x, he, hx, hu⟩, hb⟩
      exact ⟨_, _, he, Or.inl ⟨h1, h2, rfl, hx, hu⟩, hb⟩
  · have h1' : Gate.allOk ts rs r = false := by simpa using h1
    refine (specUncovered_bad ta tcap ts ra rcap rs r a cap w hw hr hm hi h1').mono ?_
    rintro e w' ⟨he, hb⟩
    exact ⟨_, _, he, Or.inr ⟨Or.inl h1', rfl, rfl⟩, hb⟩

theorem implUncovered_any (ta : Option Addr) (tcap : Nat) (ts : List Tm) (ra : Option Addr) (rcap : Nat) (rs : List Rl) (r : Rl) (a : Option Addr) (cap : Nat) (w : World) (hw : TmsAt w ta ts) (hr : RlsAt w ra rs) (hm : r.Small) (hi : IntsAt w a r.vs) (htab : TabW w) (hlt : ts.length ≤ 1048576) (hlr : rs.length ≤ 1048576) :
    Calls Tryd.prog 12 #[.slice ta ts.length tcap, .slice ra rs.length rcap, .agg (r.cells a cap)] w fun e w' => ∃ (x : Ac) (ok : Bool), e = .returned (.tuple #[.agg x.cells, .bool ok]) ∧ Gate.UPost ts rs r x ok ∧ Below w.heap.size w w' := by
  have bad : ∀ {e : Ending} {w' : World}, (e = .returned (.tuple #[.agg Gate.noAct.cells, .bool false]) ∧ Below w.heap.size w w') → (Gate.allOk ts rs r = false ∨ Gate.lacksS ts rs r = 0) → ∃ (x : Ac) (ok : Bool), e = .returned (.tuple #[.agg x.cells, .bool ok]) ∧ Gate.UPost ts rs r x ok ∧ Below w.heap.size w w' :=
    fun h hc => ⟨_, _, h.1, Or.inr ⟨hc, rfl, rfl⟩, h.2⟩
  by_cases h1 : Gate.teamsOk ts = true
  rotate_left
  · have h1' : Gate.teamsOk ts = false := by simpa using h1
    exact (implUncovered_teams ta tcap ts ra rcap rs r a cap w hw h1').mono fun e w' h => bad h (Or.inl (by unfold Gate.allOk; rw [h1']; rfl))
  by_cases h2 : Gate.ruleOk r = true
  rotate_left
  · have h2' : Gate.ruleOk r = false := by simpa using h2
    exact (implUncovered_rule ta tcap ts ra rcap rs r a cap w hw hr hm hi h1 h2').mono fun e w' h => bad h (Or.inl (by unfold Gate.allOk; rw [h1, h2']; rfl))
  by_cases h3 : Gate.rulesOk rs = true
  rotate_left
  · have h3' : Gate.rulesOk rs = false := by simpa using h3
    exact (implUncovered_rules ta tcap ts ra rcap rs r a cap w hw hr hm hi h1 h2 h3').mono fun e w' h => bad h (Or.inl (by unfold Gate.allOk; rw [h1, h2, h3']; rfl))
  have hall : Gate.allOk ts rs r = true := by unfold Gate.allOk; rw [h1, h2, h3]; rfl
  by_cases h4 : Gate.leftBits ts rs r = 0
  · refine (implUncovered_none ta tcap ts ra rcap rs r a cap w hw hr hm hi h1 h2 h3 h4).mono fun e w' h => bad h (Or.inr ?_)
    have h := Gate.covers_same ts rs r
    unfold Gate.covers Gate.coversS at h
    rw [hall, h4] at h
    simpa using h.symm
  · have hl := Gate.lacks_low h1 rs (Gate.ruleOk_verbs h2) (by simpa using h4)
    refine (implUncovered_yes ta tcap ts ra rcap rs r a cap w hw hr hm hi h1 h2 h3 h4 htab (by omega)).mono ?_
    rintro e w' ⟨⟨x, he, hx, hu⟩, hb⟩
    exact ⟨_, _, he, Or.inl ⟨hall, hl.2, rfl, hx.trans hl.1.symm, hu⟩, hb⟩

set_option maxHeartbeats 1000000 in
theorem eqGateAct_yes (x : Ac) (w : World) :
    Calls Tryd.prog 13 #[.agg x.cells, .agg x.cells] w fun e w' => e = .returned (.bool true) ∧ Below w.heap.size w w' := by
  unfold Ac.cells
  go_enter Tryd.func13, Tryd.ntmps13
  go_wp2_with fail
  go_ret
  exact ⟨rfl, below2' _ _ _⟩

end Go.Proofs.YtoadlpdnpijnbaaDoor

namespace Go.Proofs.YtoadlpdnpijnbaaDoor
open Go.RowKit

set_option maxHeartbeats 1000000 in
theorem szGateRuleS_any (a : Option Addr) (cap : Nat) (rs : List Rl) (left : Int) (w : World) (hw : RlsAt w a rs) (h0 : 0 ≤ left) (h1 : left ≤ 1048576) :
    Calls Tryd.prog 6 #[.slice a rs.length cap, .int .i64 left] w fun e w' => e = .returned (.int .i64 (szRes (rlsSz rs) left)) ∧ Below w.heap.size w w' := by
  have hl := hw.len
  unfold maxLen at hl
  by_cases hfit : (rs.length : Int) ≤ left
  · go_enter Tryd.func6, Tryd.ntmps6
    go_wp2_with fail
    go_loopw [1, 5] (fun l i wr => ∃ k : Nat, k ≤ rs.length ∧ i = .int .i64 k ∧ 0 ≤ left - rs.length - sumR (rs.take k) ∧ l = .int .i64 (left - rs.length - sumR (rs.take k)) ∧ Below w.heap.size w wr) (fun _ i _ => rs.length - (intOf i).toNat)
    case atStart => exact ⟨0, Nat.zero_le _, rfl, by simp [sumR]; omega, by simp [sumR], Below.refl _ _⟩
    case round =>
      obtain ⟨k, hk, rfl, hpos, rfl, hB⟩ := hrel
      by_cases hlt : k < rs.length
      · obtain ⟨b, off, va, vcap, rfl, hb, hsm, hI, c0, c1, c2, c3⟩ := hw.load hB k hlt
        have hbr : b < wr.heap.size := Nat.lt_of_lt_of_le hb hB.size
        have hvl := hI.len
        have HS : Hid (sumR (rs.take (k + 1)) = sumR (rs.take k) + rs[k].sz) := sum_snoc Rl.sz rs k hlt
        have hle : sumR (rs.take (k + 1)) ≤ sumR rs := sum_le Rl.sz rs (k + 1)
        clear hw
        by_cases hneg : (rs[k].sz : Int) ≤ left - rs.length - sumR (rs.take k)
        · have HNG : Hid ((rs[k].sz : Int) ≤ left - rs.length - sumR (rs.take k)) := hneg
          clear hle
          go_wp2_with fail
          refine (szGateRule_yes rs[k] va vcap _ _ hsm hvl hpos (by omega) HNG.out).mono ?_
          rintro e w1 ⟨rfl, hb1⟩
          have hB1 := hB.trans (hb1.mono hB.size)
          clear hb1
          go_wp2_with fail
          exact ⟨⟨k + 1, by omega, by go_num, by rw [HS.out]; omega, by rw [HS.out]; congr 1; omega, hB1⟩, by simp [intOf]; omega⟩
        · have HF : Hid (szRes (rlsSz rs) left = -1) := szRes_no (by have := HS.out; unfold rlsSz; omega)
          have HNG : Hid (¬ (rs[k].sz : Int) ≤ left - rs.length - sumR (rs.take k)) := hneg
          clear hneg hle
          go_wp2_with fail
          refine (szGateRule_no rs[k] va vcap _ _ hsm hvl hpos (by omega) (by have := HNG.out; omega)).mono ?_
          rintro e w1 ⟨rfl, hb1⟩
          have hB1 := hB.trans (hb1.mono hB.size)
          clear hb1
          go_wp2_with fail
          go_ret
          exact ⟨ret_int HF.out.symm, hB1⟩
      · have HF : Hid (szRes (rlsSz rs) left = left - rs.length - sumR (rs.take k)) := by
          rw [List.take_of_length_le (by omega)] at hpos ⊢
          have e : szRes (rlsSz rs) left = left - rlsSz rs := szRes_yes (by unfold rlsSz; omega)
          unfold Hid; rw [e]; unfold rlsSz; omega
        clear hw
        go_wp2
        go_ret
        exact ⟨ret_int HF.out.symm, hB⟩
  · have HF : Hid (szRes (rlsSz rs) left = -1) := szRes_no (by unfold rlsSz; omega)
    clear hw
    go_enter Tryd.func6, Tryd.ntmps6
    go_wp2
    go_ret
    exact ⟨ret_int HF.out.symm, Below.refl _ _⟩

set_option maxHeartbeats 2000000 in
theorem eqGateRuleS_yes (a a' : Option Addr) (cap cap' : Nat) (rs : List Rl) (w : World) (hw : RlsAt w a rs) (hw' : RlsAt w a' rs) :
    Calls Tryd.prog 15 #[.slice a rs.length cap, .slice a' rs.length cap'] w fun e w' => e = .returned (.bool true) ∧ Below w.heap.size w w' := by
  have hl := hw.len
  unfold maxLen at hl
  have hnn : ((rs.length : Int) != rs.length) = false := by simp
  go_enter Tryd.func15, Tryd.ntmps15
  go_wp2_with fail
  go_loopw [5] (fun i wr => ∃ k : Nat, k ≤ rs.length ∧ i = .int .i64 k ∧ Below w.heap.size w wr) (fun i _ => rs.length - (intOf i).toNat)
  case atStart => exact ⟨0, Nat.zero_le _, rfl, Below.refl _ _⟩
  case round =>
    obtain ⟨k, hk, rfl, hB⟩ := hrel
    by_cases hlt : k < rs.length
    · obtain ⟨b, off, va, vcap, rfl, hb, hsm, hI, c0, c1, c2, c3⟩ := hw.load hB k hlt
      obtain ⟨b', off', va', vcap', rfl, hb', _, hI', d0, d1, d2, d3⟩ := hw'.load hB k hlt
      have hltI : (k : Int) < (rs.length : Int) := by omega
      clear hw hw'
      go_wp2_with fail
      go_region_with (go_at_call 16; refine (eqGateRule_yes rs[k] _ _ _ _ _ (by exact hI.mono ((Below.refl _ _).drew)) (by exact hI'.mono ((Below.refl _ _).drew))).mono ?_; rintro e w1 ⟨rfl, hb1'⟩; have hb1 := (Below.refl wr.heap.size wr).drew.trans hb1'; clear hb1')
      all_goals go_wp2_with fail
      all_goals exact ⟨⟨k + 1, by omega, by go_num, hB.trans (hb1.mono hB.size)⟩, by simp [intOf]; omega⟩
    · clear hw hw'
      go_wp2_with fail
      go_ret
      exact ⟨rfl, hB⟩

theorem rls_few {rs : List Rl} {left : Int} (h : (rlsSz rs : Int) ≤ left) (hl : left ≤ 1048576) : rs.length ≤ 1048576 ∧ ∀ i (h : i < rs.length), rs[i].vs.length ≤ 1048576 := by
  unfold rlsSz at h
  refine ⟨by omega, fun i hi => ?_⟩
  have h1 : rs[i].sz ≤ sumR rs := sum_mem Rl.sz rs i hi
  unfold Rl.sz at h1
  omega

set_option maxHeartbeats 2000000 in
theorem toGateRuleS_any (a : Option Addr) (cap : Nat) (rs : List Rl) (w : World) (hw : RlsAt w a rs) (hl : rs.length ≤ 1048576) (hls : ∀ i (h : i < rs.length), rs[i].vs.length ≤ 1048576) :
    Calls Tryd.prog 10 #[.slice a rs.length cap] w fun e w' => e = .returned (.slice (some ⟨w.heap.size, 0, none⟩) rs.length rs.length) ∧ RlsOwn 38 3 w.heap.size w' w.heap.size rs rs.length ∧ Below w.heap.size w w' := by
  have hmk : ∀ w : World, (Instr.makeSlice 36 (.int .i64 rs.length) (.int .i64 rs.length)).run Tryd.prog w = .ok (.slice (some ⟨w.heap.size, 0, none⟩) rs.length rs.length) (w.alloc (.cells (rlsZero rs.length) 38)) :=
    fun w => run_make_rows (P := Tryd.prog) 36 38 (.agg rlZero) 4 72 Tryd.underlying36 (by kernel_rfl) rs.length (by omega) (by omega) w
  go_enter Tryd.func10, Tryd.ntmps10
  go_wp2_with fail
  clear hmk
  go_loopw [4] (fun i wr => ∃ k : Nat, k ≤ rs.length ∧ i = .int .i64 k ∧ RlsOwn 38 3 w.heap.size wr w.heap.size rs k ∧ Below w.heap.size w wr) (fun i _ => rs.length - (intOf i).toNat)
  case atStart => exact ⟨0, Nat.zero_le _, rfl, ⟨Nat.le_refl _, rlsZero rs.length, (MapKept.heap_alloc w _).1, size_madeCells _ _, fun i _ h => absurd h (by omega)⟩, (Below.refl _ _).alloc (Nat.le_refl _) _⟩
  case round =>
    obtain ⟨k, hk, rfl, hown, hB⟩ := hrel
    by_cases hlt : k < rs.length
    · obtain ⟨b, off, va, vcap, rfl, hb, hsm, hI, c0, c1, c2, c3⟩ := hw.load hB k hlt
      have HLS : Hid (rs[k].vs.length ≤ 1048576) := hls k hlt
      have hltI : (k : Int) < (rs.length : Int) := by omega
      clear hw
      go_wp2_with fail
      refine (toGateRule_any rs[k] va vcap _ hI HLS.out).mono ?_
      rintro e w1 ⟨bk, rfl, hlo, hhi, hbk, hb1⟩
      have hB1 := hB.trans (hb1.mono hB.size)
      have hown1 := hown.later hb1
      obtain ⟨C, hC, hsz, _⟩ := hown1.rows
      have hfz : ∀ o, w1.frozen? ⟨w.heap.size, o, none⟩ = false := fun o => frozen_of_block hC
      have hex : ∀ o, o < rs.length * 4 → ∃ v, w1.cell? ⟨w.heap.size, o, none⟩ = some v := fun o ho => ⟨C[o]'(by omega), by rw [cell_of_block hC]; exact Array.getElem?_eq_getElem (by omega)⟩
      obtain ⟨v0, hv0⟩ := hex (k * 4) (by omega)
      obtain ⟨v1, hv1⟩ := hex (k * 4 + 1) (by omega)
      obtain ⟨v2, hv2⟩ := hex (k * 4 + 2) (by omega)
      obtain ⟨v3, hv3⟩ := hex (k * 4 + 3) (by omega)
      clear hex hC hsz c0 c1 c2 c3
      have hbo : w.heap.size < wr.heap.size := by
        obtain ⟨C', hC', _⟩ := hown.rows
        exact (Array.getElem?_eq_some_iff.1 hC').1
      unfold Rl.cells
      go_wp2_with fail
      exact ⟨⟨k + 1, by omega, by go_num, hown1.put hlt bk (by omega) (by omega) hbk, put4_below hB1 (Nat.le_refl _) _ _ _ _ _⟩, by simp [intOf]; omega⟩
    · have HF : Hid (RlsOwn 38 3 w.heap.size wr w.heap.size rs rs.length) := by
        have e : k = rs.length := by omega
        subst e; exact hown
      clear hw hown
      go_wp2_with fail
      go_ret
      exact ⟨rfl, HF.out, hB⟩

end Go.Proofs.YtoadlpdnpijnbaaDoor

namespace Go.Proofs.YtoadlpdnpijnbaaDoor
open Go.RowKit

theorem blk_cells {w : World} {b : Nat} {X : Array Value} {t : TypeId} (h : w.heap[b]? = some (.cells X t)) : ∀ j, w.cell? ⟨b, j, none⟩ = X[j]? := fun _ => cell_of_block h
theorem blk_frozen {w : World} {b : Nat} {X : Array Value} {t : TypeId} (h : w.heap[b]? = some (.cells X t)) : ∀ j, w.frozen? ⟨b, j, none⟩ = false := fun _ => frozen_of_block h
theorem zero_next {w w3 : World} {b : Nat} {X : Array Value} {t : TypeId} (HZ : Hid (w.heap[b]? = some (.cells X t))) (hb : Below w.heap.size w w3) : Hid (w3.heap[b]? = some (.cells X t)) := (hb.block b (Array.getElem?_eq_some_iff.1 HZ.out).1).trans HZ.out
theorem zero_new {w w3 : World} {X : Array Value} {t : TypeId} (hb : Below (w.alloc (.cells X t)).heap.size (w.alloc (.cells X t)) w3) : Hid (w3.heap[w.heap.size]? = some (.cells X t)) := (hb.block _ (by simp)).trans (alloc_at _ _)
theorem cell_alloc_old {w : World} {ob : Obj} {b j : Nat} (h : b < w.heap.size) : (w.alloc ob).cell? ⟨b, j, none⟩ = w.cell? ⟨b, j, none⟩ := World.cell?_alloc_lt _ _ _ h
theorem cell_alloc_drew {w : World} {ob : Obj} {b j : Nat} (h : b < w.heap.size) : (w.alloc ob).drew.cell? ⟨b, j, none⟩ = w.cell? ⟨b, j, none⟩ := World.cell?_alloc_lt _ _ _ h
theorem zero_new' {w w3 : World} {X : Array Value} {t : TypeId} (hb : Below (w.alloc (.cells X t)).drew.heap.size (w.alloc (.cells X t)).drew w3) : Hid (w3.heap[w.heap.size]? = some (.cells X t)) := (hb.block _ (by show w.heap.size < (w.alloc (.cells X t)).heap.size; simp)).trans (alloc_at _ _)
theorem size_of {w w3 : World} (_hb : Below w.heap.size w w3) : w.heap.size = w.heap.size := rfl
theorem size_alloc_lt {w w3 : World} {ob : Obj} (_hb : Below (w.alloc ob).heap.size (w.alloc ob) w3) : w.heap.size < (w.alloc ob).heap.size := by simp

end Go.Proofs.YtoadlpdnpijnbaaDoor

namespace Go.Proofs.YtoadlpdnpijnbaaDoor
open Go.RowKit

set_option maxHeartbeats 8000000 in
theorem lawUncovered_any (ta : Option Addr) (tcap : Nat) (ts : List Tm) (ra : Option Addr) (rcap : Nat) (rs : List Rl) (r : Rl) (a : Option Addr) (cap : Nat) (w : World) (hw : TmsAt w ta ts) (hr : RlsAt w ra rs) (hm : r.Small) (hi : IntsAt w a r.vs) (htab : TabW w) :
    Calls Tryd.prog 3 #[.slice ta ts.length tcap, .slice ra rs.length rcap, .agg (r.cells a cap)] w fun e w' => e = .returned (.bool true) ∧ Below w.heap.size w w' := by
  have HT : Hid (TmsAt w ta ts) := hw
  have HR : Hid (RlsAt w ra rs) := hr
  have HI : Hid (IntsAt w a r.vs) := hi
  have HM : Hid r.Small := hm
  have HTB : Hid (TabW w) := htab
  have HTS : Hid ((∀ i (h : i < ts.length), ts[i].Small) ∧ ts.length ≤ maxLen) := ⟨hw.small, hw.len⟩
  have HRS : Hid (RlsSmall rs ∧ rs.length ≤ maxLen) := ⟨hr.smalls, hr.len⟩
  clear hw hr hi hm htab
  unfold Rl.cells
  go_enter Tryd.func3, Tryd.ntmps3
  go_wp2_with fail
  have hB0 : Below w.heap.size w (w.alloc (.cells #[.slice a r.vs.length cap, .string r.kd, .string r.tm, .string r.px] 26)) := (Below.refl _ _).alloc (Nat.le_refl _) _
  have hX0 := box_new w #[.slice a r.vs.length cap, .string r.kd, .string r.tm, .string r.px] 26
  obtain ⟨W0, hW0⟩ : ∃ W0, W0 = w.alloc (.cells #[.slice a r.vs.length cap, .string r.kd, .string r.tm, .string r.px] 26) := ⟨_, rfl⟩
  have zX0 : w.heap.size < W0.heap.size := by rw [hW0]; simp
  rw [← hW0] at hB0 hX0 ⊢
  clear hW0
  refine (szGateTeamS_any _ _ ts _ _ (HT.out.mono hB0) (by omega) (by omega)).mono ?_
  rintro e w1 ⟨rfl, hb⟩
  have hX1 := box_later hX0 zX0 hb
  have zX1 := Nat.lt_of_lt_of_le zX0 hb.size
  have hB1 := hB0.trans (hb.mono hB0.size)
  clear hb hX0 zX0 hB0
  by_cases hsz : (tmsSz ts : Int) ≤ 1048576
  rotate_left
  · rw [szRes_no (by omega)]
    go_wp2_with fail
    go_ret
    exact ⟨rfl, hB1⟩
  have HLT : Hid (ts.length ≤ 1048576) := by unfold tmsSz at hsz; show _ ≤ _; omega
  have hneg : decide (1048576 - (tmsSz ts : Int) < 0) = false := by simp; omega
  rw [szRes_yes hsz]
  go_wp2_with fail
  refine (szGateRuleS_any _ _ rs _ _ (HR.out.mono hB1) (by omega) (by omega)).mono ?_
  rintro e w2 ⟨rfl, hb⟩
  have hX2 := box_later hX1 zX1 hb
  have zX2 := Nat.lt_of_lt_of_le zX1 hb.size
  have hB2 := hB1.trans (hb.mono hB1.size)
  clear hb hX1 zX1 hB1
  by_cases hsr : (rlsSz rs : Int) ≤ 1048576 - (tmsSz ts : Int)
  rotate_left
  · rw [szRes_no (by omega)]
    go_wp2_with fail
    go_ret
    exact ⟨rfl, hB2⟩
  have HLS : Hid (rs.length ≤ 1048576 ∧ ∀ i (h : i < rs.length), rs[i].vs.length ≤ 1048576) := rls_few hsr (by omega)
  have hneg2 : decide (1048576 - (tmsSz ts : Int) - (rlsSz rs : Int) < 0) = false := by simp; omega
  rw [szRes_yes hsr]
  go_wp2_with fail
  refine (szGateRule_any r _ _ _ _ HM.out HI.out.len (by omega) (by omega)).mono ?_
  rintro e w3 ⟨rfl, hb⟩
  have hX3 := box_later hX2 zX2 hb
  have zX3 := Nat.lt_of_lt_of_le zX2 hb.size
  have hB3 := hB2.trans (hb.mono hB2.size)
  clear hb hX2 zX2 hB2
  by_cases hsx : (r.sz : Int) ≤ 1048576 - (tmsSz ts : Int) - (rlsSz rs : Int)
  rotate_left
  · rw [szRes_no (by omega)]
    go_wp2_with fail
    go_ret
    exact ⟨rfl, hB3⟩
  have HLR : Hid (r.vs.length ≤ 1048576) := by unfold Rl.sz at hsx; show _ ≤ _; omega
  have hneg3 : decide (1048576 - (tmsSz ts : Int) - (rlsSz rs : Int) - (r.sz : Int) < 0) = false := by simp; omega
  rw [szRes_yes hsx]
  go_wp2_with fail
  have hX := hX3
  have zX := zX3
  have HBB : Hid (Below w.heap.size w w3) := hB3
  clear hX3 zX3 hB3
  have hS3 : Below w3.heap.size w3 w3.drew := (Below.refl _ _).drew
  have hXc := box_later hX zX hS3
  have zXc : w.heap.size < w3.drew.heap.size := zX
  refine region_cut (fun A A' w' => ∃ u31 u32 u33 u34 u35 u36 u37 u30 u38 u39 P x ok, A' = ((((((((((((A.put (some 31) u31).put (some 32) u32).put (some 33) u33).put (some 34) u34).put (some 35) u35).put (some 36) u36).put (some 37) u37).put (some 30) u30).put (some 38) u38).put (some 39) u39).put (some 8) (.pointer (some ⟨P, 0, none⟩))).put (some 9) (.bool ok)) ∧ w3.heap.size ≤ P ∧ w'.heap[P]? = some (.cells #[.int .i64 x.vb, .string x.kd, .string x.tm, .string x.nm] 31) ∧ Gate.UPost ts rs r x ok ∧ Below w3.heap.size w3 w') ?_ ?_
  · go_region_held3 (fun w' => (∀ j, w'.cell? ⟨w.heap.size, j, none⟩ = (#[.slice a r.vs.length cap, .string r.kd, .string r.tm, .string r.px] : Array Value)[j]?)) (first | (intro j; rw [hXc]) | (intro j; rw [cell_alloc_old zXc, hXc]) | (intro j; rw [cell_set4 hnX, hXc]) | (intro j; rw [cell_alloc_drew zX, hX])) (first
      | (go_at_call 9; refine (toGateTeamS_any _ _ ts _ (HT.out.mono (by first | exact HBB.out.trans (hS3.mono HBB.out.size) | exact HBB.out.trans ((hS3.alloc hS3.size _).mono HBB.out.size) | exact HBB.out.trans ((((Below.refl w3.heap.size w3).alloc (Nat.le_refl _) (.cells #[.int .i64 0, .string ByteArray.empty, .string ByteArray.empty, .string ByteArray.empty] 31)).drew).mono HBB.out.size))) HLT.out).mono ?_; rintro e w4 ⟨rfl, hown, hb⟩; have htN := hown.at HTS.out.1 HTS.out.2; clear hown; (try simp at htN); (first | (have hN := hS3.trans (hb.mono hS3.size); (try have HZ := zero_next HZ hb)) | (have hA := hS3.alloc hS3.size (.cells #[.int .i64 0, .string ByteArray.empty, .string ByteArray.empty, .string ByteArray.empty] 31); have hN := hA.trans (hb.mono hA.size); have hlZ := hS3.size; have HZ := zero_new hb; clear hA) | (have hA := ((Below.refl w3.heap.size w3).alloc (Nat.le_refl _) (.cells #[.int .i64 0, .string ByteArray.empty, .string ByteArray.empty, .string ByteArray.empty] 31)).drew; have hN := hA.trans (hb.mono hA.size); have hlZ := Nat.le_refl w3.heap.size; have HZ := zero_new' hb; clear hA)); (try have hZc := blk_cells HZ.out); (try have hZf := blk_frozen HZ.out); have hS3 := hN; have hXc := box_later hX zX hS3; have zXc := Nat.lt_of_lt_of_le zX hS3.size; (try have hnX := Nat.ne_of_lt (Nat.lt_of_lt_of_le zX hlZ)); clear hN hb; have ht := htN; clear htN)
      | (go_at_call 10; refine (toGateRuleS_any _ _ rs _ (HR.out.mono (by first | exact HBB.out.trans (hS3.mono HBB.out.size) | exact HBB.out.trans ((hS3.alloc hS3.size _).mono HBB.out.size) | exact HBB.out.trans ((((Below.refl w3.heap.size w3).alloc (Nat.le_refl _) (.cells #[.int .i64 0, .string ByteArray.empty, .string ByteArray.empty, .string ByteArray.empty] 31)).drew).mono HBB.out.size))) HLS.out.1 HLS.out.2).mono ?_; rintro e w4 ⟨rfl, hown, hb⟩; have hrsN := hown.at HRS.out.1 HRS.out.2; clear hown; (try simp at hrsN); have ht := (by first | exact ht.mono hb | exact (ht.mono ((Below.refl _ _).alloc (Nat.le_refl _) _)).mono hb : TmsAt w4 _ ts); (first | (have hN := hS3.trans (hb.mono hS3.size); (try have HZ := zero_next HZ hb)) | (have hA := hS3.alloc hS3.size (.cells #[.int .i64 0, .string ByteArray.empty, .string ByteArray.empty, .string ByteArray.empty] 31); have hN := hA.trans (hb.mono hA.size); have hlZ := hS3.size; have HZ := zero_new hb; clear hA) | (have hA := ((Below.refl w3.heap.size w3).alloc (Nat.le_refl _) (.cells #[.int .i64 0, .string ByteArray.empty, .string ByteArray.empty, .string ByteArray.empty] 31)).drew; have hN := hA.trans (hb.mono hA.size); have hlZ := Nat.le_refl w3.heap.size; have HZ := zero_new' hb; clear hA)); (try have hZc := blk_cells HZ.out); (try have hZf := blk_frozen HZ.out); have hS3 := hN; have hXc := box_later hX zX hS3; have zXc := Nat.lt_of_lt_of_le zX hS3.size; (try have hnX := Nat.ne_of_lt (Nat.lt_of_lt_of_le zX hlZ)); clear hN hb; have hrs := hrsN; clear hrsN)
      | (go_at_call 11; refine (toGateRule_any r _ _ _ (HI.out.mono (by first | exact HBB.out.trans (hS3.mono HBB.out.size) | exact HBB.out.trans ((hS3.alloc hS3.size _).mono HBB.out.size) | exact HBB.out.trans ((((Below.refl w3.heap.size w3).alloc (Nat.le_refl _) (.cells #[.int .i64 0, .string ByteArray.empty, .string ByteArray.empty, .string ByteArray.empty] 31)).drew).mono HBB.out.size))) HLR.out).mono ?_; rintro e w4 ⟨bk3, rfl, hlo, hhi, hbk, hb⟩; unfold Rl.cells; have hriN := heap_ints hbk HI.out.len; clear hlo hhi hbk; (try simp at hriN); have ht := (by first | exact ht.mono hb | exact (ht.mono ((Below.refl _ _).alloc (Nat.le_refl _) _)).mono hb : TmsAt w4 _ ts); have hrs := (by first | exact hrs.mono hb | exact (hrs.mono ((Below.refl _ _).alloc (Nat.le_refl _) _)).mono hb : RlsAt w4 _ rs); (first | (have hN := hS3.trans (hb.mono hS3.size); (try have HZ := zero_next HZ hb)) | (have hA := hS3.alloc hS3.size (.cells #[.int .i64 0, .string ByteArray.empty, .string ByteArray.empty, .string ByteArray.empty] 31); have hN := hA.trans (hb.mono hA.size); have hlZ := hS3.size; have HZ := zero_new hb; clear hA) | (have hA := ((Below.refl w3.heap.size w3).alloc (Nat.le_refl _) (.cells #[.int .i64 0, .string ByteArray.empty, .string ByteArray.empty, .string ByteArray.empty] 31)).drew; have hN := hA.trans (hb.mono hA.size); have hlZ := Nat.le_refl w3.heap.size; have HZ := zero_new' hb; clear hA)); (try have hZc := blk_cells HZ.out); (try have hZf := blk_frozen HZ.out); have hS3 := hN; have hXc := box_later hX zX hS3; have zXc := Nat.lt_of_lt_of_le zX hS3.size; (try have hnX := Nat.ne_of_lt (Nat.lt_of_lt_of_le zX hlZ)); clear hN hb; have hri := hriN; clear hriN)
      | (go_at_call 8; refine (specUncovered_any _ _ ts _ _ rs r _ _ _ (by first | exact ht | exact ht.mono ((Below.refl _ _).alloc (Nat.le_refl _) _)) (by first | exact hrs | exact hrs.mono ((Below.refl _ _).alloc (Nat.le_refl _) _)) HM.out (by first | exact hri | exact hri.mono ((Below.refl _ _).alloc (Nat.le_refl _) _)) HLT.out HLS.out.1).mono ?_; rintro e w4 ⟨x, ok, rfl, hu, hb⟩; unfold Ac.cells; clear ht hrs hri; (first | (have hN := hS3.trans (hb.mono hS3.size); (try have HZ := zero_next HZ hb)) | (have hA := hS3.alloc hS3.size (.cells #[.int .i64 0, .string ByteArray.empty, .string ByteArray.empty, .string ByteArray.empty] 31); have hN := hA.trans (hb.mono hA.size); have hlZ := hS3.size; have HZ := zero_new hb; clear hA) | (have hA := ((Below.refl w3.heap.size w3).alloc (Nat.le_refl _) (.cells #[.int .i64 0, .string ByteArray.empty, .string ByteArray.empty, .string ByteArray.empty] 31)).drew; have hN := hA.trans (hb.mono hA.size); have hlZ := Nat.le_refl w3.heap.size; have HZ := zero_new' hb; clear hA)); (try have hZc := blk_cells HZ.out); (try have hZf := blk_frozen HZ.out); have hS3 := hN; have hXc := box_later hX zX hS3; have zXc := Nat.lt_of_lt_of_le zX hS3.size; (try have hnX := Nat.ne_of_lt (Nat.lt_of_lt_of_le zX hlZ)); clear hN hb))
    · exact ⟨rfl, _, _, _, _, _, _, _, _, _, _, _, _, _, rfl, hS3.size, alloc_at _ _, hu, hS3.alloc hS3.size _⟩
    all_goals exact ⟨rfl, _, _, _, _, _, _, _, _, _, _, _, _, _, rfl, hlZ, set4_at HZ.out _ _ _ _, hu, act4_below hS3 hlZ _ _ _ _⟩
  rintro A' w4 ⟨u31, u32, u33, u34, u35, u36, u37, u30, u38, u39, P, x, ok, rfl, hbP, hKP, hPP, hb⟩
  simp only [Act.put, List.setIfInBounds_toArray, List.set_cons_zero, List.set_cons_succ]
  have hX4 := box_later hX zX hb
  have zX4 := Nat.lt_of_lt_of_le zX hb.size
  have hB4 := HBB.out.trans (hb.mono HBB.out.size)
  have hP4 := blk_cells hKP
  have zP4 : P < w4.heap.size := (Array.getElem?_eq_some_iff.1 hKP).1
  clear HBB hS3 hb hKP hX zX hXc zXc
  have HU : Hid (Gate.UPost ts rs r x ok) := hPP
  clear hPP hbP
  go_wp2_with fail
  refine (toGateTeamS_any _ _ ts _ (HT.out.mono hB4) HLT.out).mono ?_
  rintro e w5 ⟨rfl, hown, hb⟩
  have kt5 := hown.at HTS.out.1 HTS.out.2
  have hX5 := box_later hX4 zX4 hb
  have zX5 := Nat.lt_of_lt_of_le zX4 hb.size
  have hP5 := box_later hP4 zP4 hb
  have zP5 := Nat.lt_of_lt_of_le zP4 hb.size
  have hB5 := hB4.trans (hb.mono hB4.size)
  clear hb hX4 zX4 hP4 zP4 hB4 hown
  go_wp2_with fail
  refine (toGateRuleS_any _ _ rs _ (HR.out.mono hB5) HLS.out.1 HLS.out.2).mono ?_
  rintro e w6 ⟨rfl, hown, hb⟩
  have kr6 := hown.at HRS.out.1 HRS.out.2
  have hX6 := box_later hX5 zX5 hb
  have zX6 := Nat.lt_of_lt_of_le zX5 hb.size
  have hP6 := box_later hP5 zP5 hb
  have zP6 := Nat.lt_of_lt_of_le zP5 hb.size
  have kt6 := kt5.mono hb
  have hB6 := hB5.trans (hb.mono hB5.size)
  clear hb hX5 zX5 hP5 zP5 kt5 hB5 hown
  go_wp2_with fail
  refine (toGateRule_any r _ _ _ (HI.out.mono hB6) HLR.out).mono ?_
  rintro e w7 ⟨bk, rfl, hlo, hhi, hbk, hb⟩
  have ki7 := heap_ints hbk HI.out.len
  have hX7 := box_later hX6 zX6 hb
  have zX7 := Nat.lt_of_lt_of_le zX6 hb.size
  have hP7 := box_later hP6 zP6 hb
  have zP7 := Nat.lt_of_lt_of_le zP6 hb.size
  have kt7 := kt6.mono hb
  have kr7 := kr6.mono hb
  have hB7 := hB6.trans (hb.mono hB6.size)
  clear hb hX6 zX6 hP6 zP6 kt6 kr6 hB6 hlo hhi hbk
  unfold Rl.cells
  go_wp2_with fail
  have hb : Below w7.heap.size w7 (w7.alloc (.cells #[.slice (some ⟨bk, 0, none⟩) r.vs.length r.vs.length, .string r.kd, .string r.tm, .string r.px] 38)) := (Below.refl _ _).alloc (Nat.le_refl _) _
  have hN := box_new w7 #[.slice (some ⟨bk, 0, none⟩) r.vs.length r.vs.length, .string r.kd, .string r.tm, .string r.px] 38
  obtain ⟨w8, hN0⟩ : ∃ w8, w8 = w7.alloc (.cells #[.slice (some ⟨bk, 0, none⟩) r.vs.length r.vs.length, .string r.kd, .string r.tm, .string r.px] 38) := ⟨_, rfl⟩
  have hNz : w7.heap.size < w8.heap.size := by rw [hN0]; simp
  rw [← hN0] at hb hN ⊢
  clear hN0
  have hX8 := box_later hX7 zX7 hb
  have zX8 := Nat.lt_of_lt_of_le zX7 hb.size
  have hP8 := box_later hP7 zP7 hb
  have zP8 := Nat.lt_of_lt_of_le zP7 hb.size
  have kt8 := kt7.mono hb
  have kr8 := kr7.mono hb
  have ki8 := ki7.mono hb
  have hB8 := hB7.trans (hb.mono hB7.size)
  clear hb hX7 zX7 hP7 zP7 kt7 kr7 ki7 hB7
  have hV8 := hN
  have zV8 := hNz
  clear hN hNz
  refine (implUncovered_any _ _ ts _ _ rs r _ _ _ kt8 kr8 HM.out ki8 (HTB.out.mono hB8) HLT.out HLS.out.1).mono ?_
  rintro e w9 ⟨y, ok2, rfl, hu2, hb⟩
  have hX9 := box_later hX8 zX8 hb
  have zX9 := Nat.lt_of_lt_of_le zX8 hb.size
  have hP9 := box_later hP8 zP8 hb
  have zP9 := Nat.lt_of_lt_of_le zP8 hb.size
  have hV9 := box_later hV8 zV8 hb
  have zV9 := Nat.lt_of_lt_of_le zV8 hb.size
  have kt9 := kt8.mono hb
  have kr9 := kr8.mono hb
  have ki9 := ki8.mono hb
  have hB9 := hB8.trans (hb.mono hB8.size)
  clear hb hX8 zX8 hP8 zP8 hV8 zV8 kt8 kr8 ki8 hB8
  obtain ⟨hxy, hok⟩ := hu2.one HU.out
  subst hxy
  subst hok
  clear hu2 HU
  unfold Ac.cells
  go_wp2_with fail
  have hb : Below w9.heap.size w9 (w9.alloc (.cells #[.int .i64 y.vb, .string y.kd, .string y.tm, .string y.nm] 31)) := (Below.refl _ _).alloc (Nat.le_refl _) _
  have hN := box_new w9 #[.int .i64 y.vb, .string y.kd, .string y.tm, .string y.nm] 31
  obtain ⟨wA, hN0⟩ : ∃ wA, wA = w9.alloc (.cells #[.int .i64 y.vb, .string y.kd, .string y.tm, .string y.nm] 31) := ⟨_, rfl⟩
  have hNz : w9.heap.size < wA.heap.size := by rw [hN0]; simp
  rw [← hN0] at hb hN ⊢
  clear hN0
  have hX10 := box_later hX9 zX9 hb
  have zX10 := Nat.lt_of_lt_of_le zX9 hb.size
  have hP10 := box_later hP9 zP9 hb
  have zP10 := Nat.lt_of_lt_of_le zP9 hb.size
  have hV10 := box_later hV9 zV9 hb
  have zV10 := Nat.lt_of_lt_of_le zV9 hb.size
  have kt10 := kt9.mono hb
  have kr10 := kr9.mono hb
  have ki10 := ki9.mono hb
  have hB10 := hB9.trans (hb.mono hB9.size)
  clear hb hX9 zX9 hP9 zP9 hV9 zV9 kt9 kr9 ki9 hB9
  have hG10 := hN
  have zG10 := hNz
  clear hN hNz
  have hnn : (ok2 != ok2) = false := by cases ok2 <;> rfl
  refine (eqGateAct_yes y _).mono ?_
  rintro e wB ⟨rfl, hb⟩
  have hX11 := box_later hX10 zX10 hb
  have zX11 := Nat.lt_of_lt_of_le zX10 hb.size
  have hP11 := box_later hP10 zP10 hb
  have zP11 := Nat.lt_of_lt_of_le zP10 hb.size
  have hV11 := box_later hV10 zV10 hb
  have zV11 := Nat.lt_of_lt_of_le zV10 hb.size
  have hG11 := box_later hG10 zG10 hb
  have zG11 := Nat.lt_of_lt_of_le zG10 hb.size
  have kt11 := kt10.mono hb
  have kr11 := kr10.mono hb
  have ki11 := ki10.mono hb
  have hB11 := hB10.trans (hb.mono hB10.size)
  clear hb hX10 zX10 hP10 zP10 hV10 zV10 hG10 zG10 kt10 kr10 ki10 hB10
  clear hP11 zP11
  clear hG11 zG11
  go_wp2_with fail
  refine (toGateTeamS_any _ _ ts _ (HT.out.mono hB11) HLT.out).mono ?_
  rintro e wC ⟨rfl, hown, hb⟩
  have kt212 := hown.at HTS.out.1 HTS.out.2
  have hX12 := box_later hX11 zX11 hb
  have zX12 := Nat.lt_of_lt_of_le zX11 hb.size
  have hV12 := box_later hV11 zV11 hb
  have zV12 := Nat.lt_of_lt_of_le zV11 hb.size
  have kt12 := kt11.mono hb
  have kr12 := kr11.mono hb
  have ki12 := ki11.mono hb
  have hB12 := hB11.trans (hb.mono hB11.size)
  clear hb hX11 zX11 hV11 zV11 kt11 kr11 ki11 hB11 hown
  go_wp2_with fail
  refine (eqGateTeamS_yes _ _ _ _ ts _ kt12 kt212).mono ?_
  rintro e wD ⟨rfl, hb⟩
  have hX13 := box_later hX12 zX12 hb
  have zX13 := Nat.lt_of_lt_of_le zX12 hb.size
  have hV13 := box_later hV12 zV12 hb
  have zV13 := Nat.lt_of_lt_of_le zV12 hb.size
  have kt13 := kt12.mono hb
  have kr13 := kr12.mono hb
  have ki13 := ki12.mono hb
  have kt213 := kt212.mono hb
  have hB13 := hB12.trans (hb.mono hB12.size)
  clear hb hX12 zX12 hV12 zV12 kt12 kr12 ki12 kt212 hB12
  clear kt13
  clear kt213
  go_wp2_with fail
  refine (toGateRuleS_any _ _ rs _ (HR.out.mono hB13) HLS.out.1 HLS.out.2).mono ?_
  rintro e wE ⟨rfl, hown, hb⟩
  have kr214 := hown.at HRS.out.1 HRS.out.2
  have hX14 := box_later hX13 zX13 hb
  have zX14 := Nat.lt_of_lt_of_le zX13 hb.size
  have hV14 := box_later hV13 zV13 hb
  have zV14 := Nat.lt_of_lt_of_le zV13 hb.size
  have kr14 := kr13.mono hb
  have ki14 := ki13.mono hb
  have hB14 := hB13.trans (hb.mono hB13.size)
  clear hb hX13 zX13 hV13 zV13 kr13 ki13 hB13 hown
  go_wp2_with fail
  refine (eqGateRuleS_yes _ _ _ _ rs _ kr14 kr214).mono ?_
  rintro e wF ⟨rfl, hb⟩
  have hX15 := box_later hX14 zX14 hb
  have zX15 := Nat.lt_of_lt_of_le zX14 hb.size
  have hV15 := box_later hV14 zV14 hb
  have zV15 := Nat.lt_of_lt_of_le zV14 hb.size
  have kr15 := kr14.mono hb
  have ki15 := ki14.mono hb
  have kr215 := kr214.mono hb
  have hB15 := hB14.trans (hb.mono hB14.size)
  clear hb hX14 zX14 hV14 zV14 kr14 ki14 kr214 hB14
  clear kr15
  clear kr215
  go_wp2_with fail
  have hX := box_later hX15 zX15 (Below.refl wF.heap.size wF).drew
  have zX : w.heap.size < wF.drew.heap.size := zX15
  have hV := box_later hV15 zV15 (Below.refl wF.heap.size wF).drew
  have zV : w7.heap.size < wF.drew.heap.size := zV15
  have ki := ki15.mono (Below.refl wF.heap.size wF).drew
  have hB := hB15.drew
  clear hX15 zX15 hV15 zV15 ki15 hB15
  go_region_held3 (fun w' => (∀ j, w'.cell? ⟨w.heap.size, j, none⟩ = (#[.slice a r.vs.length cap, .string r.kd, .string r.tm, .string r.px] : Array Value)[j]?) ∧ (∀ j, w'.cell? ⟨w7.heap.size, j, none⟩ = (#[.slice (some ⟨bk, 0, none⟩) r.vs.length r.vs.length, .string r.kd, .string r.tm, .string r.px] : Array Value)[j]?)) (exact ⟨hX, hV⟩) (first
    | (go_at_call 11; refine (toGateRule_any r _ _ _ (by exact HI.out.mono hB) HLR.out).mono ?_; rintro e wG ⟨bk2, rfl, hlo, hhi, hbk, hb⟩; unfold Rl.cells; have ki2 := heap_ints hbk HI.out.len; clear hlo hhi hbk; have hX := box_later hX zX hb; have hV := box_later hV zV hb; have ki := ki.mono hb; have hB := hB.trans (hb.mono hB.size); have zX := Nat.lt_of_lt_of_le zX hb.size; have zV := Nat.lt_of_lt_of_le zV hb.size; clear hb)
    | (go_at_call 16; refine (eqGateRule_yes r _ _ _ _ _ (by exact ki) (by exact ki2)).mono ?_; rintro e wG ⟨rfl, hb⟩; clear ki2; have hX := box_later hX zX hb; have hV := box_later hV zV hb; have ki := ki.mono hb; have hB := hB.trans (hb.mono hB.size); have zX := Nat.lt_of_lt_of_le zX hb.size; have zV := Nat.lt_of_lt_of_le zV hb.size; clear hb))
  have hX16 := hX
  have zX16 := zX
  have hV16 := hV
  have zV16 := zV
  have ki16 := ki
  have hB16 := hB
  clear hX zX hV zV ki hB
  go_wp2_with fail
  go_ret
  exact ⟨rfl, hB16⟩

end Go.Proofs.YtoadlpdnpijnbaaDoor

namespace Go.Proofs.YtoadlpdnpijnbaaDoor
open Go.ChangeShapes Go.WideShapes Go.ChangeAt Go.RowKit

section
variable {H : Type} {enc : TypeId × Value → H} {P : Program} {w : World} {base : Nat} {spare : Nat → Bool} {held : Bool}

theorem addr_of_cell {a : Addr} {v : Value} (h : w.cell? a = some v) : a = ⟨a.block, a.off, none⟩ ∧ a.block < w.heap.size := by
  obtain ⟨b, o, s⟩ := a
  unfold World.cell? at h
  cases hb : w.heap[b]? with
  | none => simp [hb] at h
  | some x =>
    have hlt := (Array.getElem?_eq_some_iff.1 hb).1
    cases s with
    | none => exact ⟨rfl, hlt⟩
    | some k => cases x <;> simp [hb] at h

theorem read_strs {t e : TypeId} {fuel : Nat} {cs : List Value} {x : DataW H × List MemPlace} (ht : P.underlying t = some (.slice e)) (he : P.underlying e = some .string) (hc : P.cellsOf e = 1)
    (h : DataW.trod enc P w base spare held fuel t cs = some x) : ∃ a cap ws, cs = [.slice a ws.length cap] ∧ StrsAt w a ws := by
  rcases open_strings ht he hc h with ⟨rfl, _⟩ | ⟨a, len, cap, ss, rfl, _, hl, hm, hz, _, hcell, hws⟩
  · exact ⟨none, 0, [], rfl, ⟨by simp [maxLen], by simp, fun h => absurd rfl h⟩⟩
  · have hle : len ≤ ss.length := by rw [hz]; split <;> omega
    have hlen : (ss.take len).length = len := by rw [List.length_take]; omega
    refine ⟨some a, cap, ss.take len, by rw [hlen], ⟨by rw [hlen]; omega, fun s hs => hws s (List.mem_of_mem_take hs), fun hne => ?_⟩⟩
    have hpos : 0 < len := by
      rcases Nat.eq_zero_or_pos len with h0 | h0
      · rw [h0] at hne; simp at hne
      · exact h0
    have h0 := hcell 0 (by omega)
    obtain ⟨ha, hb⟩ := addr_of_cell h0
    simp only [Addr.add, if_true] at ha hb
    refine ⟨a.block, a.off, by rw [← ha], hb, fun i hi => ?_⟩
    have hi' : i < len := by omega
    have h1 := hcell i (by omega)
    have e1 : a.add i = ⟨a.block, a.off + i, none⟩ := by
      unfold Addr.add; split
      · rename_i h; subst h; simpa using ha
      · rfl
    rw [e1] at h1
    rw [h1, List.getElem_take, List.getD_eq_getElem?_getD, List.getElem?_eq_getElem (by omega)]
    rfl

theorem field_read {t : TypeId} {fs : Array Field} {fuel : Nat} {cs : List Value} {x : DataW H × List MemPlace} (ht : P.underlying t = some (.struct fs)) (h : DataW.trod enc P w base spare held fuel t cs = some x)
    (i : Nat) (f : Field) (hf : fs[i]? = some f) : ∃ n y, DataW.trod enc P w base spare held n f.type ((cs.drop f.offset).take (P.cellsOf f.type)) = some y := by
  obtain ⟨xs, n, _, _, _, hxl, hall⟩ := DataW.trod_struct ht h
  have hi : i < fs.size := (Array.getElem?_eq_some_iff.1 hf).1
  exact ⟨n, xs[i]'(by omega), by rw [hall i f hf, List.getElem?_eq_getElem (by omega)]⟩

/-- A field of one cell, read. -/
theorem field_one {t : TypeId} {fs : Array Field} {fuel : Nat} {cs : List Value} {x : DataW H × List MemPlace} (ht : P.underlying t = some (.struct fs)) (h : DataW.trod enc P w base spare held fuel t cs = some x)
    (i tf off : Nat) (c : Value) (hf : (fs[i]?).map (fun f => (f.type, f.offset)) = some (tf, off)) (hone : P.cellsOf tf = 1) (hc : cs[off]? = some c) : ∃ n y, DataW.trod enc P w base spare held n tf [c] = some y := by
  obtain ⟨f, hf1, hf2⟩ := Option.map_eq_some_iff.1 hf
  simp only [Prod.mk.injEq] at hf2
  obtain ⟨rfl, rfl⟩ := hf2
  obtain ⟨n, y, hy⟩ := field_read ht h i f hf1
  rw [hone] at hy
  obtain ⟨hlt, hget⟩ := List.getElem?_eq_some_iff.1 hc
  rw [List.drop_eq_getElem_cons hlt, hget] at hy
  exact ⟨n, y, hy⟩

end

theorem list_of {α : Type} {P : Nat → α → Prop} : ∀ n : Nat, (∀ i, i < n → ∃ x, P i x) → ∃ l : List α, l.length = n ∧ ∀ i (h : i < l.length), P i l[i]
  | 0, _ => ⟨[], rfl, fun i h => absurd h (by simp)⟩
  | n + 1, h => by
    obtain ⟨l, hl, hP⟩ := list_of n (fun i hi => h i (by omega))
    obtain ⟨x, hx⟩ := h n (by omega)
    refine ⟨l ++ [x], by simp [hl], fun i hi => ?_⟩
    rcases Nat.lt_or_ge i n with h1 | h1
    · rw [List.getElem_append_left (by omega)]; exact hP i (by omega)
    · have e : i = n := by simp at hi; omega
      subst e
      rw [List.getElem_append_right (by omega)]
      simpa [hl] using hx

theorem add_add (b o m j : Nat) : ((⟨b, o, none⟩ : Addr).add m).add j = ⟨b, o + m + j, none⟩ := by
  unfold Addr.add
  by_cases h1 : m = 0 <;> by_cases h2 : j = 0 <;> simp [h1, h2]

section
variable {H : Type} {enc : TypeId × Value → H} {P : Program} {w : World} {base : Nat} {spare : Nat → Bool} {held : Bool}

/-- A slice of rows of sz cells, read: nil, or where it lies and what each row reads as. -/
theorem read_rows {t e : TypeId} {sz fuel : Nat} {cs : List Value} {x : DataW H × List MemPlace} (ht : P.underlying t = some (.slice e)) (hsz : P.cellsOf e = sz) (hpos : 0 < sz)
    (h : DataW.trod enc P w base spare held fuel t cs = some x) :
    ∃ a len cap, cs = [.slice a len cap] ∧ len ≤ maxLen ∧ (0 < len → ∃ b off, a = some ⟨b, off, none⟩ ∧ b < w.heap.size ∧
      ∀ i, i < len → ∃ es n y, es.length = sz ∧ (∀ j, j < sz → w.cell? ⟨b, off + i * sz + j, none⟩ = es[j]?) ∧ DataW.trod enc P w base spare held n e es = some y) := by
  rcases DataW.trod_slice ht h with ⟨rfl, _⟩ | ⟨a, len, cap, elems, rest, n, _, rfl, _, hb, hl, hm, hlen, hel, _, _⟩
  · exact ⟨none, 0, 0, rfl, by simp [maxLen], fun h => absurd h (by omega)⟩
  · refine ⟨some a, len, cap, rfl, by omega, fun hp => ?_⟩
    have each : ∀ i, i < len → ∃ es y, w.cells? base (a.add (i * sz)) sz = some es ∧ DataW.trod enc P w base spare held n e es = some y := by
      intro i hi
      have h1 := hel i hi
      rw [hsz, List.getElem?_eq_getElem (by omega), Option.bind_eq_some_iff] at h1
      obtain ⟨es, h2, h3⟩ := h1
      exact ⟨es, _, h2, h3⟩
    obtain ⟨es0, y0, hc0, _⟩ := each 0 hp
    obtain ⟨_, _, hcell0⟩ := World.cells?_some hc0
    have h00 := hcell0 0 hpos
    have hes0 : ∃ v, w.cell? a = some v := by
      have hl0 := (World.cells?_some hc0).2.1
      refine ⟨es0[0]'(by omega), ?_⟩
      have := h00
      simp only [Nat.zero_mul, Addr.add, if_true] at this
      rw [this, List.getElem?_eq_getElem (by omega)]
    obtain ⟨v0, hv0⟩ := hes0
    obtain ⟨ha, hbl⟩ := addr_of_cell hv0
    refine ⟨a.block, a.off, by rw [← ha], hbl, fun i hi => ?_⟩
    obtain ⟨es, y, hc, hy⟩ := each i hi
    obtain ⟨_, hlen', hcell⟩ := World.cells?_some hc
    refine ⟨es, n, y, hlen', fun j hj => ?_, hy⟩
    have e1 : (a.add (i * sz)).add j = ⟨a.block, a.off + i * sz + j, none⟩ := by
      have := add_add a.block a.off (i * sz) j
      rwa [← ha] at this
    rw [← e1]
    exact hcell j hj

end

theorem Tryd.cellsString : Tryd.prog.cellsOf 9 = 1 := by kernel_rfl
theorem Tryd.cellsInt : Tryd.prog.cellsOf 3 = 1 := by kernel_rfl
theorem Tryd.cellsBool : Tryd.prog.cellsOf 4 = 1 := by kernel_rfl

end Go.Proofs.YtoadlpdnpijnbaaDoor

namespace Go.Proofs.YtoadlpdnpijnbaaDoor
open Go.ChangeShapes Go.WideShapes Go.ChangeAt Go.RowKit

theorem Tryd.cellsTeam : Tryd.prog.cellsOf 56 = 2 := by kernel_rfl

section
variable {H : Type} {enc : TypeId × Value → H} {w : World} {base : Nat} {spare : Nat → Bool} {held : Bool}

theorem read_team {fuel : Nat} {cs : List Value} {x : DataW H × List MemPlace} (h : DataW.trod enc Tryd.prog w base spare held fuel 56 cs = some x) :
    ∃ m : Tm, cs = m.cells.toList ∧ m.Small := by
  have hlen : cs.length = 2 := by
    obtain ⟨_, _, _, _, hl, _, _⟩ := DataW.trod_struct Tryd.underlying56 h
    rw [hl]; exact Tryd.cellsTeam
  match cs, hlen with
  | [c0, c1], _ =>
    have hf := field_one Tryd.underlying56 h
    obtain ⟨_, _, f0⟩ := hf 0 9 0 c0 rfl Tryd.cellsString rfl
    obtain ⟨_, _, f1⟩ := hf 1 9 1 c1 rfl Tryd.cellsString rfl
    obtain ⟨x0, e0, _, s0⟩ := DataW.trod_string Tryd.underlying9 f0
    obtain ⟨x1, e1, _, s1⟩ := DataW.trod_string Tryd.underlying9 f1
    simp only [List.cons.injEq, and_true] at e0 e1
    subst e0 e1
    exact ⟨⟨x0, x1⟩, rfl, s0, s1⟩

theorem read_teams {fuel : Nat} {cs : List Value} {x : DataW H × List MemPlace} (h : DataW.trod enc Tryd.prog w base spare held fuel 22 cs = some x) :
    ∃ a cap ts, cs = [.slice a (List.length ts) cap] ∧ TmsAt w a ts := by
  obtain ⟨a, len, cap, rfl, hm, hr⟩ := read_rows Tryd.underlying22 Tryd.cellsTeam (by omega) h
  rcases Nat.eq_zero_or_pos len with h0 | hp
  · subst h0
    exact ⟨a, cap, [], rfl, ⟨by simp [maxLen], fun i h => absurd h (by simp), fun h => absurd rfl h⟩⟩
  · obtain ⟨b, off, rfl, hb, hrow⟩ := hr hp
    have hf : ∀ i, i < len → ∃ m : Tm, m.Small ∧ ∀ j, j < 2 → w.cell? ⟨b, off + i * 2 + j, none⟩ = m.cells[j]? := by
      intro i hi
      obtain ⟨es, n, y, hel, hcell, hy⟩ := hrow i hi
      obtain ⟨m, rfl, hs⟩ := read_team hy
      exact ⟨m, hs, fun j hj => by rw [hcell j hj]; simp⟩
    obtain ⟨ms, hl, hms⟩ := list_of len hf
    exact ⟨_, cap, ms, by rw [hl], ⟨by omega, fun i hi => (hms i hi).1, fun _ => ⟨b, off, rfl, hb, fun i hi => (hms i hi).2⟩⟩⟩
end

end Go.Proofs.YtoadlpdnpijnbaaDoor
