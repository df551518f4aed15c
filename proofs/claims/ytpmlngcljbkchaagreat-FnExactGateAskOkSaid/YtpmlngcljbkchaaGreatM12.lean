import Derived.Test.YtpmlngcljbkchaaGreatM10
import Derived.Test.YtpmlngcljbkchaaGreatRows
import Derived.Test.YtpmlngcljbkchaaGreatM01
import Derived.WalkKit
import Derived.WalkSpells
import Derived.WalkLawsBesides
import Derived.Deep.QuietTactic
import Derived.BigQuiet
import Derived.Deep.RegionWith
import Derived.Test.YtpmlngcljbkchaaGreatM06
import Derived.Test.YtpmlngcljbkchaaGreatM11
namespace Go.Proofs.YtpmlngcljbkchaaGreat
open Go.RowKit

def put6 (w : World) (b o : Nat) (v0 v1 v2 v3 v4 v5 : Value) : World := (((((w.setCell ⟨b, o, none⟩ v0).setCell ⟨b, o + 1, none⟩ v1).setCell ⟨b, o + 2, none⟩ v2).setCell ⟨b, o + 3, none⟩ v3).setCell ⟨b, o + 4, none⟩ v4).setCell ⟨b, o + 5, none⟩ v5
def set6 (C : Array Value) (o : Nat) (v0 v1 v2 v3 v4 v5 : Value) : Array Value := (((((C.setIfInBounds o v0).setIfInBounds (o + 1) v1).setIfInBounds (o + 2) v2).setIfInBounds (o + 3) v3).setIfInBounds (o + 4) v4).setIfInBounds (o + 5) v5
theorem put6_block {w : World} {b o : Nat} {C : Array Value} {t : TypeId} (h : w.heap[b]? = some (.cells C t)) (v0 v1 v2 v3 v4 v5 : Value) : (put6 w b o v0 v1 v2 v3 v4 v5).heap[b]? = some (.cells (set6 C o v0 v1 v2 v3 v4 v5) t) :=
  heap_setCell_at (heap_setCell_at (heap_setCell_at (heap_setCell_at (heap_setCell_at (heap_setCell_at h v0) v1) v2) v3) v4) v5
theorem put6_below {B : Nat} {a w : World} (h : Below B a w) {b : Nat} (hb : B ≤ b) (o : Nat) (v0 v1 v2 v3 v4 v5 : Value) : Below B a (put6 w b o v0 v1 v2 v3 v4 v5) :=
  (((((h.setCell hb v0).setCell hb v1).setCell hb v2).setCell hb v3).setCell hb v4).setCell hb v5
theorem set6_size (C : Array Value) (o : Nat) (v0 v1 v2 v3 v4 v5 : Value) : (set6 C o v0 v1 v2 v3 v4 v5).size = C.size := by simp [set6]
theorem set6_out (C : Array Value) (o i : Nat) (v0 v1 v2 v3 v4 v5 : Value) (h : i < o ∨ o + 6 ≤ i) : (set6 C o v0 v1 v2 v3 v4 v5)[i]? = C[i]? := by
  unfold set6
  iterate 6 rw [Array.getElem?_setIfInBounds, if_neg (by omega)]
theorem set6_in (C : Array Value) (o j : Nat) (v0 v1 v2 v3 v4 v5 : Value) (hj : j < 6) (ho : o + 6 ≤ C.size) : (set6 C o v0 v1 v2 v3 v4 v5)[o + j]? = (#[v0, v1, v2, v3, v4, v5] : Array Value)[j]? := by
  have hc : j = 0 ∨ j = 1 ∨ j = 2 ∨ j = 3 ∨ j = 4 ∨ j = 5 := by omega
  unfold set6
  rcases hc with h | h | h | h | h | h <;> subst h <;> simp [Array.getElem?_setIfInBounds] <;> omega

theorem MndsOwn.put {lo : Nat} {w : World} {bo : Nat} {ms : List Mnd} {k : Nat} (h : MndsOwn lo w bo ms k) (hk : k < ms.length) :
    MndsOwn lo (put6 w bo (k * 6) (.string ms[k].kd) (.string ms[k].fd) (.string ms[k].wh) (.string ms[k].wi) (.string ms[k].pt) (.string ms[k].fr)) bo ms (k + 1) := by
  obtain ⟨C, hC, hsz, hr⟩ := h.rows
  refine ⟨h.low, _, put6_block hC _ _ _ _ _ _, by rw [set6_size]; exact hsz, fun i hi hik j hj => ?_⟩
  rcases Nat.lt_or_ge i k with hlt | hge
  · rw [set6_out _ _ _ _ _ _ _ _ _ (by omega)]
    exact hr i hi hlt j hj
  · have e : i = k := by omega
    subst e
    rw [set6_in _ _ _ _ _ _ _ _ _ hj (by omega)]
    rfl

set_option maxHeartbeats 1000000 in
theorem toGateMend_any (m : Mnd) (w : World) :
    Calls Tryz.prog 46 #[.agg m.cells] w fun e w' => e = .returned (.agg m.cells) ∧ Below w.heap.size w w' := by
  unfold Mnd.cells
  go_enter Tryz.func46, Tryz.ntmps46
  go_wp2_with fail
  refine bodyPost_ret (v := .agg #[.string m.kd, .string m.fd, .string m.wh, .string m.wi, .string m.pt, .string m.fr]) (by simp [results, Tryz.results46, go_sem]) rfl ⟨rfl, ?_⟩
  exact ((((Below.refl _ _).alloc (Nat.le_refl _) _).alloc (by simp) _).alloc (by simp; omega) _)

def mndZero : Array Value := #[.string ByteArray.empty, .string ByteArray.empty, .string ByteArray.empty, .string ByteArray.empty, .string ByteArray.empty, .string ByteArray.empty]
def mndsZero (n : Nat) : Array Value := madeCells mndZero (n * 6)

set_option maxHeartbeats 2000000 in
theorem toGateMendS_any (a : Option Addr) (cap : Nat) (ms : List Mnd) (w : World) (hw : MndsAt w a ms) (hl : ms.length ≤ 1048576) :
    Calls Tryz.prog 20 #[.slice a ms.length cap] w fun e w' => e = .returned (.slice (some ⟨w.heap.size, 0, none⟩) ms.length ms.length) ∧ MndsOwn w.heap.size w' w.heap.size ms ms.length ∧ Below w.heap.size w w' := by
  have hmk : ∀ w : World, (Instr.makeSlice 37 (.int .i64 ms.length) (.int .i64 ms.length)).run Tryz.prog w = .ok (.slice (some ⟨w.heap.size, 0, none⟩) ms.length ms.length) (w.alloc (.cells (mndsZero ms.length) 90)) :=
    fun w => run_make_rows (P := Tryz.prog) 37 90 (.agg mndZero) 6 96 Tryz.underlying37 (by kernel_rfl) ms.length (by omega) (by omega) w
  go_enter Tryz.func20, Tryz.ntmps20
  go_wp2_with fail
  clear hmk
  go_loopw [4] (fun i wr => ∃ k : Nat, k ≤ ms.length ∧ i = .int .i64 k ∧ MndsOwn w.heap.size wr w.heap.size ms k ∧ Below w.heap.size w wr) (fun i _ => ms.length - (intOf i).toNat)
  case atStart => exact ⟨0, Nat.zero_le _, rfl, ⟨Nat.le_refl _, mndsZero ms.length, (MapKept.heap_alloc w _).1, size_madeCells _ _, fun i _ h => absurd h (by omega)⟩, (Below.refl _ _).alloc (Nat.le_refl _) _⟩
  case round =>
    obtain ⟨k, hk, rfl, hown, hB⟩ := hrel
    by_cases hlt : k < ms.length
    · obtain ⟨b, off, rfl, hb, c0, c1, c2, c3, c4, c5⟩ := hw.load hB k hlt
      have hltI : (k : Int) < (ms.length : Int) := by omega
      clear hw
      go_wp2_with fail
      refine (toGateMend_any ms[k] _).mono ?_
      rintro e w1 ⟨rfl, hb1⟩
      have hB1 := hB.trans (hb1.mono hB.size)
      have hown1 := hown.later hb1
      have hbo : w.heap.size < wr.heap.size := by
        obtain ⟨C', hC', _⟩ := hown.rows
        exact (Array.getElem?_eq_some_iff.1 hC').1
      obtain ⟨C, hC, hsz, _⟩ := hown1.rows
      have hfz : ∀ o, w1.frozen? ⟨w.heap.size, o, none⟩ = false := fun o => frozen_of_block hC
      have hex : ∀ o, o < ms.length * 6 → ∃ v, w1.cell? ⟨w.heap.size, o, none⟩ = some v := fun o ho => ⟨C[o]'(by omega), by rw [cell_of_block hC]; exact Array.getElem?_eq_getElem (by omega)⟩
      obtain ⟨v0, hv0⟩ := hex (k * 6) (by omega)
      obtain ⟨v1, hv1⟩ := hex (k * 6 + 1) (by omega)
      obtain ⟨v2, hv2⟩ := hex (k * 6 + 2) (by omega)
      obtain ⟨v3, hv3⟩ := hex (k * 6 + 3) (by omega)
      obtain ⟨v4, hv4⟩ := hex (k * 6 + 4) (by omega)
      obtain ⟨v5, hv5⟩ := hex (k * 6 + 5) (by omega)
      have HP : Hid (MndsOwn w.heap.size w1 w.heap.size ms k) := hown1
      clear hex hC hsz c0 c1 c2 c3 c4 c5 hown hown1
      unfold Mnd.cells
      go_wp2_with fail
      exact ⟨⟨k + 1, by omega, by go_num, HP.out.put hlt, put6_below hB1 (Nat.le_refl _) _ _ _ _ _ _ _⟩, by simp [intOf]; omega⟩
    · have HF : Hid (MndsOwn w.heap.size wr w.heap.size ms ms.length) := by
        have e : k = ms.length := by omega
        subst e; exact hown
      clear hw hown
      go_wp2_with fail
      go_ret
      exact ⟨rfl, HF.out, hB⟩

end Go.Proofs.YtpmlngcljbkchaaGreat

namespace Go.Proofs.YtpmlngcljbkchaaGreat
open Go.RowKit

set_option maxHeartbeats 1000000 in
theorem szGateTeam_any (m : Tm) (left : Int) (w : World) (hm : m.Small) (h0 : 0 ≤ left) (h1 : left ≤ 1048576) :
    Calls Tryz.prog 33 #[.agg m.cells, .int .i64 left] w fun e w' => e = .returned (.int .i64 (szRes m.sz left)) ∧ Below w.heap.size w w' := by
  have k1 := hm.nm
  have k2 := hm.ov
  unfold maxLen at k1 k2
  unfold Tm.cells
  have hB : ∀ ob, Below w.heap.size w (w.alloc ob) := fun ob => (Below.refl _ _).alloc (Nat.le_refl _) _
  by_cases hf : (m.sz : Int) ≤ left
  · have HF : Hid (szRes m.sz left = left - m.nm.size - m.ov.size) := by
      unfold Hid; rw [szRes_yes hf]; unfold Tm.sz; omega
    unfold Tm.sz at hf
    go_enter Tryz.func33, Tryz.ntmps33
    go_wp2_with fail
    go_ret
    exact ⟨ret_int HF.out.symm, hB _⟩
  · have HF : Hid (szRes m.sz left = -1) := szRes_no hf
    have HN : Hid (¬ ((m.nm.size + m.ov.size : Nat) : Int) ≤ left) := hf
    clear hf
    go_enter Tryz.func33, Tryz.ntmps33
    go_wp2_with fail
    all_goals go_ret
    all_goals first | exact ⟨ret_int HF.out.symm, hB _⟩ | (exfalso; have := HN.out; simp at *; omega)

theorem szGateTeam_yes (m : Tm) (left : Int) (w : World) (hm : m.Small) (h0 : 0 ≤ left) (h1 : left ≤ 1048576) (h : (m.sz : Int) ≤ left) :
    Calls Tryz.prog 33 #[.agg m.cells, .int .i64 left] w fun e w' => e = .returned (.int .i64 (left - m.sz)) ∧ Below w.heap.size w w' := by
  refine (szGateTeam_any m left w hm h0 h1).mono ?_
  rintro e w' ⟨rfl, hb⟩
  exact ⟨ret_int (szRes_yes h), hb⟩

theorem szGateTeam_no (m : Tm) (left : Int) (w : World) (hm : m.Small) (h0 : 0 ≤ left) (h1 : left ≤ 1048576) (h : ¬ (m.sz : Int) ≤ left) :
    Calls Tryz.prog 33 #[.agg m.cells, .int .i64 left] w fun e w' => e = .returned (.int .i64 (-1)) ∧ Below w.heap.size w w' := by
  refine (szGateTeam_any m left w hm h0 h1).mono ?_
  rintro e w' ⟨rfl, hb⟩
  exact ⟨ret_int (szRes_no h), hb⟩

set_option maxHeartbeats 1000000 in
theorem szGateTeamS_any (a : Option Addr) (cap : Nat) (ts : List Tm) (left : Int) (w : World) (hw : TmsAt w a ts) (h0 : 0 ≤ left) (h1 : left ≤ 1048576) :
    Calls Tryz.prog 14 #[.slice a ts.length cap, .int .i64 left] w fun e w' => e = .returned (.int .i64 (szRes (tmsSz ts) left)) ∧ Below w.heap.size w w' := by
  have hl := hw.len
  unfold maxLen at hl
  by_cases hfit : (ts.length : Int) ≤ left
  · go_enter Tryz.func14, Tryz.ntmps14
    go_wp2_with fail
    go_loopw [1, 5] (fun l i wr => ∃ k : Nat, k ≤ ts.length ∧ i = .int .i64 k ∧ 0 ≤ left - ts.length - sumT (ts.take k) ∧ l = .int .i64 (left - ts.length - sumT (ts.take k)) ∧ Below w.heap.size w wr) (fun _ i _ => ts.length - (intOf i).toNat)
    case atStart => exact ⟨0, Nat.zero_le _, rfl, by simp [sumT]; omega, by simp [sumT], Below.refl _ _⟩
    case round =>
      obtain ⟨k, hk, rfl, hpos, rfl, hB⟩ := hrel
      by_cases hlt : k < ts.length
      · obtain ⟨b, off, rfl, hb, c0, c1⟩ := hw.load hB k hlt
        have hsm := hw.small k hlt
        have HS : Hid (sumT (ts.take (k + 1)) = sumT (ts.take k) + ts[k].sz) := sum_snoc Tm.sz ts k hlt
        have hle : sumT (ts.take (k + 1)) ≤ sumT ts := sum_le Tm.sz ts (k + 1)
        clear hw
        by_cases hneg : (ts[k].sz : Int) ≤ left - ts.length - sumT (ts.take k)
        · have HNG : Hid ((ts[k].sz : Int) ≤ left - ts.length - sumT (ts.take k)) := hneg
          clear hle
          go_wp2_with fail
          refine (szGateTeam_yes _ _ _ hsm hpos (by omega) HNG.out).mono ?_
          rintro e w1 ⟨rfl, hb1⟩
          have hB1 := hB.trans (hb1.mono hB.size)
          clear hb1
          go_wp2_with fail
          exact ⟨⟨k + 1, by omega, by go_num, by rw [HS.out]; omega, by rw [HS.out]; congr 1; omega, hB1⟩, by simp [intOf]; omega⟩
        · have HF : Hid (szRes (tmsSz ts) left = -1) := szRes_no (by have := HS.out; unfold tmsSz; omega)
          have HNG : Hid (¬ (ts[k].sz : Int) ≤ left - ts.length - sumT (ts.take k)) := hneg
          clear hneg hle
          go_wp2_with fail
          refine (szGateTeam_no _ _ _ hsm hpos (by omega) (by have := HNG.out; omega)).mono ?_
          rintro e w1 ⟨rfl, hb1⟩
          have hB1 := hB.trans (hb1.mono hB.size)
          clear hb1
          go_wp2_with fail
          go_ret
          exact ⟨ret_int HF.out.symm, hB1⟩
      · have HF : Hid (szRes (tmsSz ts) left = left - ts.length - sumT (ts.take k)) := by
          rw [List.take_of_length_le (by omega)] at hpos ⊢
          have e : szRes (tmsSz ts) left = left - tmsSz ts := szRes_yes (by unfold tmsSz; omega)
          unfold Hid; rw [e]; unfold tmsSz; omega
        clear hw
        go_wp2
        go_ret
        exact ⟨ret_int HF.out.symm, hB⟩
  · have HF : Hid (szRes (tmsSz ts) left = -1) := szRes_no (by unfold tmsSz; omega)
    clear hw
    go_enter Tryz.func14, Tryz.ntmps14
    go_wp2
    go_ret
    exact ⟨ret_int HF.out.symm, Below.refl _ _⟩

theorem eqGateTeam_yes (m : Tm) (w : World) : Calls Tryz.prog 57 #[.agg m.cells, .agg m.cells] w fun e w' => e = .returned (.bool true) ∧ Below w.heap.size w w' := by
  unfold Tm.cells
  go_enter Tryz.func57, Tryz.ntmps57
  go_wp2_with fail
  go_ret
  exact ⟨rfl, below2' _ _ _⟩

set_option maxHeartbeats 2000000 in
theorem eqGateTeamS_yes (a a' : Option Addr) (cap cap' : Nat) (ts : List Tm) (w : World) (hw : TmsAt w a ts) (hw' : TmsAt w a' ts) :
    Calls Tryz.prog 28 #[.slice a ts.length cap, .slice a' ts.length cap'] w fun e w' => e = .returned (.bool true) ∧ Below w.heap.size w w' := by
  have hl := hw.len
  unfold maxLen at hl
  have hnn : ((ts.length : Int) != ts.length) = false := by simp
  go_enter Tryz.func28, Tryz.ntmps28
  go_wp2_with fail
  go_loopw [5] (fun i wr => ∃ k : Nat, k ≤ ts.length ∧ i = .int .i64 k ∧ Below w.heap.size w wr) (fun i _ => ts.length - (intOf i).toNat)
  case atStart => exact ⟨0, Nat.zero_le _, rfl, Below.refl _ _⟩
  case round =>
    obtain ⟨k, hk, rfl, hB⟩ := hrel
    by_cases hlt : k < ts.length
    · obtain ⟨b, off, rfl, hb, c0, c1⟩ := hw.load hB k hlt
      obtain ⟨b', off', rfl, hb', d0, d1⟩ := hw'.load hB k hlt
      have hltI : (k : Int) < (ts.length : Int) := by omega
      clear hw hw'
      go_wp2_with fail
      go_region_with (go_at_call 57; refine (eqGateTeam_yes ts[k] _).mono ?_; rintro e w1 ⟨rfl, hb1'⟩; have hb1 := (Below.refl wr.heap.size wr).drew.trans hb1'; clear hb1')
      all_goals go_wp2_with fail
      all_goals exact ⟨⟨k + 1, by omega, by go_num, hB.trans (hb1.mono hB.size)⟩, by simp [intOf]; omega⟩
    · clear hw hw'
      go_wp2_with fail
      go_ret
      exact ⟨rfl, hB⟩

set_option maxHeartbeats 1000000 in
theorem toGateTeam_any (m : Tm) (w : World) :
    Calls Tryz.prog 47 #[.agg m.cells] w fun e w' => e = .returned (.agg m.cells) ∧ Below w.heap.size w w' := by
  unfold Tm.cells
  go_enter Tryz.func47, Tryz.ntmps47
  go_wp2_with fail
  refine bodyPost_ret (v := .agg #[.string m.nm, .string m.ov]) (by simp [results, Tryz.results47, go_sem]) rfl ⟨rfl, ?_⟩
  exact ((((Below.refl _ _).alloc (Nat.le_refl _) _).alloc (by simp) _).alloc (by simp; omega) _)

set_option maxHeartbeats 2000000 in
theorem toGateTeamS_any (a : Option Addr) (cap : Nat) (ts : List Tm) (w : World) (hw : TmsAt w a ts) (hl : ts.length ≤ 1048576) :
    Calls Tryz.prog 21 #[.slice a ts.length cap] w fun e w' => e = .returned (.slice (some ⟨w.heap.size, 0, none⟩) ts.length ts.length) ∧ TmsOwn 92 w.heap.size w' w.heap.size ts ts.length ∧ Below w.heap.size w w' := by
  have hmk : ∀ w : World, (Instr.makeSlice 38 (.int .i64 ts.length) (.int .i64 ts.length)).run Tryz.prog w = .ok (.slice (some ⟨w.heap.size, 0, none⟩) ts.length ts.length) (w.alloc (.cells (tmsZero ts.length) 92)) :=
    fun w => run_make_rows (P := Tryz.prog) 38 92 (.agg tmZero) 2 32 Tryz.underlying38 (by kernel_rfl) ts.length (by omega) (by omega) w
  go_enter Tryz.func21, Tryz.ntmps21
  go_wp2_with fail
  clear hmk
  go_loopw [4] (fun i wr => ∃ k : Nat, k ≤ ts.length ∧ i = .int .i64 k ∧ TmsOwn 92 w.heap.size wr w.heap.size ts k ∧ Below w.heap.size w wr) (fun i _ => ts.length - (intOf i).toNat)
  case atStart => exact ⟨0, Nat.zero_le _, rfl, ⟨Nat.le_refl _, tmsZero ts.length, (MapKept.heap_alloc w _).1, size_madeCells _ _, fun i _ h => absurd h (by omega)⟩, (Below.refl _ _).alloc (Nat.le_refl _) _⟩
  case round =>
    obtain ⟨k, hk, rfl, hown, hB⟩ := hrel
    by_cases hlt : k < ts.length
    · obtain ⟨b, off, rfl, hb, c0, c1⟩ := hw.load hB k hlt
      have hltI : (k : Int) < (ts.length : Int) := by omega
      clear hw
      go_wp2_with fail
      refine (toGateTeam_any ts[k] _).mono ?_
      rintro e w1 ⟨rfl, hb1⟩
      have hB1 := hB.trans (hb1.mono hB.size)
      have hown1 := hown.later hb1
      have hbo : w.heap.size < wr.heap.size := by
        obtain ⟨C', hC', _⟩ := hown.rows
        exact (Array.getElem?_eq_some_iff.1 hC').1
      obtain ⟨C, hC, hsz, _⟩ := hown1.rows
      have hfz : ∀ o, w1.frozen? ⟨w.heap.size, o, none⟩ = false := fun o => frozen_of_block hC
      have hex : ∀ o, o < ts.length * 2 → ∃ v, w1.cell? ⟨w.heap.size, o, none⟩ = some v := fun o ho => ⟨C[o]'(by omega), by rw [cell_of_block hC]; exact Array.getElem?_eq_getElem (by omega)⟩
      obtain ⟨v0, hv0⟩ := hex (k * 2) (by omega)
      obtain ⟨v1, hv1⟩ := hex (k * 2 + 1) (by omega)
      have HP : Hid (TmsOwn 92 w.heap.size w1 w.heap.size ts k) := hown1
      clear hex hC hsz c0 c1 hown hown1
      unfold Tm.cells
      go_wp2_with fail
      exact ⟨⟨k + 1, by omega, by go_num, HP.out.put hlt, put2_below hB1 (Nat.le_refl _) _ _ _⟩, by simp [intOf]; omega⟩
    · have HF : Hid (TmsOwn 92 w.heap.size wr w.heap.size ts ts.length) := by
        have e : k = ts.length := by omega
        subst e; exact hown
      clear hw hown
      go_wp2_with fail
      go_ret
      exact ⟨rfl, HF.out, hB⟩

end Go.Proofs.YtpmlngcljbkchaaGreat

namespace Go.Proofs.YtpmlngcljbkchaaGreat
open Go.RowKit

/-- A slice of ints that lies in memory. -/
structure IntsAt (w : World) (a : Option Addr) (vs : List Int) : Prop where
  len : vs.length ≤ maxLen
  cells : vs ≠ [] → ∃ b off, a = some ⟨b, off, none⟩ ∧ b < w.heap.size ∧ ∀ i (h : i < vs.length), w.cell? ⟨b, off + i, none⟩ = some (.int .i64 vs[i])

theorem IntsAt.mono {w w' : World} {a : Option Addr} {vs : List Int} (h : IntsAt w a vs) (hb : Below w.heap.size w w') : IntsAt w' a vs :=
  ⟨h.len, fun hne => by
    obtain ⟨b, off, ha, hbs, hc⟩ := h.cells hne
    exact ⟨b, off, ha, Nat.lt_of_lt_of_le hbs hb.size, fun i hi => (hb.cell (p := ⟨b, off + i, none⟩) hbs).trans (hc i hi)⟩⟩

theorem IntsAt.load {w w' : World} {a : Option Addr} {vs : List Int} (h : IntsAt w a vs) (hl : Below w.heap.size w w') (i : Nat) (hi : i < vs.length) : ∃ b off, a = some ⟨b, off, none⟩ ∧ b < w.heap.size ∧ w'.cell? ⟨b, off + i, none⟩ = some (.int .i64 vs[i]) := by
  obtain ⟨b, off, ha, hb, hc⟩ := h.cells (by rintro rfl; simp at hi)
  exact ⟨b, off, ha, hb, (hl.cell (p := ⟨b, off + i, none⟩) hb).trans (hc i hi)⟩

def intArr (vs : List Int) : Array Value := (vs.map (Value.int .i64)).toArray
def intCells (vs : List Int) (k : Nat) : Array Value := ((vs.take k).map (Value.int .i64) ++ List.replicate (vs.length - k) (Value.int .i64 0)).toArray

theorem intCells_at (vs : List Int) (k : Nat) (h : k < vs.length) : (intCells vs k)[k]? = some (.int .i64 0) := by
  unfold intCells
  have hl : ((vs.take k).map (Value.int .i64)).length = k := by simp; omega
  rw [List.getElem?_toArray, List.getElem?_append_right (by omega), hl, Nat.sub_self]
  obtain ⟨m, hm⟩ : ∃ m, vs.length - k = m + 1 := ⟨vs.length - k - 1, by omega⟩
  rw [hm, List.replicate_succ]; rfl

theorem intCells_set (vs : List Int) (k : Nat) (h : k < vs.length) : (intCells vs k).setIfInBounds k (.int .i64 vs[k]) = intCells vs (k + 1) := by
  unfold intCells
  rw [List.setIfInBounds_toArray, List.set_append_right _ _ (by simp; omega)]
  congr 1
  rw [List.take_succ_eq_append_getElem h, List.map_append, List.append_assoc]
  congr 1
  obtain ⟨m, hm⟩ : ∃ m, vs.length - k = m + 1 := ⟨vs.length - k - 1, by omega⟩
  rw [hm, show vs.length - (k + 1) = m by omega]
  have : k - ((vs.take k).map (Value.int .i64)).length = 0 := by simp; omega
  rw [this, List.replicate_succ]
  rfl

theorem intCells_all (vs : List Int) (k : Nat) (h : vs.length ≤ k) : intCells vs k = intArr vs := by
  unfold intCells intArr
  rw [List.take_of_length_le h, show vs.length - k = 0 by omega]; simp

theorem intCells_zero (vs : List Int) : madeCells #[Value.int .i64 0] vs.length = intCells vs 0 := by
  apply Array.toList_inj.1
  rw [toList_madeCells_one]
  simp [intCells]

theorem heap_ints {w : World} {bk : Nat} {vs : List Int} {t : TypeId} (h : w.heap[bk]? = some (.cells (intArr vs) t)) (hl : vs.length ≤ maxLen) : IntsAt w (some ⟨bk, 0, none⟩) vs :=
  ⟨hl, fun _ => ⟨bk, 0, rfl, (Array.getElem?_eq_some_iff.1 h).1, fun i hi => by
    simp [World.cell?, h, intArr, hi]⟩⟩

/-- The cells of a rule whose verbs lie at a. -/
def Rl.cells (r : Rl) (a : Option Addr) (cap : Nat) : Array Value := #[.slice a r.vs.length cap, .string r.kd, .string r.tm, .string r.px]
def Ac.cells (x : Ac) : Array Value := #[.int .i64 x.vb, .string x.kd, .string x.tm, .string x.nm]

structure Rl.Small (r : Rl) : Prop where
  kd : r.kd.size ≤ maxLen
  tm : r.tm.size ≤ maxLen
  px : r.px.size ≤ maxLen
structure Ac.Small (r : Ac) : Prop where
  kd : r.kd.size ≤ maxLen
  tm : r.tm.size ≤ maxLen
  nm : r.nm.size ≤ maxLen

structure RlIn (w : World) (b off : Nat) (r : Rl) (a : Option Addr) (cap : Nat) : Prop where
  small : r.Small
  ints : IntsAt w a r.vs
  cell : ∀ j, j < 4 → w.cell? ⟨b, off + j, none⟩ = (r.cells a cap)[j]?

structure RlsAt (w : World) (a : Option Addr) (rs : List Rl) : Prop where
  len : rs.length ≤ maxLen
  rows : rs ≠ [] → ∃ b off, a = some ⟨b, off, none⟩ ∧ b < w.heap.size ∧ ∀ i (h : i < rs.length), ∃ va vcap, RlIn w b (off + i * 4) rs[i] va vcap

theorem RlIn.mono {w w' : World} {b off : Nat} {r : Rl} {a : Option Addr} {cap : Nat} (h : RlIn w b off r a cap) (hb : b < w.heap.size) (hl : Below w.heap.size w w') : RlIn w' b off r a cap :=
  ⟨h.small, h.ints.mono hl, fun j hj => (hl.cell (p := ⟨b, off + j, none⟩) hb).trans (h.cell j hj)⟩

theorem RlsAt.mono {w w' : World} {a : Option Addr} {rs : List Rl} (h : RlsAt w a rs) (hl : Below w.heap.size w w') : RlsAt w' a rs :=
  ⟨h.len, fun hne => by
    obtain ⟨b, off, ha, hb, hr⟩ := h.rows hne
    refine ⟨b, off, ha, Nat.lt_of_lt_of_le hb hl.size, fun i hi => ?_⟩
    obtain ⟨va, vcap, hf⟩ := hr i hi
    exact ⟨va, vcap, hf.mono hb hl⟩⟩

theorem RlsAt.load {w w' : World} {a : Option Addr} {rs : List Rl} (h : RlsAt w a rs) (hl : Below w.heap.size w w') (i : Nat) (hi : i < rs.length) : ∃ b off va vcap, a = some ⟨b, off, none⟩ ∧ b < w.heap.size ∧ rs[i].Small ∧ IntsAt w' va rs[i].vs ∧
    w'.cell? ⟨b, off + i * 4, none⟩ = some (.slice va rs[i].vs.length vcap) ∧ w'.cell? ⟨b, off + i * 4 + 1, none⟩ = some (.string rs[i].kd) ∧ w'.cell? ⟨b, off + i * 4 + 2, none⟩ = some (.string rs[i].tm) ∧ w'.cell? ⟨b, off + i * 4 + 3, none⟩ = some (.string rs[i].px) := by
  obtain ⟨b, off, ha, hb, hr⟩ := h.rows (by rintro rfl; simp at hi)
  obtain ⟨va, vcap, hf0⟩ := hr i hi
  have hf := hf0.mono hb hl
  exact ⟨b, off, va, vcap, ha, hb, hf.small, hf.ints, hf.cell 0 (by omega), hf.cell 1 (by omega), hf.cell 2 (by omega), hf.cell 3 (by omega)⟩

def Rl.sz (r : Rl) : Nat := r.vs.length + r.kd.size + r.tm.size + r.px.size
def Ac.sz (r : Ac) : Nat := r.kd.size + r.tm.size + r.nm.size
def sumR (rs : List Rl) : Nat := (rs.map Rl.sz).sum
def rlsSz (rs : List Rl) : Nat := rs.length + sumR rs

def put4 (w : World) (b o : Nat) (v0 v1 v2 v3 : Value) : World := (((w.setCell ⟨b, o, none⟩ v0).setCell ⟨b, o + 1, none⟩ v1).setCell ⟨b, o + 2, none⟩ v2).setCell ⟨b, o + 3, none⟩ v3
def set4 (C : Array Value) (o : Nat) (v0 v1 v2 v3 : Value) : Array Value := (((C.setIfInBounds o v0).setIfInBounds (o + 1) v1).setIfInBounds (o + 2) v2).setIfInBounds (o + 3) v3
theorem put4_block {w : World} {b o : Nat} {C : Array Value} {t : TypeId} (h : w.heap[b]? = some (.cells C t)) (v0 v1 v2 v3 : Value) : (put4 w b o v0 v1 v2 v3).heap[b]? = some (.cells (set4 C o v0 v1 v2 v3) t) :=
  heap_setCell_at (heap_setCell_at (heap_setCell_at (heap_setCell_at h v0) v1) v2) v3
theorem put4_below {B : Nat} {a w : World} (h : Below B a w) {b : Nat} (hb : B ≤ b) (o : Nat) (v0 v1 v2 v3 : Value) : Below B a (put4 w b o v0 v1 v2 v3) :=
  (((h.setCell hb v0).setCell hb v1).setCell hb v2).setCell hb v3
theorem setCell_other {w : World} {b o : Nat} {v : Value} {b' : Nat} (h : b' ≠ b) : (w.setCell ⟨b, o, none⟩ v).heap[b']? = w.heap[b']? := by
  simp only [World.setCell, Array.getElem?_modify]
  rw [if_neg (fun e => h (Eq.symm e))]
theorem put4_other (w : World) (b o : Nat) (v0 v1 v2 v3 : Value) {b' : Nat} (h : b' ≠ b) : (put4 w b o v0 v1 v2 v3).heap[b']? = w.heap[b']? := by
  unfold put4; rw [setCell_other h, setCell_other h, setCell_other h, setCell_other h]
theorem set4_size (C : Array Value) (o : Nat) (v0 v1 v2 v3 : Value) : (set4 C o v0 v1 v2 v3).size = C.size := by simp [set4]
theorem set4_out (C : Array Value) (o i : Nat) (v0 v1 v2 v3 : Value) (h : i < o ∨ o + 4 ≤ i) : (set4 C o v0 v1 v2 v3)[i]? = C[i]? := by
  unfold set4
  iterate 4 rw [Array.getElem?_setIfInBounds, if_neg (by omega)]
theorem set4_in (C : Array Value) (o j : Nat) (v0 v1 v2 v3 : Value) (hj : j < 4) (ho : o + 4 ≤ C.size) : (set4 C o v0 v1 v2 v3)[o + j]? = (#[v0, v1, v2, v3] : Array Value)[j]? := by
  have hc : j = 0 ∨ j = 1 ∨ j = 2 ∨ j = 3 := by omega
  unfold set4
  rcases hc with h | h | h | h <;> subst h <;> simp [Array.getElem?_setIfInBounds] <;> omega

/-- A row of rules in memory of its own, the first k laid; the verbs of each in a block of their own. -/
structure RlsOwn (ty ti : TypeId) (lo : Nat) (w : World) (bo : Nat) (rs : List Rl) (k : Nat) : Prop where
  low : lo ≤ bo
  rows : ∃ C, w.heap[bo]? = some (.cells C ty) ∧ C.size = rs.length * 4 ∧
    ∀ i (h : i < rs.length), i < k → ∃ bk, lo ≤ bk ∧ bk ≠ bo ∧ w.heap[bk]? = some (.cells (intArr rs[i].vs) ti) ∧ ∀ j, j < 4 → C[i * 4 + j]? = (rs[i].cells (some ⟨bk, 0, none⟩) rs[i].vs.length)[j]?

structure RlsSmall (rs : List Rl) : Prop where
  small : ∀ i (h : i < rs.length), rs[i].Small ∧ rs[i].vs.length ≤ maxLen

theorem RlsAt.smalls {w : World} {a : Option Addr} {rs : List Rl} (h : RlsAt w a rs) : RlsSmall rs :=
  ⟨fun i hi => by
    obtain ⟨_, _, _, _, _, _, h1, h2, _⟩ := h.load (Below.refl _ _) i hi
    exact ⟨h1, h2.len⟩⟩

theorem RlsOwn.at {ty ti : TypeId} {lo : Nat} {w : World} {bo : Nat} {rs : List Rl} (h : RlsOwn ty ti lo w bo rs rs.length) (hs : RlsSmall rs) (hl : rs.length ≤ maxLen) : RlsAt w (some ⟨bo, 0, none⟩) rs := by
  obtain ⟨C, hC, hsz, hr⟩ := h.rows
  refine ⟨hl, fun _ => ⟨bo, 0, rfl, (Array.getElem?_eq_some_iff.1 hC).1, fun i hi => ?_⟩⟩
  obtain ⟨bk, _, _, hk, hc⟩ := hr i hi hi
  obtain ⟨s1, s2⟩ := hs.small i hi
  refine ⟨some ⟨bk, 0, none⟩, rs[i].vs.length, s1, heap_ints hk s2, fun j hj => ?_⟩
  rw [cell_of_block hC, Nat.zero_add]
  exact hc j hj

theorem RlsOwn.later {ty ti : TypeId} {lo : Nat} {w w' : World} {bo : Nat} {rs : List Rl} {k : Nat} (h : RlsOwn ty ti lo w bo rs k) (hb : Below w.heap.size w w') : RlsOwn ty ti lo w' bo rs k := by
  obtain ⟨C, hC, hsz, hr⟩ := h.rows
  refine ⟨h.low, C, (hb.block bo (Array.getElem?_eq_some_iff.1 hC).1).trans hC, hsz, fun i hi hk => ?_⟩
  obtain ⟨bk, h1, h2, h3, h4⟩ := hr i hi hk
  exact ⟨bk, h1, h2, (hb.block bk (Array.getElem?_eq_some_iff.1 h3).1).trans h3, h4⟩

theorem RlsOwn.put {ty ti : TypeId} {lo : Nat} {w : World} {bo : Nat} {rs : List Rl} {k : Nat} (h : RlsOwn ty ti lo w bo rs k) (hk : k < rs.length) (bk : Nat) (h1 : lo ≤ bk) (h2 : bk ≠ bo) (h3 : w.heap[bk]? = some (.cells (intArr rs[k].vs) ti)) :
    RlsOwn ty ti lo (put4 w bo (k * 4) (.slice (some ⟨bk, 0, none⟩) rs[k].vs.length rs[k].vs.length) (.string rs[k].kd) (.string rs[k].tm) (.string rs[k].px)) bo rs (k + 1) := by
  obtain ⟨C, hC, hsz, hr⟩ := h.rows
  refine ⟨h.low, _, put4_block hC _ _ _ _, by rw [set4_size]; exact hsz, fun i hi hik => ?_⟩
  rcases Nat.lt_or_ge i k with hlt | hge
  · obtain ⟨bi, g1, g2, g3, g4⟩ := hr i hi hlt
    refine ⟨bi, g1, g2, by rw [put4_other _ _ _ _ _ _ _ g2]; exact g3, fun j hj => ?_⟩
    rw [set4_out _ _ _ _ _ _ _ (by omega)]
    exact g4 j hj
  · have e : i = k := by omega
    subst e
    refine ⟨bk, h1, h2, by rw [put4_other _ _ _ _ _ _ _ h2]; exact h3, fun j hj => ?_⟩
    rw [set4_in _ _ _ _ _ _ _ hj (by omega)]
    rfl

def rlZero : Array Value := #[.slice none 0 0, .string ByteArray.empty, .string ByteArray.empty, .string ByteArray.empty]
def rlsZero (n : Nat) : Array Value := madeCells rlZero (n * 4)

theorem box_new2 (w : World) (o1 : Obj) (X : Array Value) (t : TypeId) : ∀ o, ((w.alloc o1).alloc (.cells X t)).cell? ⟨w.heap.size + 1, o, none⟩ = X[o]? := by
  intro o
  have h := box_new (w.alloc o1) X t o
  have e : (w.alloc o1).heap.size = w.heap.size + 1 := by simp
  rw [e] at h; exact h

end Go.Proofs.YtpmlngcljbkchaaGreat

namespace Go.Proofs.YtpmlngcljbkchaaGreat
open Go.RowKit

set_option maxHeartbeats 1000000 in
theorem areAsc_any (a : Option Addr) (cap : Nat) (ws : List ByteArray) (w : World) (hw : StrsAt w a ws) :
    Calls Tryz.prog 130 #[.slice a ws.length cap] w fun e w' => e = .returned (.bool (Gate.asc ws)) ∧ w' = w := by
  have hl := hw.len
  unfold maxLen at hl
  go_enter Tryz.func130, Tryz.ntmps130
  go_wp2
  go_loop [7] (fun i => ∃ k : Nat, k ≤ ws.length ∧ i = .int .i64 k ∧ Gate.up (Gate.ascAt ws) k = true) (fun i => ws.length - (intOf i).toNat)
  case atStart => exact ⟨0, Nat.zero_le _, rfl, rfl⟩
  case round =>
    obtain ⟨k, hk, rfl, hup⟩ := hrel
    by_cases hlt : k < ws.length
    · obtain ⟨b, off, rfl, hb, hc⟩ := hw.cells (by rintro rfl; simp at hlt)
      have hsm := hw.small _ (List.getElem_mem hlt)
      clear hw
      have hck := hc k hlt
      by_cases hn : Gate.nameOk ws[k] = true
      · by_cases hk0 : k = 0
        · have HF : Hid (Gate.up (Gate.ascAt ws) (k + 1) = true) := by subst hk0; unfold Hid; rw [Gate.up_succ, Gate.ascAt_first hlt hn]; rfl
          have hg : decide (0 < k) = false := by simp; omega
          have HN : Hid (Gate.nameOk ws[k] = true) := hn
          clear hn hc hup hk0
          go_wp2_with (go_at_call 51; refine (as_bool HN.out (isName_any _ _ hsm)).mono ?_; rintro e w' ⟨rfl, rfl⟩)
          go_round
          case rel => exact ⟨k + 1, by omega, by go_num, HF.out⟩
          case measure => simp [intOf]; omega
        · obtain ⟨m, rfl⟩ : ∃ m, k = m + 1 := ⟨k - 1, by omega⟩
          have hcm := hc m (by omega)
          have HU : Hid (Gate.up (Gate.ascAt ws) (m + 1 + 1) = Gate.less ws[m] ws[m + 1]) := by unfold Hid; rw [Gate.up_succ, hup, Gate.ascAt_more hlt hn]; rfl
          have HNN : Hid (Gate.less ws[m] ws[m + 1] = false → Gate.asc ws = false) := fun h => Gate.up_not hlt (by rw [Gate.ascAt_more hlt hn]; exact h)
          have HN : Hid (Gate.nameOk ws[m + 1] = true) := hn
          clear hn hc hup hk0
          by_cases hls : Gate.less ws[m] ws[m + 1] = true
          · have hls' : Op.bytesLess ws[m].toList ws[m + 1].toList = true := hls
            have HLS : Hid (Gate.less ws[m] ws[m + 1] = true) := hls
            clear hls
            go_wp2_with (go_at_call 51; refine (as_bool HN.out (isName_any _ _ hsm)).mono ?_; rintro e w' ⟨rfl, rfl⟩)
            go_round
            case rel => exact ⟨m + 1 + 1, by omega, by go_num, by rw [HU.out, HLS.out]⟩
            case measure => simp [intOf]; omega
          · have hls' : Op.bytesLess ws[m].toList ws[m + 1].toList = false := by simpa [Gate.less] using hls
            have HLS : Hid (Gate.less ws[m] ws[m + 1] = false) := hls'
            clear hls
            go_wp2_with (go_at_call 51; refine (as_bool HN.out (isName_any _ _ hsm)).mono ?_; rintro e w' ⟨rfl, rfl⟩)
            go_ret
            exact ⟨ret_bool (HNN.out HLS.out).symm, rfl⟩
      · have hn' : Gate.nameOk ws[k] = false := by simpa using hn
        have HF : Hid (Gate.asc ws = false) := Gate.up_not hlt (Gate.ascAt_name hlt hn')
        have HN : Hid (Gate.nameOk ws[k] = false) := hn'
        clear hn hn' hc hup
        go_wp2_with (go_at_call 51; refine (as_bool HN.out (isName_any _ _ hsm)).mono ?_; rintro e w' ⟨rfl, rfl⟩)
        go_ret
        exact ⟨ret_bool HF.out.symm, rfl⟩
    · have HF : Hid (Gate.asc ws = true) := by
        have e : k = ws.length := by omega
        subst e; exact hup
      clear hw hup
      go_wp2
      go_ret
      exact ⟨ret_bool HF.out.symm, rfl⟩

end Go.Proofs.YtpmlngcljbkchaaGreat

namespace Go.Proofs.YtpmlngcljbkchaaGreat
open Go.RowKit

theorem ret_str {a b : ByteArray} (h : a = b) : Ending.returned (.string a) = .returned (.string b) := by rw [h]

theorem over_small (ts : List Tm) (v : ByteArray) (hs : ∀ i (h : i < ts.length), ts[i].Small) : (Gate.over ts v).size ≤ maxLen := by
  unfold Gate.over
  cases hf : ts.find? (fun t => decide (t.nm = v)) with
  | none => simp [Gate.noTeam, maxLen]
  | some t =>
    obtain ⟨k, hk, rfl⟩ := List.mem_iff_getElem.1 (List.mem_of_find?_eq_some hf)
    exact (hs k hk).ov

set_option maxHeartbeats 400000 in
theorem l4Over_any (a : Option Addr) (cap : Nat) (ts : List Tm) (v : ByteArray) (w : World) (hw : TmsAt w a ts) :
    Calls Tryz.prog 63 #[.slice a ts.length cap, .string v] w fun e w' => e = .returned (.string (Gate.over ts v)) ∧ w' = w := by
  have hl := hw.len
  unfold maxLen at hl
  go_enter Tryz.func63, Tryz.ntmps63
  go_wp2_with fail
  go_loop [5] (fun i => ∃ k : Nat, k ≤ ts.length ∧ i = .int .i64 k ∧ Gate.hasTeam (ts.take k) v = false) (fun i => ts.length - (intOf i).toNat)
  case atStart => exact ⟨0, Nat.zero_le _, rfl, rfl⟩
  case round =>
    obtain ⟨k, hk, rfl, hall⟩ := hrel
    by_cases hlt : k < ts.length
    · obtain ⟨b, off, rfl, hb, c0, c1⟩ := hw.load (Below.refl _ _) k hlt
      clear hw
      have HS : Hid (Gate.hasTeam (ts.take (k + 1)) v = (false || decide (ts[k].nm = v))) := by rw [Gate.hasTeam_snoc ts v k hlt, hall]; rfl
      have hltI : (k : Int) < (ts.length : Int) := by omega
      by_cases he : ts[k].nm = v
      · have hbe : (ts[k].nm.toList == v.toList) = true := by rw [Gate.beq_toList]; simpa using he
        have HR : Hid (Gate.over ts v = ts[k].ov) := Gate.over_at ts v k hlt hall he
        clear he hall
        go_wp2_with fail
        go_ret
        exact ⟨ret_str HR.out.symm, rfl⟩
      · have hbe : (ts[k].nm.toList == v.toList) = false := by rw [Gate.beq_toList]; simpa using he
        have HE : Hid (¬ ts[k].nm = v) := he
        clear he hall
        go_wp2_with fail
        go_round
        case rel => exact ⟨k + 1, by omega, by go_num, by rw [HS.out, decide_eq_false HE.out]; rfl⟩
        case measure => simp [intOf]; omega
    · have HR : Hid (Gate.over ts v = ByteArray.empty) := Gate.over_none ts v (by rw [← Gate.hasTeam_all ts v k (by omega)]; exact hall)
      clear hall hw
      go_wp2_with fail
      go_ret
      exact ⟨ret_str HR.out.symm, rfl⟩

set_option maxHeartbeats 800000 in
theorem overOf_any (a : Option Addr) (cap : Nat) (ts : List Tm) (v : ByteArray) (w : World) (hw : TmsAt w a ts) :
    Calls Tryz.prog 99 #[.slice a ts.length cap, .string v] w fun e w' => e = .returned (.string (Gate.over ts v)) ∧ Below w.heap.size w w' := by
  have hl := hw.len
  unfold maxLen at hl
  go_enter Tryz.func99, Tryz.ntmps99
  go_wp2_with fail
  go_loopw [9] (fun i wr => ∃ k : Nat, k ≤ ts.length ∧ i = .int .i64 k ∧ Gate.hasTeam (ts.take k) v = false ∧ Below w.heap.size w wr) (fun i _ => ts.length - (intOf i).toNat)
  case atStart => exact ⟨0, Nat.zero_le _, rfl, rfl, Below.refl _ _⟩
  case round =>
    obtain ⟨k, hk, rfl, hall, hB⟩ := hrel
    have hsz := hB.size
    by_cases hlt : k < ts.length
    · obtain ⟨b, off, rfl, hb, c0, c1⟩ := hw.load hB k hlt
      clear hw
      have HS : Hid (Gate.hasTeam (ts.take (k + 1)) v = (false || decide (ts[k].nm = v))) := by rw [Gate.hasTeam_snoc ts v k hlt, hall]; rfl
      have hltI : (k : Int) < (ts.length : Int) := by omega
      have hbr : b < wr.heap.size := by omega
      by_cases he : ts[k].nm = v
      · have hbe : (ts[k].nm.toList == v.toList) = true := by rw [Gate.beq_toList]; simpa using he
        have HR : Hid (Gate.over ts v = ts[k].ov) := Gate.over_at ts v k hlt hall he
        clear he hall
        go_wp2_with fail
        go_ret
        exact ⟨ret_str HR.out.symm, hB.alloc hsz _⟩
      · have hbe : (ts[k].nm.toList == v.toList) = false := by rw [Gate.beq_toList]; simpa using he
        have HE : Hid (¬ ts[k].nm = v) := he
        clear he hall
        go_wp2_with fail
        exact ⟨⟨k + 1, by omega, by go_num, by rw [HS.out, decide_eq_false HE.out]; rfl, hB.alloc hsz _⟩, by simp [intOf]; omega⟩
    · have HR : Hid (Gate.over ts v = ByteArray.empty) := Gate.over_none ts v (by rw [← Gate.hasTeam_all ts v k (by omega)]; exact hall)
      clear hall hw
      go_wp2_with fail
      go_ret
      exact ⟨ret_str HR.out.symm, hB⟩

end Go.Proofs.YtpmlngcljbkchaaGreat
