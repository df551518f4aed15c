import Derived.Test.YthclaldbcfljfabGreatDoorWC
import Derived.Deep.QuietTactic
import Derived.BigQuiet
namespace Go.Proofs.YthclaldbcfljfabGreatDoor
open Go.RowKit

def sumSz (ws : List ByteArray) : Nat := (ws.map ByteArray.size).sum
def strsSz (ws : List ByteArray) : Nat := ws.length + sumSz ws
def szRes (t : Nat) (left : Int) : Int := if (t : Int) ≤ left then left - t else -1

theorem szRes_yes {t : Nat} {left : Int} (h : (t : Int) ≤ left) : szRes t left = left - t := by simp [szRes, h]
theorem szRes_no {t : Nat} {left : Int} (h : ¬ (t : Int) ≤ left) : szRes t left = -1 := by simp [szRes, h]

theorem sumSz_snoc (ws : List ByteArray) (k : Nat) (h : k < ws.length) : sumSz (ws.take (k + 1)) = sumSz (ws.take k) + ws[k].size := by
  unfold sumSz; rw [List.take_succ_eq_append_getElem h, List.map_append, List.sum_append]; simp

theorem sumSz_le (ws : List ByteArray) (k : Nat) : sumSz (ws.take k) ≤ sumSz ws := by
  unfold sumSz
  conv => rhs; rw [← List.take_append_drop k ws]
  rw [List.map_append, List.sum_append]; omega

theorem sumSz_all (ws : List ByteArray) (k : Nat) (h : ws.length ≤ k) : sumSz (ws.take k) = sumSz ws := by rw [List.take_of_length_le h]

set_option maxHeartbeats 400000 in
theorem szStringS_any (a : Option Addr) (cap : Nat) (ws : List ByteArray) (left : Int) (w : World) (hw : StrsAt w a ws) (h0 : 0 ≤ left) (h1 : left ≤ 1048576) :
    Calls Tryz.prog 13 #[.slice a ws.length cap, .int .i64 left] w fun e w' => e = .returned (.int .i64 (szRes (strsSz ws) left)) ∧ w' = w := by
  have hl := hw.len
  unfold maxLen at hl
  by_cases hfit : (ws.length : Int) ≤ left
  · go_enter Tryz.func13, Tryz.ntmps13
    go_wp2
    go_loop [1, 5] (fun l i => ∃ k : Nat, k ≤ ws.length ∧ i = .int .i64 k ∧ 0 ≤ left - ws.length - sumSz (ws.take k) ∧ l = .int .i64 (left - ws.length - sumSz (ws.take k))) (fun _ i => ws.length - (intOf i).toNat)
    case atStart => exact ⟨0, Nat.zero_le _, rfl, by simp [sumSz]; omega, by simp [sumSz]⟩
    case round =>
      obtain ⟨k, hk, rfl, hpos, rfl⟩ := hrel
      by_cases hlt : k < ws.length
      · obtain ⟨b, off, rfl, hb, hc⟩ := hw.cells (by rintro rfl; simp at hlt)
        have hsm := hw.small _ (List.getElem_mem hlt)
        unfold maxLen at hsm
        clear hw
        have hck := hc k hlt
        have HS : Hid (sumSz (ws.take (k + 1)) = sumSz (ws.take k) + ws[k].size) := sumSz_snoc ws k hlt
        have hle := sumSz_le ws (k + 1)
        clear hc
        by_cases hneg : left - ws.length - sumSz (ws.take k) - ws[k].size < 0
        · have HF : Hid (szRes (strsSz ws) left = -1) := szRes_no (by have := HS.out; unfold strsSz; omega)
          clear hle
          go_wp2
          go_ret
          exact ⟨ret_int HF.out.symm, rfl⟩
        · clear hle
          go_wp2
          go_round
          case rel => exact ⟨k + 1, by omega, by go_num, by rw [HS.out]; omega, by rw [HS.out]; go_num⟩
          case measure => simp [intOf]; omega
      · have HF : Hid (szRes (strsSz ws) left = left - ws.length - sumSz (ws.take k)) := by
          rw [sumSz_all ws k (by omega)] at hpos ⊢
          have e : szRes (strsSz ws) left = left - strsSz ws := szRes_yes (by unfold strsSz; omega)
          unfold Hid; rw [e]; unfold strsSz; omega
        clear hw
        go_wp2
        go_ret
        exact ⟨ret_int HF.out.symm, rfl⟩
  · have HF : Hid (szRes (strsSz ws) left = -1) := szRes_no (by unfold strsSz; omega)
    clear hw
    go_enter Tryz.func13, Tryz.ntmps13
    go_wp2
    go_ret
    exact ⟨ret_int HF.out.symm, rfl⟩


set_option maxHeartbeats 400000 in
theorem eqStringS_yes (a a' : Option Addr) (cap cap' : Nat) (ws : List ByteArray) (w : World) (hw : StrsAt w a ws) (hw' : StrsAt w a' ws) :
    Calls Tryz.prog 22 #[.slice a ws.length cap, .slice a' ws.length cap'] w fun e w' => e = .returned (.bool true) ∧ Below w.heap.size w w' := by
  have hl := hw.len
  unfold maxLen at hl
  have hnn : ((ws.length : Int) != ws.length) = false := by simp
  go_enter Tryz.func22, Tryz.ntmps22
  go_wp2
  go_loopw [5] (fun i wr => ∃ k : Nat, k ≤ ws.length ∧ i = .int .i64 k ∧ ∃ n, wr = w.drewN n) (fun i _ => ws.length - (intOf i).toNat)
  case atStart => exact ⟨0, Nat.zero_le _, rfl, 0, rfl⟩
  case round =>
    obtain ⟨k, hk, rfl, nd, rfl⟩ := hrel
    by_cases hlt : k < ws.length
    · obtain ⟨b, off, rfl, hb, hc⟩ := hw.cells (by rintro rfl; simp at hlt)
      obtain ⟨b', off', rfl, hb', hc'⟩ := hw'.cells (by rintro rfl; simp at hlt)
      clear hw hw'
      have hck := hc k hlt
      have hck' := hc' k hlt
      have hltI : (k : Int) < (ws.length : Int) := by omega
      clear hc hc'
      go_wp2
      go_quiet (fail)
      go_wp2
      exact ⟨⟨k + 1, by omega, by go_num, nd + nq, rfl⟩, by simp [intOf]; omega⟩
    · clear hw hw'
      go_wp2
      go_ret
      exact ⟨rfl, below_drewN (Below.refl _ _) nd⟩

set_option maxHeartbeats 1000000 in
theorem eqGateField_yes (nm : ByteArray) (kd ls ms : Int) (a a' : Option Addr) (cap cap' : Nat) (ws : List ByteArray) (to : ByteArray) (rl : Int) (mu fx : Bool) (df wg : ByteArray) (w : World) (hw : StrsAt w a ws) (hw' : StrsAt w a' ws) :
    Calls Tryz.prog 61 #[.agg #[.string nm, .int .i64 kd, .int .i64 ls, .int .i64 ms, .slice a ws.length cap, .string to, .int .i64 rl, .bool mu, .bool fx, .string df, .string wg], .agg #[.string nm, .int .i64 kd, .int .i64 ls, .int .i64 ms, .slice a' ws.length cap', .string to, .int .i64 rl, .bool mu, .bool fx, .string df, .string wg]] w
      fun e w' => e = .returned (.bool true) ∧ Below w.heap.size w w' := by
  go_enter Tryz.func61, Tryz.ntmps61
  go_wp2_with (go_at_call 22; refine (eqStringS_yes _ _ _ _ _ _ (by exact hw.mono (below2' _ _ _)) (by exact hw'.mono (below2' _ _ _))).mono ?_; rintro e w1 ⟨rfl, hb1⟩; have hc1 := (bcell hb1).1; have hz1 := hb1.size; simp only [World.size_alloc] at hz1)
  go_ret
  exact ⟨rfl, (below2' _ _ _).trans (hb1.mono (by simp; omega))⟩

def fldSz (nm : ByteArray) (ws : List ByteArray) (to df wg : ByteArray) : Nat := nm.size + strsSz ws + to.size + df.size + wg.size

theorem szStringS_yes (a : Option Addr) (cap : Nat) (ws : List ByteArray) (left : Int) (w : World) (hw : StrsAt w a ws) (h0 : 0 ≤ left) (h1 : left ≤ 1048576) (h : (strsSz ws : Int) ≤ left) :
    Calls Tryz.prog 13 #[.slice a ws.length cap, .int .i64 left] w fun e w' => e = .returned (.int .i64 (left - strsSz ws)) ∧ w' = w := by
  refine (szStringS_any a cap ws left w hw h0 h1).mono ?_
  rintro e w' ⟨rfl, rfl⟩
  exact ⟨ret_int (szRes_yes h), rfl⟩

theorem szStringS_no (a : Option Addr) (cap : Nat) (ws : List ByteArray) (left : Int) (w : World) (hw : StrsAt w a ws) (h0 : 0 ≤ left) (h1 : left ≤ 1048576) (h : ¬ (strsSz ws : Int) ≤ left) :
    Calls Tryz.prog 13 #[.slice a ws.length cap, .int .i64 left] w fun e w' => e = .returned (.int .i64 (-1)) ∧ w' = w := by
  refine (szStringS_any a cap ws left w hw h0 h1).mono ?_
  rintro e w' ⟨rfl, rfl⟩
  exact ⟨ret_int (szRes_no h), rfl⟩

set_option maxHeartbeats 1000000 in
theorem szGateField_any (nm : ByteArray) (kd ls ms : Int) (a : Option Addr) (cap : Nat) (ws : List ByteArray) (to : ByteArray) (rl : Int) (mu fx : Bool) (df wg : ByteArray) (left : Int) (w : World) (hw : StrsAt w a ws) (h0 : 0 ≤ left) (h1 : left ≤ 1048576)
    (hnm : nm.size ≤ maxLen) (hto : to.size ≤ maxLen) (hdf : df.size ≤ maxLen) (hwg : wg.size ≤ maxLen) :
    Calls Tryz.prog 37 #[.agg #[.string nm, .int .i64 kd, .int .i64 ls, .int .i64 ms, .slice a ws.length cap, .string to, .int .i64 rl, .bool mu, .bool fx, .string df, .string wg], .int .i64 left] w fun e w' => e = .returned (.int .i64 (szRes (fldSz nm ws to df wg) left)) ∧ Below w.heap.size w w' := by
  unfold maxLen at hnm hto hdf hwg
  by_cases c1 : (nm.size : Int) ≤ left
  rotate_left
  · have HF : Hid (szRes (fldSz nm ws to df wg) left = -1) := szRes_no (by unfold fldSz; omega)
    go_enter Tryz.func37, Tryz.ntmps37
    go_wp2_with fail
    go_ret
    exact ⟨ret_int HF.out.symm, (Below.refl _ _).alloc (Nat.le_refl _) _⟩
  by_cases c2 : (strsSz ws : Int) ≤ left - nm.size
  rotate_left
  · have HF : Hid (szRes (fldSz nm ws to df wg) left = -1) := szRes_no (by unfold fldSz; omega)
    go_enter Tryz.func37, Tryz.ntmps37
    go_wp2_with (go_at_call 13; refine (szStringS_no _ _ _ _ _ (by exact hw.mono ((Below.refl _ _).alloc (Nat.le_refl _) _)) (by omega) (by omega) (by omega)).mono ?_; rintro e w1 ⟨rfl, rfl⟩)
    go_ret
    exact ⟨ret_int HF.out.symm, (Below.refl _ _).alloc (Nat.le_refl _) _⟩
  by_cases c3 : (to.size : Int) ≤ left - nm.size - strsSz ws
  rotate_left
  · have HF : Hid (szRes (fldSz nm ws to df wg) left = -1) := szRes_no (by unfold fldSz; omega)
    go_enter Tryz.func37, Tryz.ntmps37
    go_wp2_with (go_at_call 13; refine (szStringS_yes _ _ _ _ _ (by exact hw.mono ((Below.refl _ _).alloc (Nat.le_refl _) _)) (by omega) (by omega) (by omega)).mono ?_; rintro e w1 ⟨rfl, rfl⟩)
    go_ret
    exact ⟨ret_int HF.out.symm, (Below.refl _ _).alloc (Nat.le_refl _) _⟩
  by_cases c4 : (df.size : Int) ≤ left - nm.size - strsSz ws - to.size
  rotate_left
  · have HF : Hid (szRes (fldSz nm ws to df wg) left = -1) := szRes_no (by unfold fldSz; omega)
    go_enter Tryz.func37, Tryz.ntmps37
    go_wp2_with (go_at_call 13; refine (szStringS_yes _ _ _ _ _ (by exact hw.mono ((Below.refl _ _).alloc (Nat.le_refl _) _)) (by omega) (by omega) (by omega)).mono ?_; rintro e w1 ⟨rfl, rfl⟩)
    go_ret
    exact ⟨ret_int HF.out.symm, (Below.refl _ _).alloc (Nat.le_refl _) _⟩
  by_cases c5 : (wg.size : Int) ≤ left - nm.size - strsSz ws - to.size - df.size
  rotate_left
  · have HF : Hid (szRes (fldSz nm ws to df wg) left = -1) := szRes_no (by unfold fldSz; omega)
    go_enter Tryz.func37, Tryz.ntmps37
    go_wp2_with (go_at_call 13; refine (szStringS_yes _ _ _ _ _ (by exact hw.mono ((Below.refl _ _).alloc (Nat.le_refl _) _)) (by omega) (by omega) (by omega)).mono ?_; rintro e w1 ⟨rfl, rfl⟩)
    go_ret
    exact ⟨ret_int HF.out.symm, (Below.refl _ _).alloc (Nat.le_refl _) _⟩
  · have HF : Hid (szRes (fldSz nm ws to df wg) left = left - nm.size - strsSz ws - to.size - df.size - wg.size) := by
      have e : szRes (fldSz nm ws to df wg) left = left - fldSz nm ws to df wg := szRes_yes (by unfold fldSz; omega)
      unfold Hid; rw [e]; unfold fldSz; omega
    go_enter Tryz.func37, Tryz.ntmps37
    go_wp2_with (go_at_call 13; refine (szStringS_yes _ _ _ _ _ (by exact hw.mono ((Below.refl _ _).alloc (Nat.le_refl _) _)) (by omega) (by omega) (by omega)).mono ?_; rintro e w1 ⟨rfl, rfl⟩)
    go_ret
    exact ⟨ret_int HF.out.symm, (Below.refl _ _).alloc (Nat.le_refl _) _⟩

end Go.Proofs.YthclaldbcfljfabGreatDoor
