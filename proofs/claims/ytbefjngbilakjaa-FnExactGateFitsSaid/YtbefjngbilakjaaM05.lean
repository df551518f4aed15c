import Derived.Test.YtbefjngbilakjaaM02
import Derived.Deep.OwnRows
import Derived.MapKept
import Derived.Deep.QuietTactic
import Derived.BigQuiet
import Derived.Test.YtbefjngbilakjaaM04
namespace Go.Proofs.Ytbefjngbilakjaa
open Go.RowKit

set_option maxHeartbeats 400000 in
theorem toStringS_any (a : Option Addr) (cap : Nat) (ws : List ByteArray) (w : World) (hw : StrsAt w a ws) (hl : ws.length ≤ 1048576) :
    Calls Try.prog 35 #[.slice a ws.length cap] w fun e w' => e = .returned (.slice (some ⟨w.heap.size, 0, none⟩) ws.length ws.length) ∧ w' = w.alloc (.cells (strArr ws) 9) := by
  have hmk : ∀ w : World, (Instr.makeSlice 22 (.int .i64 ws.length) (.int .i64 ws.length)).run Try.prog w = .ok (.slice (some ⟨w.heap.size, 0, none⟩) ws.length ws.length) (w.alloc (.cells (strCells ws 0) 9)) := by
    intro w
    have h := run_make_row' (P := Try.prog) 22 9 (.string ByteArray.empty) 16 Try.underlying22 (by kernel_rfl) rfl .i64 .i64 ws.length (by omega) (by omega) w
    rw [strCells_zero] at h
    exact h
  go_enter Try.func35, Try.ntmps35
  go_wp2
  clear hmk
  go_loopw [4] (fun i wr => ∃ k : Nat, k ≤ ws.length ∧ i = .int .i64 k ∧ wr = w.alloc (.cells (strCells ws k) 9)) (fun i _ => ws.length - (intOf i).toNat)
  case atStart => exact ⟨0, Nat.zero_le _, rfl, rfl⟩
  case round =>
    obtain ⟨k, hk, rfl, rfl⟩ := hrel
    by_cases hlt : k < ws.length
    · obtain ⟨b, off, rfl, hb, hc⟩ := hw.cells (by rintro rfl; simp at hlt)
      clear hw
      have hck := hc k hlt
      have hold := strCells_at ws k hlt
      have HS : Hid ((strCells ws k).setIfInBounds k (.string ws[k]) = strCells ws (k + 1)) := strCells_set ws k hlt
      clear hc
      go_wp2
      go_roundw
      case rel => exact ⟨k + 1, by omega, by go_num, by rw [HS.out]⟩
      case measure => simp [intOf]; omega
    · have HA : Hid (strCells ws k = strArr ws) := strCells_all ws k (by omega)
      clear hw
      go_wp2
      go_ret
      exact ⟨rfl, by rw [HA.out]⟩

theorem below4 (w : World) (o1 o2 o3 o4 : Obj) : Below w.heap.size w ((((w.alloc o1).alloc o2).alloc o3).alloc o4) :=
  ((((Below.refl _ _).alloc (Nat.le_refl _) _).alloc (by simp) _).alloc (by simp; omega) _).alloc (by simp; omega) _

theorem at4 (w : World) (o1 o2 o3 o4 : Obj) : ((((w.alloc o1).alloc o2).alloc o3).alloc o4).heap[w.heap.size + 1 + 1 + 1]? = some o4 := by
  have h := MapKept.heap_alloc (((w.alloc o1).alloc o2).alloc o3) o4
  simpa using h.1

set_option maxHeartbeats 1000000 in
theorem toGateField_any (nm : ByteArray) (kd ls ms : Int) (a : Option Addr) (cap : Nat) (ws : List ByteArray) (to : ByteArray) (rl : Int) (mu fx : Bool) (df wg : ByteArray) (w : World) (hw : StrsAt w a ws) (hl : ws.length ≤ 1048576) :
    Calls Try.prog 9 #[.agg #[.string nm, .int .i64 kd, .int .i64 ls, .int .i64 ms, .slice a ws.length cap, .string to, .int .i64 rl, .bool mu, .bool fx, .string df, .string wg]] w
      fun e w' => ∃ bk, e = .returned (.agg #[.string nm, .int .i64 kd, .int .i64 ls, .int .i64 ms, .slice (some ⟨bk, 0, none⟩) ws.length ws.length, .string to, .int .i64 rl, .bool mu, .bool fx, .string df, .string wg]) ∧
        w.heap.size ≤ bk ∧ bk < w'.heap.size ∧ w'.heap[bk]? = some (.cells (strArr ws) 9) ∧ Below w.heap.size w w' := by
  go_enter Try.func9, Try.ntmps9
  go_wp2_with (go_at_call 35; refine (toStringS_any _ _ _ _ (by exact hw.mono ((((Below.refl _ _).alloc (Nat.le_refl _) _).alloc (by simp) _).alloc (by simp; omega) _)) hl).mono ?_; rintro e w' ⟨rfl, rfl⟩)
  refine bodyPost_ret (v := .agg #[.string nm, .int .i64 kd, .int .i64 ls, .int .i64 ms, .slice (some ⟨w.heap.size + 1 + 1 + 1, 0, none⟩) ws.length ws.length, .string to, .int .i64 rl, .bool mu, .bool fx, .string df, .string wg]) (by simp [results, Try.results9, go_sem]) rfl ⟨w.heap.size + 1 + 1 + 1, rfl, by omega, by simp, at4 _ _ _ _ _, below4 _ _ _ _ _⟩

end Go.Proofs.Ytbefjngbilakjaa

namespace Go.Proofs.Ytbefjngbilakjaa
open Go.RowKit

def sumSz (ws : List ByteArray) : Nat := (ws.map ByteArray.size).sum
def strsSz (ws : List ByteArray) : Nat := ws.length + sumSz ws
def szRes (t : Nat) (left : Int) : Int := if (t : Int) ≤ left then left - t else -1

theorem szRes_yes {t : Nat} {left : Int} (h : (t : Int) ≤ left) : szRes t left = left - t := by simp [szRes, h]
theorem szRes_no {t : Nat} {left : Int} (h : ¬ (t : Int) ≤ left) : szRes t left = -1 := by simp [szRes, h]

theorem sumSz_snoc (ws : List ByteArray) (k : Nat) (h : k < ws.length) : sumSz (ws.take (k + 1)) = sumSz (ws.take k) + ws[k].size := by
  unfold sumSz; rw [List.take_succ_eq_append_getElem h, List.map_append, List.sum_append]; simp

theorem sumSz_le (ws : List ByteArray) (k : Nat) : sumSz (ws.take k) ≤ sumSz ws := by
  unfold sumSz
  conv => rhs; rw [← List.take_append_drop k ws]
  rw [List.map_append, List.sum_append]; omega

theorem sumSz_all (ws : List ByteArray) (k : Nat) (h : ws.length ≤ k) : sumSz (ws.take k) = sumSz ws := by rw [List.take_of_length_le h]

set_option maxHeartbeats 400000 in
theorem szStringS_any (a : Option Addr) (cap : Nat) (ws : List ByteArray) (left : Int) (w : World) (hw : StrsAt w a ws) (h0 : 0 ≤ left) (h1 : left ≤ 1048576) :
    Calls Try.prog 30 #[.slice a ws.length cap, .int .i64 left] w fun e w' => e = .returned (.int .i64 (szRes (strsSz ws) left)) ∧ w' = w := by
  have hl := hw.len
  unfold maxLen at hl
  by_cases hfit : (ws.length : Int) ≤ left
  · go_enter Try.func30, Try.ntmps30
    go_wp2
    go_loop [1, 5] (fun l i => ∃ k : Nat, k ≤ ws.length ∧ i = .int .i64 k ∧ 0 ≤ left - ws.length - sumSz (ws.take k) ∧ l = .int .i64 (left - ws.length - sumSz (ws.take k))) (fun _ i => ws.length - (intOf i).toNat)
    case atStart => exact ⟨0, Nat.zero_le _, rfl, by simp [sumSz]; omega, by simp [sumSz]⟩
    case round =>
      obtain ⟨k, hk, rfl, hpos, rfl⟩ := hrel
      by_cases hlt : k < ws.length
      · obtain ⟨b, off, rfl, hb, hc⟩ := hw.cells (by rintro rfl; simp at hlt)
        have hsm := hw.small _ (List.getElem_mem hlt)
        unfold maxLen at hsm
        clear hw
        have hck := hc k hlt
        have HS : Hid (sumSz (ws.take (k + 1)) = sumSz (ws.take k) + ws[k].size) := sumSz_snoc ws k hlt
        have hle := sumSz_le ws (k + 1)
        clear hc
        by_cases hneg : left - ws.length - sumSz (ws.take k) - ws[k].size < 0
        · have HF : Hid (szRes (strsSz ws) left = -1) := szRes_no (by have := HS.out; unfold strsSz; omega)
          clear hle
          go_wp2
          go_ret
          exact ⟨ret_int HF.out.symm, rfl⟩
        · clear hle
          go_wp2
          go_round
          case rel => exact ⟨k + 1, by omega, by go_num, by rw [HS.out]; omega, by rw [HS.out]; go_num⟩
          case measure => simp [intOf]; omega
      · have HF : Hid (szRes (strsSz ws) left = left - ws.length - sumSz (ws.take k)) := by
          rw [sumSz_all ws k (by omega)] at hpos ⊢
          have e : szRes (strsSz ws) left = left - strsSz ws := szRes_yes (by unfold strsSz; omega)
          unfold Hid; rw [e]; unfold strsSz; omega
        clear hw
        go_wp2
        go_ret
        exact ⟨ret_int HF.out.symm, rfl⟩
  · have HF : Hid (szRes (strsSz ws) left = -1) := szRes_no (by unfold strsSz; omega)
    clear hw
    go_enter Try.func30, Try.ntmps30
    go_wp2
    go_ret
    exact ⟨ret_int HF.out.symm, rfl⟩


set_option maxHeartbeats 400000 in
theorem eqStringS_yes (a a' : Option Addr) (cap cap' : Nat) (ws : List ByteArray) (w : World) (hw : StrsAt w a ws) (hw' : StrsAt w a' ws) :
    Calls Try.prog 38 #[.slice a ws.length cap, .slice a' ws.length cap'] w fun e w' => e = .returned (.bool true) ∧ Below w.heap.size w w' := by
  have hl := hw.len
  unfold maxLen at hl
  have hnn : ((ws.length : Int) != ws.length) = false := by simp
  go_enter Try.func38, Try.ntmps38
  go_wp2
  go_loopw [5] (fun i wr => ∃ k : Nat, k ≤ ws.length ∧ i = .int .i64 k ∧ ∃ n, wr = w.drewN n) (fun i _ => ws.length - (intOf i).toNat)
  case atStart => exact ⟨0, Nat.zero_le _, rfl, 0, rfl⟩
  case round =>
    obtain ⟨k, hk, rfl, nd, rfl⟩ := hrel
    by_cases hlt : k < ws.length
    · obtain ⟨b, off, rfl, hb, hc⟩ := hw.cells (by rintro rfl; simp at hlt)
      obtain ⟨b', off', rfl, hb', hc'⟩ := hw'.cells (by rintro rfl; simp at hlt)
      clear hw hw'
      have hck := hc k hlt
      have hck' := hc' k hlt
      have hltI : (k : Int) < (ws.length : Int) := by omega
      clear hc hc'
      go_wp2
      go_quiet (fail)
      go_wp2
      exact ⟨⟨k + 1, by omega, by go_num, nd + nq, rfl⟩, by simp [intOf]; omega⟩
    · clear hw hw'
      go_wp2
      go_ret
      exact ⟨rfl, below_drewN (Below.refl _ _) nd⟩

set_option maxHeartbeats 1000000 in
theorem eqGateField_yes (nm : ByteArray) (kd ls ms : Int) (a a' : Option Addr) (cap cap' : Nat) (ws : List ByteArray) (to : ByteArray) (rl : Int) (mu fx : Bool) (df wg : ByteArray) (w : World) (hw : StrsAt w a ws) (hw' : StrsAt w a' ws) :
    Calls Try.prog 11 #[.agg #[.string nm, .int .i64 kd, .int .i64 ls, .int .i64 ms, .slice a ws.length cap, .string to, .int .i64 rl, .bool mu, .bool fx, .string df, .string wg], .agg #[.string nm, .int .i64 kd, .int .i64 ls, .int .i64 ms, .slice a' ws.length cap', .string to, .int .i64 rl, .bool mu, .bool fx, .string df, .string wg]] w
      fun e w' => e = .returned (.bool true) ∧ Below w.heap.size w w' := by
  go_enter Try.func11, Try.ntmps11
  go_wp2_with (go_at_call 38; refine (eqStringS_yes _ _ _ _ _ _ (by exact hw.mono (below2' _ _ _)) (by exact hw'.mono (below2' _ _ _))).mono ?_; rintro e w1 ⟨rfl, hb1⟩; have hc1 := (bcell hb1).1; have hz1 := hb1.size; simp only [World.size_alloc] at hz1)
  go_ret
  exact ⟨rfl, (below2' _ _ _).trans (hb1.mono (by simp; omega))⟩

def fldSz (nm : ByteArray) (ws : List ByteArray) (to df wg : ByteArray) : Nat := nm.size + strsSz ws + to.size + df.size + wg.size

theorem szStringS_yes (a : Option Addr) (cap : Nat) (ws : List ByteArray) (left : Int) (w : World) (hw : StrsAt w a ws) (h0 : 0 ≤ left) (h1 : left ≤ 1048576) (h : (strsSz ws : Int) ≤ left) :
    Calls Try.prog 30 #[.slice a ws.length cap, .int .i64 left] w fun e w' => e = .returned (.int .i64 (left - strsSz ws)) ∧ w' = w := by
  refine (szStringS_any a cap ws left w hw h0 h1).mono ?_
  rintro e w' ⟨rfl, rfl⟩
  exact ⟨ret_int (szRes_yes h), rfl⟩

theorem szStringS_no (a : Option Addr) (cap : Nat) (ws : List ByteArray) (left : Int) (w : World) (hw : StrsAt w a ws) (h0 : 0 ≤ left) (h1 : left ≤ 1048576) (h : ¬ (strsSz ws : Int) ≤ left) :
    Calls Try.prog 30 #[.slice a ws.length cap, .int .i64 left] w fun e w' => e = .returned (.int .i64 (-1)) ∧ w' = w := by
  refine (szStringS_any a cap ws left w hw h0 h1).mono ?_
  rintro e w' ⟨rfl, rfl⟩
  exact ⟨ret_int (szRes_no h), rfl⟩

set_option maxHeartbeats 1000000 in
theorem szGateField_any (nm : ByteArray) (kd ls ms : Int) (a : Option Addr) (cap : Nat) (ws : List ByteArray) (to : ByteArray) (rl : Int) (mu fx : Bool) (df wg : ByteArray) (left : Int) (w : World) (hw : StrsAt w a ws) (h0 : 0 ≤ left) (h1 : left ≤ 1048576)
    (hnm : nm.size ≤ maxLen) (hto : to.size ≤ maxLen) (hdf : df.size ≤ maxLen) (hwg : wg.size ≤ maxLen) :
    Calls Try.prog 7 #[.agg #[.string nm, .int .i64 kd, .int .i64 ls, .int .i64 ms, .slice a ws.length cap, .string to, .int .i64 rl, .bool mu, .bool fx, .string df, .string wg], .int .i64 left] w fun e w' => e = .returned (.int .i64 (szRes (fldSz nm ws to df wg) left)) ∧ Below w.heap.size w w' := by
  unfold maxLen at hnm hto hdf hwg
  by_cases c1 : (nm.size : Int) ≤ left
  rotate_left
  · have HF : Hid (szRes (fldSz nm ws to df wg) left = -1) := szRes_no (by unfold fldSz; omega)
    go_enter Try.func7, Try.ntmps7
    go_wp2_with fail
    go_ret
    exact ⟨ret_int HF.out.symm, (Below.refl _ _).alloc (Nat.le_refl _) _⟩
  by_cases c2 : (strsSz ws : Int) ≤ left - nm.size
  rotate_left
  · have HF : Hid (szRes (fldSz nm ws to df wg) left = -1) := szRes_no (by unfold fldSz; omega)
    go_enter Try.func7, Try.ntmps7
    go_wp2_with (go_at_call 30; refine (szStringS_no _ _ _ _ _ (by exact hw.mono ((Below.refl _ _).alloc (Nat.le_refl _) _)) (by omega) (by omega) (by omega)).mono ?_; rintro e w1 ⟨rfl, rfl⟩)
    go_ret
    exact ⟨ret_int HF.out.symm, (Below.refl _ _).alloc (Nat.le_refl _) _⟩
  by_cases c3 : (to.size : Int) ≤ left - nm.size - strsSz ws
  rotate_left
  · have HF : Hid (szRes (fldSz nm ws to df wg) left = -1) := szRes_no (by unfold fldSz; omega)
    go_enter Try.func7, Try.ntmps7
    go_wp2_with (go_at_call 30; refine (szStringS_yes _ _ _ _ _ (by exact hw.mono ((Below.refl _ _).alloc (Nat.le_refl _) _)) (by omega) (by omega) (by omega)).mono ?_; rintro e w1 ⟨rfl, rfl⟩)
    go_ret
    exact ⟨ret_int HF.out.symm, (Below.refl _ _).alloc (Nat.le_refl _) _⟩
  by_cases c4 : (df.size : Int) ≤ left - nm.size - strsSz ws - to.size
  rotate_left
  · have HF : Hid (szRes (fldSz nm ws to df wg) left = -1) := szRes_no (by unfold fldSz; omega)
    go_enter Try.func7, Try.ntmps7
    go_wp2_with (go_at_call 30; refine (szStringS_yes _ _ _ _ _ (by exact hw.mono ((Below.refl _ _).alloc (Nat.le_refl _) _)) (by omega) (by omega) (by omega)).mono ?_; rintro e w1 ⟨rfl, rfl⟩)
    go_ret
    exact ⟨ret_int HF.out.symm, (Below.refl _ _).alloc (Nat.le_refl _) _⟩
  by_cases c5 : (wg.size : Int) ≤ left - nm.size - strsSz ws - to.size - df.size
  rotate_left
  · have HF : Hid (szRes (fldSz nm ws to df wg) left = -1) := szRes_no (by unfold fldSz; omega)
    go_enter Try.func7, Try.ntmps7
    go_wp2_with (go_at_call 30; refine (szStringS_yes _ _ _ _ _ (by exact hw.mono ((Below.refl _ _).alloc (Nat.le_refl _) _)) (by omega) (by omega) (by omega)).mono ?_; rintro e w1 ⟨rfl, rfl⟩)
    go_ret
    exact ⟨ret_int HF.out.symm, (Below.refl _ _).alloc (Nat.le_refl _) _⟩
  · have HF : Hid (szRes (fldSz nm ws to df wg) left = left - nm.size - strsSz ws - to.size - df.size - wg.size) := by
      have e : szRes (fldSz nm ws to df wg) left = left - fldSz nm ws to df wg := szRes_yes (by unfold fldSz; omega)
      unfold Hid; rw [e]; unfold fldSz; omega
    go_enter Try.func7, Try.ntmps7
    go_wp2_with (go_at_call 30; refine (szStringS_yes _ _ _ _ _ (by exact hw.mono ((Below.refl _ _).alloc (Nat.le_refl _) _)) (by omega) (by omega) (by omega)).mono ?_; rintro e w1 ⟨rfl, rfl⟩)
    go_ret
    exact ⟨ret_int HF.out.symm, (Below.refl _ _).alloc (Nat.le_refl _) _⟩

end Go.Proofs.Ytbefjngbilakjaa

namespace Go.Proofs.Ytbefjngbilakjaa
open Go.RowKit

set_option maxHeartbeats 1000000 in
theorem lawFits_any (nm : ByteArray) (kd ls ms : Int) (a : Option Addr) (cap : Nat) (ws : List ByteArray) (to : ByteArray) (rl : Int) (mu fx : Bool) (df wg : ByteArray) (v : ByteArray) (w : World) (hw : StrsAt w a ws)
    (hnm : nm.size ≤ maxLen) (hto : to.size ≤ maxLen) (hdf : df.size ≤ maxLen) (hwg : wg.size ≤ maxLen) (hv : v.size ≤ maxLen) :
    Calls Try.prog 3 #[.agg #[.string nm, .int .i64 kd, .int .i64 ls, .int .i64 ms, .slice a ws.length cap, .string to, .int .i64 rl, .bool mu, .bool fx, .string df, .string wg], .string v] w fun e w' => e = .returned (.bool true) ∧ Below w.heap.size w w' := by
  have hv' := hv
  unfold maxLen at hv'
  by_cases hbig : (v.size : Int) > 1048576
  · go_enter Try.func3, Try.ntmps3
    go_wp2_with fail
    go_ret
    exact ⟨rfl, (Below.refl _ _).alloc (Nat.le_refl _) _⟩
  by_cases hsz : (fldSz nm ws to df wg : Int) ≤ 1048576
  rotate_left
  · go_enter Try.func3, Try.ntmps3
    go_wp2_with fail
    refine (szGateField_any _ _ _ _ _ _ _ _ _ _ _ _ _ _ _ (hw.mono ((Below.refl _ _).alloc (Nat.le_refl _) _)) (by omega) (by omega) hnm hto hdf hwg).mono ?_
    rintro e w1 ⟨rfl, hb1⟩
    rw [szRes_no (by omega)]
    go_wp2_with fail
    go_ret
    exact ⟨rfl, ((Below.refl _ _).alloc (Nat.le_refl _) _).trans (hb1.mono (by simp))⟩
  · have HL : Hid (ws.length ≤ 1048576) := by unfold fldSz strsSz at hsz; unfold Hid; omega
    go_enter Try.func3, Try.ntmps3
    go_wp2_with fail
    have hb0 : Below w.heap.size w (w.alloc (.cells #[.string nm, .int .i64 kd, .int .i64 ls, .int .i64 ms, .slice a ws.length cap, .string to, .int .i64 rl, .bool mu, .bool fx, .string df, .string wg] 24)) := (Below.refl _ _).alloc (Nat.le_refl _) _
    refine (szGateField_any _ _ _ _ _ _ _ _ _ _ _ _ _ _ _ (hw.mono hb0) (by omega) (by omega) hnm hto hdf hwg).mono ?_
    rintro e w1 ⟨rfl, hb1⟩
    rw [szRes_yes hsz]
    have hX1 := box_later (box_new w _ _) (by simp) hb1
    have hz1 : w.heap.size < w1.heap.size := by have := hb1.size; simp at this; omega
    have hB1 := hb0.trans (hb1.mono (by simp))
    clear hb1 hb0
    have hneg : decide (1048576 - (fldSz nm ws to df wg : Int) < 0) = false := by simp; omega
    go_wp2_with fail
    refine (toGateField_any _ _ _ _ _ _ _ _ _ _ _ _ _ _ (hw.mono hB1) HL.out).mono ?_
    rintro e w2 ⟨bk2, rfl, hlo2, hhi2, hbk2, hb2⟩
    have hX2 := box_later hX1 hz1 hb2
    have hz2 : w.heap.size < w2.heap.size := by have := hb2.size; omega
    have hB2 := hB1.trans (hb2.mono (by omega))
    have hS2 : StrsAt w2 (some ⟨bk2, 0, none⟩) ws := heap_strs hbk2 hw.len hw.small
    clear hX1 hB1 hb2 hbk2 hlo2 hhi2
    go_wp2_with fail
    refine (specFits_any _ _ _ _ _ _ _ _ _ _ _ _ _ _ _ hv hS2).mono ?_
    rintro e w3 ⟨rfl, hb3⟩
    have hX3 := box_later hX2 hz2 hb3
    have hz3 : w.heap.size < w3.heap.size := by have := hb3.size; omega
    have hB3 := hB2.trans (hb3.mono (by omega))
    clear hX2 hB2 hb3 hS2 hz1 hz2
    go_wp2_with fail
    refine (toGateField_any _ _ _ _ _ _ _ _ _ _ _ _ _ _ (hw.mono hB3) HL.out).mono ?_
    rintro e w4 ⟨bk4, rfl, hlo4, hhi4, hbk4, hb4⟩
    have hX4 := box_later hX3 hz3 hb4
    have hz4 : w.heap.size < w4.heap.size := by have := hb4.size; omega
    have hB4 := hB3.trans (hb4.mono (by omega))
    have hS4 : StrsAt w4 (some ⟨bk4, 0, none⟩) ws := heap_strs hbk4 hw.len hw.small
    clear hX3 hB3 hb4 hbk4 hlo4 hhi4 hz3
    go_wp2_with fail
    refine (implFits_any _ _ _ _ _ _ _ _ _ _ _ _ _ _ _ hv (by exact hS4.mono ((Below.refl _ _).alloc (Nat.le_refl _) _))).mono ?_
    rintro e w5 ⟨rfl, hb5⟩
    have hX5 := box_later hX4 hz4 (((Below.refl _ _).alloc (Nat.le_refl _) _).trans (hb5.mono (by simp)))
    have hY5 := box_later (box_new w4 _ _) (by simp) hb5
    have hz5 : w4.heap.size < w5.heap.size := by have := hb5.size; simp at this; omega
    have hb45 : Below w4.heap.size w4 w5 := ((Below.refl _ _).alloc (Nat.le_refl _) _).trans (hb5.mono (by simp))
    have hS5 := hS4.mono hb45
    have hB5 := hB4.trans (hb45.mono (by omega))
    clear hX4 hB4 hb5 hS4 hb45
    go_wp2_with fail
    go_region_with (first
      | (go_at_call 9; refine (toGateField_any _ _ _ _ _ _ _ _ _ _ _ _ _ _ (by exact hw.mono hB5.drew) HL.out).mono ?_; rintro e w6 ⟨bk6, rfl, hlo6, hhi6, hbk6, hb6'⟩; have hb6 := (Below.refl w5.heap.size w5).drew.trans hb6'; have hY6 := box_later hY5 hz5 hb6; have hS6 := heap_strs hbk6 hw.len hw.small; clear hb6')
      | (go_at_call 11; refine (eqGateField_yes _ _ _ _ _ _ _ _ _ _ _ _ _ _ _ _ (by exact hS5.mono hb6) (by exact hS6)).mono ?_; rintro e w7 ⟨rfl, hb7⟩))
    all_goals go_wp2_with fail
    all_goals go_ret
    all_goals exact ⟨rfl, (hB5.trans (hb6.mono (by omega))).trans (hb7.mono (by have := hb6.size; omega))⟩

end Go.Proofs.Ytbefjngbilakjaa
