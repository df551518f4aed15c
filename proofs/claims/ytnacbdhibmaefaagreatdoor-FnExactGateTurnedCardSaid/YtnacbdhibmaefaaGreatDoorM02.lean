import Derived.WalkKit
import Derived.Laws.NewBlocks
import Derived.Laws.MakeOwn
import Derived.Laws.OwnMore
import Derived.Deep.Draws
import Derived.Test.YtnacbdhibmaefaaGreatDoorM01
import Derived.Deep.QuietTactic
import Derived.BigQuiet
namespace Go.Proofs.YtnacbdhibmaefaaGreatDoor
open Go.RowKit

/-- A slice of strings that lies in memory: its address, its strings. -/
structure StrsAt (w : World) (a : Option Addr) (ws : List ByteArray) : Prop where
  len : ws.length ≤ maxLen
  small : ∀ s ∈ ws, s.size ≤ maxLen
  cells : ws ≠ [] → ∃ b off, a = some ⟨b, off, none⟩ ∧ b < w.heap.size ∧ ∀ i (h : i < ws.length), w.cell? ⟨b, off + i, none⟩ = some (.string ws[i])

theorem StrsAt.mono {w w' : World} {a : Option Addr} {ws : List ByteArray} (h : StrsAt w a ws) (hb : Below w.heap.size w w') : StrsAt w' a ws :=
  ⟨h.len, h.small, fun hne => by
    obtain ⟨b, off, ha, hbs, hc⟩ := h.cells hne
    exact ⟨b, off, ha, Nat.lt_of_lt_of_le hbs hb.size, fun i hi => (hb.cell (p := ⟨b, off + i, none⟩) hbs).trans (hc i hi)⟩⟩

theorem bcell {W w1 : World} (hb : Below W.heap.size W w1) : (∀ b o, b < W.heap.size → w1.cell? ⟨b, o, none⟩ = W.cell? ⟨b, o, none⟩) ∧ (∀ b o, b < W.heap.size → w1.frozen? ⟨b, o, none⟩ = W.frozen? ⟨b, o, none⟩) :=
  ⟨fun b o h => hb.cell (p := ⟨b, o, none⟩) h, fun b o h => hb.frozen (p := ⟨b, o, none⟩) h⟩

/-- The cells of a row of strings. -/
def strArr (ws : List ByteArray) : Array Value := (ws.map Value.string).toArray
/-- The same, filled up to k. -/
def strCells (ws : List ByteArray) (k : Nat) : Array Value := ((ws.take k).map Value.string ++ List.replicate (ws.length - k) (Value.string ByteArray.empty)).toArray

theorem strCells_at (ws : List ByteArray) (k : Nat) (h : k < ws.length) : (strCells ws k)[k]? = some (.string ByteArray.empty) := by
  unfold strCells
  have hl : ((ws.take k).map Value.string).length = k := by simp; omega
  rw [List.getElem?_toArray, List.getElem?_append_right (by omega), hl, Nat.sub_self]
  obtain ⟨m, hm⟩ : ∃ m, ws.length - k = m + 1 := ⟨ws.length - k - 1, by omega⟩
  rw [hm, List.replicate_succ]; rfl

theorem strCells_set (ws : List ByteArray) (k : Nat) (h : k < ws.length) : (strCells ws k).setIfInBounds k (.string ws[k]) = strCells ws (k + 1) := by
  unfold strCells
  rw [List.setIfInBounds_toArray, List.set_append_right _ _ (by simp; omega)]
  congr 1
  rw [List.take_succ_eq_append_getElem h, List.map_append, List.append_assoc]
  congr 1
  obtain ⟨m, hm⟩ : ∃ m, ws.length - k = m + 1 := ⟨ws.length - k - 1, by omega⟩
  rw [hm, show ws.length - (k + 1) = m by omega]
  have : k - ((ws.take k).map Value.string).length = 0 := by simp; omega
  rw [this, List.replicate_succ]
  rfl

theorem strCells_all (ws : List ByteArray) (k : Nat) (h : ws.length ≤ k) : strCells ws k = strArr ws := by
  unfold strCells strArr
  rw [List.take_of_length_le h, show ws.length - k = 0 by omega]; simp

theorem strCells_zero (ws : List ByteArray) : madeCells #[Value.string ByteArray.empty] ws.length = strCells ws 0 := by
  apply Array.toList_inj.1
  rw [toList_madeCells_one]
  simp [strCells]

theorem strArr_at (w : World) (ws : List ByteArray) (t : TypeId) (h : ws.length ≤ maxLen) (hs : ∀ s ∈ ws, s.size ≤ maxLen) : StrsAt (w.alloc (.cells (strArr ws) t)) (some ⟨w.heap.size, 0, none⟩) ws :=
  ⟨h, hs, fun _ => ⟨w.heap.size, 0, rfl, by simp, fun i hi => by
    rw [World.cell?_alloc_at (hn := rfl)]
    simp [strArr, hi]⟩⟩

theorem heap_strs {w : World} {bk : Nat} {ws : List ByteArray} {t : TypeId} (h : w.heap[bk]? = some (.cells (strArr ws) t)) (hl : ws.length ≤ maxLen) (hs : ∀ s ∈ ws, s.size ≤ maxLen) : StrsAt w (some ⟨bk, 0, none⟩) ws :=
  ⟨hl, hs, fun _ => ⟨bk, 0, rfl, (Array.getElem?_eq_some_iff.1 h).1, fun i hi => by
    simp [World.cell?, h, strArr, hi]⟩⟩

theorem box_later {wk wl : World} {b : Nat} {X : Array Value} (h : ∀ o, wk.cell? ⟨b, o, none⟩ = X[o]?) (hb : b < wk.heap.size) (hl : Below wk.heap.size wk wl) : ∀ o, wl.cell? ⟨b, o, none⟩ = X[o]? :=
  fun o => (hl.cell (p := ⟨b, o, none⟩) hb).trans (h o)

theorem box_new (w : World) (X : Array Value) (t : TypeId) : ∀ o, (w.alloc (.cells X t)).cell? ⟨w.heap.size, o, none⟩ = X[o]? := fun _ => World.cell?_alloc_at _ _ _ _ rfl

theorem below_drewN {B : Nat} {a w : World} (h : Below B a w) (n : Nat) : Below B a (w.drewN n) := h.trans ⟨rfl, rfl, rfl, Nat.le_refl _, fun _ _ => rfl⟩
theorem below2' (w : World) (o o' : Obj) : Below w.heap.size w ((w.alloc o).alloc o') := ((Below.refl _ _).alloc (Nat.le_refl _) _).alloc (by simp) _
theorem as_bool {P : Program} {f : FuncId} {args : Array Value} {w : World} {b c : Bool} {R : World → Prop} (hb : b = c) (h : Calls P f args w fun e w' => e = .returned (.bool b) ∧ R w') : Calls P f args w fun e w' => e = .returned (.bool c) ∧ R w' := by
  subst hb; exact h

end Go.Proofs.YtnacbdhibmaefaaGreatDoor

namespace Go.Proofs.YtnacbdhibmaefaaGreatDoor
open Go.RowKit

set_option maxHeartbeats 400000 in
theorem l1Has_any (a : Option Addr) (cap : Nat) (ws : List ByteArray) (v : ByteArray) (w : World) (hw : StrsAt w a ws) :
    Calls Tryz.prog 65 #[.slice a ws.length cap, .string v] w fun e w' => e = .returned (.bool (Gate.has ws v)) ∧ w' = w := by
  have hl := hw.len
  unfold maxLen at hl
  by_cases hne : ws = []
  · subst hne
    go_enter Tryz.func65, Tryz.ntmps65
    go_wp2
    go_loop [5] (fun i => i = .int .i64 0) (fun i => 0)
    case atStart => rfl
    case round =>
      subst hrel
      go_wp2
      go_ret
      exact ⟨rfl, rfl⟩
  · obtain ⟨b, off, rfl, hb, hc⟩ := hw.cells hne
    clear hw
    have HL : Hid (0 < ws.length) := List.length_pos_iff.2 hne
    clear hne
    go_enter Tryz.func65, Tryz.ntmps65
    go_wp2
    go_loop [5] (fun i => ∃ k : Nat, k ≤ ws.length ∧ i = .int .i64 k ∧ Gate.has (ws.take k) v = false) (fun i => ws.length - (intOf i).toNat)
    case atStart => exact ⟨0, Nat.zero_le _, rfl, rfl⟩
    case round =>
      obtain ⟨k, hk, rfl, hall⟩ := hrel
      by_cases hlt : k < ws.length
      · have hck := hc k hlt
        clear hc
        have HS : Hid (Gate.has (ws.take (k + 1)) v = (false || decide (ws[k] = v))) := by rw [Gate.has_snoc ws v k hlt, hall]; rfl
        have HN : Hid (ws[k] = v → Gate.has ws v = true) := fun h => Gate.has_at ws v k hlt h
        clear hall
        by_cases he : ws[k] = v
        · have hbe : (ws[k].toList == v.toList) = true := by rw [Gate.beq_toList]; simpa using he
          have HE : Hid (ws[k] = v) := he
          clear he
          go_wp2
          go_ret
          exact ⟨ret_bool (HN.out HE.out).symm, rfl⟩
        · have hbe : (ws[k].toList == v.toList) = false := by rw [Gate.beq_toList]; simpa using he
          have HE : Hid (¬ ws[k] = v) := he
          clear he
          go_wp2
          go_round
          case rel => exact ⟨k + 1, by omega, by go_num, by rw [HS.out, decide_eq_false HE.out]; rfl⟩
          case measure => simp [intOf]; omega
      · have HA : Hid (Gate.has ws v = false) := by rw [← Gate.has_all ws v k (by omega)]; exact hall
        clear hall hc
        go_wp2
        go_ret
        exact ⟨ret_bool HA.out.symm, rfl⟩

end Go.Proofs.YtnacbdhibmaefaaGreatDoor

namespace Go.Proofs.YtnacbdhibmaefaaGreatDoor
open Go.RowKit

def sumSz (ws : List ByteArray) : Nat := (ws.map ByteArray.size).sum
def strsSz (ws : List ByteArray) : Nat := ws.length + sumSz ws
def szRes (t : Nat) (left : Int) : Int := if (t : Int) ≤ left then left - t else -1

theorem szRes_yes {t : Nat} {left : Int} (h : (t : Int) ≤ left) : szRes t left = left - t := by simp [szRes, h]
theorem szRes_no {t : Nat} {left : Int} (h : ¬ (t : Int) ≤ left) : szRes t left = -1 := by simp [szRes, h]

theorem sumSz_snoc (ws : List ByteArray) (k : Nat) (h : k < ws.length) : sumSz (ws.take (k + 1)) = sumSz (ws.take k) + ws[k].size := by
  unfold sumSz; rw [List.take_succ_eq_append_getElem h, List.map_append, List.sum_append]; simp

theorem sumSz_le (ws : List ByteArray) (k : Nat) : sumSz (ws.take k) ≤ sumSz ws := by
  unfold sumSz
  conv => rhs; rw [← List.take_append_drop k ws]
  rw [List.map_append, List.sum_append]; omega

theorem sumSz_all (ws : List ByteArray) (k : Nat) (h : ws.length ≤ k) : sumSz (ws.take k) = sumSz ws := by rw [List.take_of_length_le h]

set_option maxHeartbeats 400000 in
theorem szStringS_any (a : Option Addr) (cap : Nat) (ws : List ByteArray) (left : Int) (w : World) (hw : StrsAt w a ws) (h0 : 0 ≤ left) (h1 : left ≤ 1048576) :
    Calls Tryz.prog 13 #[.slice a ws.length cap, .int .i64 left] w fun e w' => e = .returned (.int .i64 (szRes (strsSz ws) left)) ∧ w' = w := by
  have hl := hw.len
  unfold maxLen at hl
  by_cases hfit : (ws.length : Int) ≤ left
  · go_enter Tryz.func13, Tryz.ntmps13
    go_wp2
    go_loop [1, 5] (fun l i => ∃ k : Nat, k ≤ ws.length ∧ i = .int .i64 k ∧ 0 ≤ left - ws.length - sumSz (ws.take k) ∧ l = .int .i64 (left - ws.length - sumSz (ws.take k))) (fun _ i => ws.length - (intOf i).toNat)
    case atStart => exact ⟨0, Nat.zero_le _, rfl, by simp [sumSz]; omega, by simp [sumSz]⟩
    case round =>
      obtain ⟨k, hk, rfl, hpos, rfl⟩ := hrel
      by_cases hlt : k < ws.length
      · obtain ⟨b, off, rfl, hb, hc⟩ := hw.cells (by rintro rfl; simp at hlt)
        have hsm := hw.small _ (List.getElem_mem hlt)
        unfold maxLen at hsm
        clear hw
        have hck := hc k hlt
        have HS : Hid (sumSz (ws.take (k + 1)) = sumSz (ws.take k) + ws[k].size) := sumSz_snoc ws k hlt
        have hle := sumSz_le ws (k + 1)
        clear hc
        by_cases hneg : left - ws.length - sumSz (ws.take k) - ws[k].size < 0
        · have HF : Hid (szRes (strsSz ws) left = -1) := szRes_no (by have := HS.out; unfold strsSz; omega)
          clear hle
          go_wp2
          go_ret
          exact ⟨ret_int HF.out.symm, rfl⟩
        · clear hle
          go_wp2
          go_round
          case rel => exact ⟨k + 1, by omega, by go_num, by rw [HS.out]; omega, by rw [HS.out]; go_num⟩
          case measure => simp [intOf]; omega
      · have HF : Hid (szRes (strsSz ws) left = left - ws.length - sumSz (ws.take k)) := by
          rw [sumSz_all ws k (by omega)] at hpos ⊢
          have e : szRes (strsSz ws) left = left - strsSz ws := szRes_yes (by unfold strsSz; omega)
          unfold Hid; rw [e]; unfold strsSz; omega
        clear hw
        go_wp2
        go_ret
        exact ⟨ret_int HF.out.symm, rfl⟩
  · have HF : Hid (szRes (strsSz ws) left = -1) := szRes_no (by unfold strsSz; omega)
    clear hw
    go_enter Tryz.func13, Tryz.ntmps13
    go_wp2
    go_ret
    exact ⟨ret_int HF.out.symm, rfl⟩


set_option maxHeartbeats 400000 in
theorem eqStringS_yes (a a' : Option Addr) (cap cap' : Nat) (ws : List ByteArray) (w : World) (hw : StrsAt w a ws) (hw' : StrsAt w a' ws) :
    Calls Tryz.prog 22 #[.slice a ws.length cap, .slice a' ws.length cap'] w fun e w' => e = .returned (.bool true) ∧ Below w.heap.size w w' := by
  have hl := hw.len
  unfold maxLen at hl
  have hnn : ((ws.length : Int) != ws.length) = false := by simp
  go_enter Tryz.func22, Tryz.ntmps22
  go_wp2
  go_loopw [5] (fun i wr => ∃ k : Nat, k ≤ ws.length ∧ i = .int .i64 k ∧ ∃ n, wr = w.drewN n) (fun i _ => ws.length - (intOf i).toNat)
  case atStart => exact ⟨0, Nat.zero_le _, rfl, 0, rfl⟩
  case round =>
    obtain ⟨k, hk, rfl, nd, rfl⟩ := hrel
    by_cases hlt : k < ws.length
    · obtain ⟨b, off, rfl, hb, hc⟩ := hw.cells (by rintro rfl; simp at hlt)
      obtain ⟨b', off', rfl, hb', hc'⟩ := hw'.cells (by rintro rfl; simp at hlt)
      clear hw hw'
      have hck := hc k hlt
      have hck' := hc' k hlt
      have hltI : (k : Int) < (ws.length : Int) := by omega
      clear hc hc'
      go_wp2
      go_quiet (fail)
      go_wp2
      exact ⟨⟨k + 1, by omega, by go_num, nd + nq, rfl⟩, by simp [intOf]; omega⟩
    · clear hw hw'
      go_wp2
      go_ret
      exact ⟨rfl, below_drewN (Below.refl _ _) nd⟩

set_option maxHeartbeats 1000000 in
theorem eqGateField_yes (nm : ByteArray) (kd ls ms : Int) (a a' : Option Addr) (cap cap' : Nat) (ws : List ByteArray) (to : ByteArray) (rl : Int) (mu fx : Bool) (df wg : ByteArray) (w : World) (hw : StrsAt w a ws) (hw' : StrsAt w a' ws) :
    Calls Tryz.prog 61 #[.agg #[.string nm, .int .i64 kd, .int .i64 ls, .int .i64 ms, .slice a ws.length cap, .string to, .int .i64 rl, .bool mu, .bool fx, .string df, .string wg], .agg #[.string nm, .int .i64 kd, .int .i64 ls, .int .i64 ms, .slice a' ws.length cap', .string to, .int .i64 rl, .bool mu, .bool fx, .string df, .string wg]] w
      fun e w' => e = .returned (.bool true) ∧ Below w.heap.size w w' := by
  go_enter Tryz.func61, Tryz.ntmps61
  go_wp2_with (go_at_call 22; refine (eqStringS_yes _ _ _ _ _ _ (by exact hw.mono (below2' _ _ _)) (by exact hw'.mono (below2' _ _ _))).mono ?_; rintro e w1 ⟨rfl, hb1⟩; have hc1 := (bcell hb1).1; have hz1 := hb1.size; simp only [World.size_alloc] at hz1)
  go_ret
  exact ⟨rfl, (below2' _ _ _).trans (hb1.mono (by simp; omega))⟩

def fldSz (nm : ByteArray) (ws : List ByteArray) (to df wg : ByteArray) : Nat := nm.size + strsSz ws + to.size + df.size + wg.size

theorem szStringS_yes (a : Option Addr) (cap : Nat) (ws : List ByteArray) (left : Int) (w : World) (hw : StrsAt w a ws) (h0 : 0 ≤ left) (h1 : left ≤ 1048576) (h : (strsSz ws : Int) ≤ left) :
    Calls Tryz.prog 13 #[.slice a ws.length cap, .int .i64 left] w fun e w' => e = .returned (.int .i64 (left - strsSz ws)) ∧ w' = w := by
  refine (szStringS_any a cap ws left w hw h0 h1).mono ?_
  rintro e w' ⟨rfl, rfl⟩
  exact ⟨ret_int (szRes_yes h), rfl⟩

theorem szStringS_no (a : Option Addr) (cap : Nat) (ws : List ByteArray) (left : Int) (w : World) (hw : StrsAt w a ws) (h0 : 0 ≤ left) (h1 : left ≤ 1048576) (h : ¬ (strsSz ws : Int) ≤ left) :
    Calls Tryz.prog 13 #[.slice a ws.length cap, .int .i64 left] w fun e w' => e = .returned (.int .i64 (-1)) ∧ w' = w := by
  refine (szStringS_any a cap ws left w hw h0 h1).mono ?_
  rintro e w' ⟨rfl, rfl⟩
  exact ⟨ret_int (szRes_no h), rfl⟩

set_option maxHeartbeats 1000000 in
theorem szGateField_any (nm : ByteArray) (kd ls ms : Int) (a : Option Addr) (cap : Nat) (ws : List ByteArray) (to : ByteArray) (rl : Int) (mu fx : Bool) (df wg : ByteArray) (left : Int) (w : World) (hw : StrsAt w a ws) (h0 : 0 ≤ left) (h1 : left ≤ 1048576)
    (hnm : nm.size ≤ maxLen) (hto : to.size ≤ maxLen) (hdf : df.size ≤ maxLen) (hwg : wg.size ≤ maxLen) :
    Calls Tryz.prog 37 #[.agg #[.string nm, .int .i64 kd, .int .i64 ls, .int .i64 ms, .slice a ws.length cap, .string to, .int .i64 rl, .bool mu, .bool fx, .string df, .string wg], .int .i64 left] w fun e w' => e = .returned (.int .i64 (szRes (fldSz nm ws to df wg) left)) ∧ Below w.heap.size w w' := by
  unfold maxLen at hnm hto hdf hwg
  by_cases c1 : (nm.size : Int) ≤ left
  rotate_left
  · have HF : Hid (szRes (fldSz nm ws to df wg) left = -1) := szRes_no (by unfold fldSz; omega)
    go_enter Tryz.func37, Tryz.ntmps37
    go_wp2_with fail
    go_ret
    exact ⟨ret_int HF.out.symm, (Below.refl _ _).alloc (Nat.le_refl _) _⟩
  by_cases c2 : (strsSz ws : Int) ≤ left - nm.size
  rotate_left
  · have HF : Hid (szRes (fldSz nm ws to df wg) left = -1) := szRes_no (by unfold fldSz; omega)
    go_enter Tryz.func37, Tryz.ntmps37
    go_wp2_with (go_at_call 13; refine (szStringS_no _ _ _ _ _ (by exact hw.mono ((Below.refl _ _).alloc (Nat.le_refl _) _)) (by omega) (by omega) (by omega)).mono ?_; rintro e w1 ⟨rfl, rfl⟩)
    go_ret
    exact ⟨ret_int HF.out.symm, (Below.refl _ _).alloc (Nat.le_refl _) _⟩
  by_cases c3 : (to.size : Int) ≤ left - nm.size - strsSz ws
  rotate_left
  · have HF : Hid (szRes (fldSz nm ws to df wg) left = -1) := szRes_no (by unfold fldSz; omega)
    go_enter Tryz.func37, Tryz.ntmps37
    go_wp2_with (go_at_call 13; refine (szStringS_yes _ _ _ _ _ (by exact hw.mono ((Below.refl _ _).alloc (Nat.le_refl _) _)) (by omega) (by omega) (by omega)).mono ?_; rintro e w1 ⟨rfl, rfl⟩)
    go_ret
    exact ⟨ret_int HF.out.symm, (Below.refl _ _).alloc (Nat.le_refl _) _⟩
  by_cases c4 : (df.size : Int) ≤ left - nm.size - strsSz ws - to.size
  rotate_left
  · have HF : Hid (szRes (fldSz nm ws to df wg) left = -1) := szRes_no (by unfold fldSz; omega)
    go_enter Tryz.func37, Tryz.ntmps37
    go_wp2_with (go_at_call 13; refine (szStringS_yes _ _ _ _ _ (by exact hw.mono ((Below.refl _ _).alloc (Nat.le_refl _) _)) (by omega) (by omega) (by omega)).mono ?_; rintro e w1 ⟨rfl, rfl⟩)
    go_ret
    exact ⟨ret_int HF.out.symm, (Below.refl _ _).alloc (Nat.le_refl _) _⟩
  by_cases c5 : (wg.size : Int) ≤ left - nm.size - strsSz ws - to.size - df.size
  rotate_left
  · have HF : Hid (szRes (fldSz nm ws to df wg) left = -1) := szRes_no (by unfold fldSz; omega)
    go_enter Tryz.func37, Tryz.ntmps37
    go_wp2_with (go_at_call 13; refine (szStringS_yes _ _ _ _ _ (by exact hw.mono ((Below.refl _ _).alloc (Nat.le_refl _) _)) (by omega) (by omega) (by omega)).mono ?_; rintro e w1 ⟨rfl, rfl⟩)
    go_ret
    exact ⟨ret_int HF.out.symm, (Below.refl _ _).alloc (Nat.le_refl _) _⟩
  · have HF : Hid (szRes (fldSz nm ws to df wg) left = left - nm.size - strsSz ws - to.size - df.size - wg.size) := by
      have e : szRes (fldSz nm ws to df wg) left = left - fldSz nm ws to df wg := szRes_yes (by unfold fldSz; omega)
      unfold Hid; rw [e]; unfold fldSz; omega
    go_enter Tryz.func37, Tryz.ntmps37
    go_wp2_with (go_at_call 13; refine (szStringS_yes _ _ _ _ _ (by exact hw.mono ((Below.refl _ _).alloc (Nat.le_refl _) _)) (by omega) (by omega) (by omega)).mono ?_; rintro e w1 ⟨rfl, rfl⟩)
    go_ret
    exact ⟨ret_int HF.out.symm, (Below.refl _ _).alloc (Nat.le_refl _) _⟩

end Go.Proofs.YtnacbdhibmaefaaGreatDoor
