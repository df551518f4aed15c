import Derived.Test.YtbefjngbilakjaaM02
import Derived.WalkKit
import Derived.MapKept
namespace Go.Proofs.Ytbefjngbilakjaa
open Go.RowKit

def numRes (s : ByteArray) : Int := if Gate.decOk s = true then Gate.decS s else -1

theorem pow_small (k : Nat) (h : k ≤ 7) : (10 : Int) ^ k ≤ 10000000 := by
  have : k = 0 ∨ k = 1 ∨ k = 2 ∨ k = 3 ∨ k = 4 ∨ k = 5 ∨ k = 6 ∨ k = 7 := by omega
  rcases this with h | h | h | h | h | h | h | h <;> subst h <;> decide

set_option maxHeartbeats 800000 in
theorem l1Number_loop (s : ByteArray) (w : World) (h1 : 1 ≤ s.size) (h7 : s.size ≤ 7) (hz : s.size ≤ 1 ∨ ¬ (s[0].toNat : Int) = 48) :
    Calls Try.prog 31 #[.string s] w fun e w' => e = .returned (.int .i64 (numRes s)) ∧ w' = w := by
  have HF : Hid (Gate.decOk s = Gate.allDigit s) := Gate.decOk_all s h1 h7 hz
  rcases (show (s.size ≤ 1) ∨ (1 < s.size ∧ ¬ (s[0].toNat : Int) = 48) by rcases hz with h | h <;> omega) with hone | ⟨hmore, hz0⟩
  all_goals
    clear hz
    try have hz1 : ((s[0].toNat : Int) == 48) = false := by simpa using hz0
    try clear hz0
    go_enter Try.func31, Try.ntmps31
    go_wp2_with (go_at_call 32; refine (l1In_yes _ _ _ _ (by omega) (by omega)).mono ?_; rintro e w' ⟨rfl, rfl⟩)
    go_loop [3, 4] (fun n i => ∃ k : Nat, k ≤ s.size ∧ i = .int .i64 k ∧ (s.data.toList.take k).all Gate.digit = true ∧ n = .int .i64 (Gate.dec (s.data.toList.take k))) (fun _ i => s.size - (intOf i).toNat)
    case atStart => exact ⟨0, Nat.zero_le _, rfl, rfl, rfl⟩
    case round =>
      obtain ⟨k, hk, rfl, hall, rfl⟩ := hrel
      have hlen : (s.data.toList.take k).length ≤ k := List.length_take_le _ _
      obtain ⟨hd0, hd1⟩ := Gate.dec_bound _ hall k hlen
      by_cases hlt : k < s.size
      · have hp := pow_small k (by omega)
        have hd2 : Gate.dec (s.data.toList.take k) < 10000000 := by omega
        clear hp hd1 hlen
        have HS : Hid ((s.data.toList.take (k + 1)).all Gate.digit = (true && Gate.digit s[k])) := by rw [Gate.all_snoc _ s k hlt, hall]; rfl
        have HD : Hid (Gate.dec (s.data.toList.take (k + 1)) = Gate.dec (s.data.toList.take k) * 10 + ((s[k].toNat : Int) - 48)) := by rw [Gate.take_snoc s k hlt]; exact Gate.dec_snoc _ _
        have HN : Hid (Gate.digit s[k] = false → Gate.allDigit s = false) := fun h => Gate.all_not Gate.digit s k hlt h
        clear hall
        by_cases h48 : (s[k].toNat : Int) < 48
        · have HC : Hid (Gate.digit s[k] = false) := by simp [Gate.digit, Hid]; omega
          go_wp2
          go_ret
          exact ⟨ret_int (by unfold numRes; rw [HF.out, HN.out HC.out]; rfl), rfl⟩
        · by_cases h57 : 57 < (s[k].toNat : Int)
          · have HC : Hid (Gate.digit s[k] = false) := by simp [Gate.digit, Hid]; omega
            go_wp2
            go_ret
            exact ⟨ret_int (by unfold numRes; rw [HF.out, HN.out HC.out]; rfl), rfl⟩
          · have HC : Hid (Gate.digit s[k] = true) := by simp [Gate.digit, Hid]; omega
            go_wp2
            go_round
            case rel => exact ⟨k + 1, by omega, by go_num, by rw [HS.out, HC.out]; rfl, by rw [HD.out]; go_num⟩
            case measure => simp [intOf]; omega
      · have HA : Hid (Gate.allDigit s = true) := by unfold Gate.allDigit Hid; rw [← Gate.take_all s k (by omega)]; exact hall
        have HB : Hid (Gate.dec (s.data.toList.take k) = Gate.decS s) := by rw [Gate.take_all s k (by omega)]; rfl
        clear hall hd0 hd1 hlen
        go_wp2
        go_ret
        exact ⟨ret_int (by unfold numRes; rw [HF.out, HA.out, HB.out]; rfl), rfl⟩

set_option maxHeartbeats 400000 in
theorem l1Number_any (s : ByteArray) (w : World) (hs : s.size ≤ maxLen) :
    Calls Try.prog 31 #[.string s] w fun e w' => e = .returned (.int .i64 (numRes s)) ∧ w' = w := by
  unfold maxLen at hs
  by_cases h17 : 1 ≤ s.size ∧ s.size ≤ 7
  · obtain ⟨h1, h7⟩ := h17
    by_cases hz : 1 < s.size ∧ (s[0].toNat : Int) = 48
    · obtain ⟨hm, hz0⟩ := hz
      have HF : Hid (numRes s = -1) := by unfold numRes Hid; rw [Gate.decOk_no_zero s hm hz0]; rfl
      have hz1 : ((s[0].toNat : Int) == 48) = true := by simpa using hz0
      clear hz0
      go_enter Try.func31, Try.ntmps31
      go_wp2_with (go_at_call 32; refine (l1In_yes _ _ _ _ (by omega) (by omega)).mono ?_; rintro e w' ⟨rfl, rfl⟩)
      go_ret
      exact ⟨ret_int HF.out.symm, rfl⟩
    · exact l1Number_loop s w h1 h7 (by omega)
  · have HF : Hid (numRes s = -1) := by unfold numRes Hid; rw [Gate.decOk_no_len s h17]; rfl
    go_enter Try.func31, Try.ntmps31
    go_wp2_with (go_at_call 32; refine (l1In_no _ _ _ _ (by omega)).mono ?_; rintro e w' ⟨rfl, rfl⟩)
    go_ret
    exact ⟨ret_int HF.out.symm, rfl⟩

end Go.Proofs.Ytbefjngbilakjaa

namespace Go.Proofs.Ytbefjngbilakjaa
open Go.RowKit

theorem ret_two {a b : Int} {p q : Bool} (h : a = b) (h2 : p = q) : Ending.returned (.tuple #[.int .i64 a, .bool p]) = .returned (.tuple #[.int .i64 b, .bool q]) := by rw [h, h2]
def decNum (s : ByteArray) : Int := if Gate.decOk s = true then Gate.decS s else 0

set_option maxHeartbeats 800000 in
theorem decimalOf_loop (s : ByteArray) (w : World) (h1 : 1 ≤ s.size) (h7 : s.size ≤ 7) (hz : s.size ≤ 1 ∨ ¬ (s[0].toNat : Int) = 48) :
    Calls Try.prog 108 #[.string s] w fun e w' => e = .returned (.tuple #[.int .i64 (decNum s), .bool (Gate.decOk s)]) ∧ w' = w := by
  have HF : Hid (Gate.decOk s = Gate.allDigit s) := Gate.decOk_all s h1 h7 hz
  have hne : s.toList.isEmpty = false := by rw [Gate.isEmpty_of_size]; exact decide_eq_false (by omega)
  rcases (show (¬ (s[0].toNat : Int) = 48) ∨ (s.size ≤ 1 ∧ (s[0].toNat : Int) = 48) by rcases hz with h | h <;> omega) with hz0 | ⟨hone, hz0⟩
  all_goals
    clear hz
    first
      | (have hz1 : ((s[0].toNat : Int) == 48) = true := by simpa using hz0)
      | (have hz1 : ((s[0].toNat : Int) == 48) = false := by simpa using hz0)
    clear hz0
    go_enter Try.func108, Try.ntmps108
    go_wp2
    go_loop [4, 25] (fun n i => ∃ k : Nat, k ≤ s.size ∧ i = .int .i64 k ∧ (s.data.toList.take k).all Gate.digit = true ∧ n = .int .i64 (Gate.dec (s.data.toList.take k))) (fun _ i => s.size - (intOf i).toNat)
    case atStart => exact ⟨0, Nat.zero_le _, rfl, rfl, rfl⟩
    case round =>
      obtain ⟨k, hk, rfl, hall, rfl⟩ := hrel
      have hlen : (s.data.toList.take k).length ≤ k := List.length_take_le _ _
      obtain ⟨hd0, hd1⟩ := Gate.dec_bound _ hall k hlen
      by_cases hlt : k < s.size
      · have hp := pow_small k (by omega)
        have hd2 : Gate.dec (s.data.toList.take k) < 10000000 := by omega
        clear hp hd1 hlen
        have HS : Hid ((s.data.toList.take (k + 1)).all Gate.digit = (true && Gate.digit s[k])) := by rw [Gate.all_snoc _ s k hlt, hall]; rfl
        have HD : Hid (Gate.dec (s.data.toList.take (k + 1)) = Gate.dec (s.data.toList.take k) * 10 + ((s[k].toNat : Int) - 48)) := by rw [Gate.take_snoc s k hlt]; exact Gate.dec_snoc _ _
        have HN : Hid (Gate.digit s[k] = false → Gate.allDigit s = false) := fun h => Gate.all_not Gate.digit s k hlt h
        clear hall
        by_cases hd : 48 ≤ (s[k].toNat : Int) ∧ (s[k].toNat : Int) ≤ 57
        · have HC : Hid (Gate.digit s[k] = true) := by simp [Gate.digit, Hid]; omega
          obtain ⟨h48, h57⟩ := hd
          go_wp2_with (go_at_call 85; refine (isDigit_yes _ _ h48 h57).mono ?_; rintro e w' ⟨rfl, rfl⟩)
          go_round
          case rel => exact ⟨k + 1, by omega, by go_num, by rw [HS.out, HC.out]; rfl, by rw [HD.out]⟩
          case measure => simp [intOf]; omega
        · have HC : Hid (Gate.digit s[k] = false) := by simp [Gate.digit, Hid]; omega
          have HDD : Hid (¬ (48 ≤ (s[k].toNat : Int) ∧ (s[k].toNat : Int) ≤ 57)) := hd
          clear hd
          go_wp2_with (go_at_call 85; refine (isDigit_no _ _ HDD.out).mono ?_; rintro e w' ⟨rfl, rfl⟩)
          go_ret2
          exact ⟨ret_two (by unfold decNum; rw [HF.out, HN.out HC.out]; rfl) (by rw [HF.out, HN.out HC.out]), rfl⟩
      · have HA : Hid (Gate.allDigit s = true) := by unfold Gate.allDigit Hid; rw [← Gate.take_all s k (by omega)]; exact hall
        have HB : Hid (Gate.dec (s.data.toList.take k) = Gate.decS s) := by rw [Gate.take_all s k (by omega)]; rfl
        clear hall hd0 hd1 hlen
        go_wp2
        go_ret2
        exact ⟨ret_two (by unfold decNum; rw [HF.out, HA.out, HB.out]; rfl) (by rw [HF.out, HA.out]), rfl⟩

set_option maxHeartbeats 400000 in
theorem decimalOf_any (s : ByteArray) (w : World) (hs : s.size ≤ maxLen) :
    Calls Try.prog 108 #[.string s] w fun e w' => e = .returned (.tuple #[.int .i64 (decNum s), .bool (Gate.decOk s)]) ∧ w' = w := by
  unfold maxLen at hs
  by_cases h0 : s.size = 0
  · rw [Gate.empty_of_size s h0]
    go_enter Try.func108, Try.ntmps108
    go_wp2
    go_ret2
    exact ⟨rfl, rfl⟩
  have hne : s.toList.isEmpty = false := by rw [Gate.isEmpty_of_size]; simp [h0]
  by_cases h7 : s.size ≤ 7
  · by_cases hz : 1 < s.size ∧ (s[0].toNat : Int) = 48
    · obtain ⟨hm, hz0⟩ := hz
      have HF : Hid (Gate.decOk s = false) := Gate.decOk_no_zero s hm hz0
      have hz1 : ((s[0].toNat : Int) == 48) = true := by simpa using hz0
      clear hz0
      go_enter Try.func108, Try.ntmps108
      go_wp2
      go_ret2
      exact ⟨ret_two (by unfold decNum; rw [HF.out]; rfl) HF.out.symm, rfl⟩
    · exact decimalOf_loop s w (by omega) h7 (by omega)
  · have HF : Hid (Gate.decOk s = false) := Gate.decOk_no_len s (by omega)
    go_enter Try.func108, Try.ntmps108
    go_wp2
    go_ret2
    exact ⟨ret_two (by unfold decNum; rw [HF.out]; rfl) HF.out.symm, rfl⟩

set_option maxHeartbeats 400000 in
theorem numberFits_any (nm : ByteArray) (kd ls ms : Int) (sl : Value) (to : ByteArray) (rl : Int) (mu fx : Bool) (df wg : ByteArray) (s : ByteArray) (w : World) (hs : s.size ≤ maxLen) :
    Calls Try.prog 106 #[.agg #[.string nm, .int .i64 kd, .int .i64 ls, .int .i64 ms, sl, .string to, .int .i64 rl, .bool mu, .bool fx, .string df, .string wg], .string s] w
      fun e w' => e = .returned (.bool (Gate.numFits ls ms s)) ∧ Below w.heap.size w w' := by
  by_cases hd : Gate.decOk s = true
  · have HE : Hid (decNum s = Gate.decS s) := by unfold decNum Hid; rw [hd]; rfl
    have HF : Hid (Gate.numFits ls ms s = (decide (ls ≤ Gate.decS s) && decide (Gate.decS s ≤ ms))) := by unfold Gate.numFits Hid; rw [hd]; rfl
    go_enter Try.func106, Try.ntmps106
    go_wp2_with (go_at_call 108; refine (decimalOf_any _ _ hs).mono ?_; rintro e w' ⟨rfl, rfl⟩)
    all_goals
      go_ret
      refine ⟨ret_bool ?_, (Below.refl _ _).alloc (Nat.le_refl _) _⟩
      rw [HF.out]; have := HE.out; rw [Bool.eq_iff_iff]; simp; omega
  · have hd' : Gate.decOk s = false := by simpa using hd
    have HF : Hid (Gate.numFits ls ms s = false) := by unfold Gate.numFits Hid; rw [hd']; rfl
    go_enter Try.func106, Try.ntmps106
    go_wp2_with (go_at_call 108; refine (decimalOf_any _ _ hs).mono ?_; rintro e w' ⟨rfl, rfl⟩)
    go_ret
    exact ⟨ret_bool HF.out.symm, (Below.refl _ _).alloc (Nat.le_refl _) _⟩

end Go.Proofs.Ytbefjngbilakjaa

namespace Go.Proofs.Ytbefjngbilakjaa
open Go.RowKit

theorem alloc_set (w : World) (o o' : Obj) : { (w.alloc o) with heap := (w.alloc o).heap.setIfInBounds w.heap.size o' } = w.alloc o' := by
  show ({ w with heap := (w.heap.push o).setIfInBounds w.heap.size o' } : World) = { w with heap := w.heap.push o' }
  congr 1
  apply Array.ext_getElem?
  intro i
  simp only [Array.getElem?_setIfInBounds, Array.getElem?_push, Array.size_push]
  by_cases h : w.heap.size = i
  · subst h; simp
  · rw [if_neg h, if_neg (fun e => h e.symm), if_neg (fun e => h e.symm)]

theorem alloc_at (w : World) (o : Obj) : (w.alloc o).heap[w.heap.size]? = some o := by
  show (w.heap.push o)[w.heap.size]? = some o
  simp

/-- A new key into a map that is the last block. -/
theorem run_update_last {P : Program} {mty kt et : TypeId} {d : TypeDesc} (hm : P.underlying mty = some (.map kt et)) (hd : P.underlying kt = some d) (key val : Value) (hk : MapKept.IsKey d key)
    (es : Array MapEntry) (clock : Nat) (hf : Instr.findNow d key es.toList 0 = some none) (w : World) :
    (Instr.mapUpdate mty (.map (some w.heap.size)) key val).run P (w.alloc (.map es clock)) = .ok () (w.alloc (.map (es.push ⟨key, val, clock⟩) (clock + 1))) := by
  have hb := alloc_at w (.map es clock)
  have hc := MapKept.run_checkKey (P := P) (w := w.alloc (.map es clock)) hd hk false 9999
  simp [Instr.mapUpdate, run_underlying hm, MapKept.run_getObj_map hb, hc, MapKept.run_findKey hd hf, MapKept.run_setObj_map _ hb, Result.andThen, ← alloc_set w (.map es clock) (.map (es.push ⟨key, val, clock⟩) (clock + 1))]

theorem run_lookup_hit {P : Program} {mty kt et : TypeId} {d : TypeDesc} (hm : P.underlying mty = some (.map kt et)) (hd : P.underlying kt = some d) (key val : Value) (hk : MapKept.IsKey d key)
    (es : Array MapEntry) (clock i : Nat) (hf : Instr.findNow d key es.toList 0 = some (some (i, val))) (w : World) (r : Nat) (hb : w.heap[r]? = some (.map es clock)) :
    (Instr.lookup mty (.map (some r)) key true).run P w = .ok (.tuple #[val, .bool true]) w := by
  have hc := MapKept.run_checkKey (P := P) (w := w) hd hk es.isEmpty 9999
  simp [Instr.lookup, run_underlying hm, MapKept.run_getObj_map hb, hc, MapKept.run_findKey hd hf, Result.andThen]

theorem run_lookup_miss {P : Program} {mty kt et : TypeId} {d : TypeDesc} (hm : P.underlying mty = some (.map kt et)) (hd : P.underlying kt = some d) (key z : Value) (hk : MapKept.IsKey d key)
    (es : Array MapEntry) (clock : Nat) (hf : Instr.findNow d key es.toList 0 = some none) (w : World) (hz : (zeroValue et).run P w = .ok z w) (r : Nat) (hb : w.heap[r]? = some (.map es clock)) :
    (Instr.lookup mty (.map (some r)) key true).run P w = .ok (.tuple #[z, .bool false]) w := by
  have hc := MapKept.run_checkKey (P := P) (w := w) hd hk es.isEmpty 9999
  simp [Instr.lookup, run_underlying hm, MapKept.run_getObj_map hb, hc, MapKept.run_findKey hd hf, hz, Result.andThen]

end Go.Proofs.Ytbefjngbilakjaa
