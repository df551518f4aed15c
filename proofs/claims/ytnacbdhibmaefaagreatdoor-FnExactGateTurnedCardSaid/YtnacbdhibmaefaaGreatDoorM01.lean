import Derived.WalkKit
import Derived.Test.YtnacbdhibmaefaaGreatDoorRows
import Derived.WalkSpells
import Derived.WalkLawsBesides
namespace Go.Proofs.YtnacbdhibmaefaaGreatDoor.Gate

/-- A byte of a name. -/
def nameByte (c : UInt8) : Bool := decide (97 ≤ c.toNat ∧ c.toNat ≤ 122) || decide (48 ≤ c.toNat ∧ c.toNat ≤ 57) || decide (c.toNat = 45)
def digit (c : UInt8) : Bool := decide (48 ≤ c.toNat ∧ c.toNat ≤ 57)
def plainByte (c : UInt8) : Bool := decide (33 ≤ c.toNat ∧ c.toNat ≤ 126)

def allName (s : ByteArray) : Bool := s.data.toList.all nameByte
def allPlain (s : ByteArray) : Bool := s.data.toList.all plainByte
def allDigit (s : ByteArray) : Bool := s.data.toList.all digit
def nameOk (s : ByteArray) : Bool := decide (1 ≤ s.size) && decide (s.size ≤ 16) && allName s

/-- The number of digits, read from the left. -/
def dec (l : List UInt8) : Int := l.foldl (fun n c => n * 10 + ((c.toNat : Int) - 48)) 0

def decOk (s : ByteArray) : Bool := decide (1 ≤ s.size) && decide (s.size ≤ 7) && (decide (s.size ≤ 1) || decide ((s.data.toList.headD 0).toNat ≠ 48)) && allDigit s

def textFits (ls ms : Int) (s : ByteArray) : Bool := decide (ls ≤ s.size) && decide ((s.size : Int) ≤ ms) && allPlain s
def decS (s : ByteArray) : Int := dec s.data.toList
def numFits (ls ms : Int) (s : ByteArray) : Bool := decOk s && decide (ls ≤ decS s) && decide (decS s ≤ ms)

theorem dec_snoc (l : List UInt8) (c : UInt8) : dec (l ++ [c]) = dec l * 10 + ((c.toNat : Int) - 48) := by simp [dec]

theorem dec_bound_from (l : List UInt8) (h : l.all digit = true) : ∀ a : Int, 0 ≤ a → 0 ≤ l.foldl (fun n c => n * 10 + ((c.toNat : Int) - 48)) a ∧ l.foldl (fun n c => n * 10 + ((c.toNat : Int) - 48)) a < (a + 1) * 10 ^ l.length := by
  induction l with
  | nil => intro a ha; simp; omega
  | cons c l ih =>
    intro a ha
    rw [List.all_cons, Bool.and_eq_true] at h
    have hc : 48 ≤ c.toNat ∧ c.toNat ≤ 57 := by simpa [digit] using h.1
    obtain ⟨h1, h2⟩ := ih h.2 (a * 10 + ((c.toNat : Int) - 48)) (by omega)
    simp only [List.foldl_cons, List.length_cons, Int.pow_succ]
    refine ⟨h1, Int.lt_of_lt_of_le h2 ?_⟩
    have hp : (0 : Int) ≤ 10 ^ l.length := Int.pow_nonneg (by decide)
    have := Int.mul_le_mul_of_nonneg_right (show a * 10 + ((c.toNat : Int) - 48) + 1 ≤ (a + 1) * 10 by omega) hp
    rw [Int.mul_comm (10 ^ l.length) 10, ← Int.mul_assoc]
    exact this

theorem dec_bound (l : List UInt8) (h : l.all digit = true) (n : Nat) (hn : l.length ≤ n) : 0 ≤ dec l ∧ dec l < 10 ^ n := by
  have := dec_bound_from l h 0 (by decide)
  refine ⟨this.1, Int.lt_of_lt_of_le this.2 ?_⟩
  simp only [Int.zero_add, Int.one_mul]
  exact_mod_cast Nat.pow_le_pow_right (by decide) hn

theorem take_snoc (s : ByteArray) (k : Nat) (h : k < s.size) : s.data.toList.take (k + 1) = s.data.toList.take k ++ [s[k]] := by
  rw [List.take_succ_eq_append_getElem (by simpa using h)]; rfl

theorem take_all (s : ByteArray) (k : Nat) (h : s.size ≤ k) : s.data.toList.take k = s.data.toList := List.take_of_length_le (by simpa using h)

theorem all_snoc (p : UInt8 → Bool) (s : ByteArray) (k : Nat) (h : k < s.size) : (s.data.toList.take (k + 1)).all p = ((s.data.toList.take k).all p && p s[k]) := by
  rw [take_snoc s k h, List.all_append]; simp

theorem all_not (p : UInt8 → Bool) (s : ByteArray) (k : Nat) (h : k < s.size) (hp : p s[k] = false) : s.data.toList.all p = false := by
  rw [← List.take_append_drop (k + 1) s.data.toList, List.all_append, all_snoc p s k h, hp]; simp

theorem isEmpty_of_size (s : ByteArray) : s.toList.isEmpty = decide (s.size = 0) := by
  rw [ByteArray.toList_eq, Bool.eq_iff_iff, List.isEmpty_iff, decide_eq_true_eq, ← List.length_eq_zero_iff, Array.length_toList]
  exact Iff.rfl

theorem empty_of_size (s : ByteArray) (h : s.size = 0) : s = ByteArray.empty := by
  apply ByteArray.ext; apply Array.eq_empty_of_size_eq_zero; exact h

theorem beq_toList (a b : ByteArray) : (a.toList == b.toList) = decide (a = b) := by
  rw [ByteArray.toList_eq, ByteArray.toList_eq, Bool.eq_iff_iff]
  simp only [beq_iff_eq, decide_eq_true_eq, Array.toList_inj]
  constructor
  · intro h; exact ByteArray.ext h
  · rintro rfl; rfl

def has (ws : List ByteArray) (v : ByteArray) : Bool := ws.any fun x => decide (x = v)

theorem has_snoc (ws : List ByteArray) (v : ByteArray) (k : Nat) (h : k < ws.length) : has (ws.take (k + 1)) v = (has (ws.take k) v || decide (ws[k] = v)) := by
  unfold has; rw [List.take_succ_eq_append_getElem h, List.any_append]; simp

theorem has_at (ws : List ByteArray) (v : ByteArray) (k : Nat) (h : k < ws.length) (e : ws[k] = v) : has ws v = true := by
  unfold has; rw [List.any_eq_true]; exact ⟨ws[k], List.getElem_mem h, by simpa using e⟩

theorem has_all (ws : List ByteArray) (v : ByteArray) (k : Nat) (h : ws.length ≤ k) : has (ws.take k) v = has ws v := by rw [List.take_of_length_le h]

theorem headD_eq (s : ByteArray) (h : 0 < s.size) : s.data.toList.headD 0 = s[0] := by
  obtain ⟨⟨l⟩⟩ := s
  cases l with
  | nil => simp [ByteArray.size] at h
  | cons a l => rfl

theorem decOk_no_len (s : ByteArray) (h : ¬ (1 ≤ s.size ∧ s.size ≤ 7)) : decOk s = false := by
  unfold decOk
  by_cases h1 : 1 ≤ s.size
  · rw [decide_eq_false (show ¬ s.size ≤ 7 by omega)]; simp
  · rw [decide_eq_false h1]; simp

theorem decOk_no_zero (s : ByteArray) (h : 1 < s.size) (hz : (s[0].toNat : Int) = 48) : decOk s = false := by
  unfold decOk
  rw [headD_eq s (by omega), decide_eq_false (show ¬ s.size ≤ 1 by omega), decide_eq_false (show ¬ s[0].toNat ≠ 48 by omega)]; simp

theorem decOk_all (s : ByteArray) (h1 : 1 ≤ s.size) (h7 : s.size ≤ 7) (hz : s.size ≤ 1 ∨ ¬ (s[0].toNat : Int) = 48) : decOk s = allDigit s := by
  unfold decOk
  rw [headD_eq s (by omega), decide_eq_true h1, decide_eq_true h7]
  rcases hz with h | h
  · rw [decide_eq_true h]; simp
  · rw [decide_eq_true (show s[0].toNat ≠ 48 by omega)]; simp

/-- Whether a value fits a field. -/
def fits (kd ls ms : Int) (ws : List ByteArray) (v : ByteArray) : Bool :=
  if v.size = 0 then false else if kd = 1 then numFits ls ms v else if kd = 2 then has ws v else if kd = 3 then textFits ls ms v else if kd = 4 then nameOk v else false

theorem fits_empty (kd ls ms : Int) (ws : List ByteArray) (v : ByteArray) (h : v.size = 0) : fits kd ls ms ws v = false := by simp [fits, h]
theorem fits_1 (ls ms : Int) (ws : List ByteArray) (v : ByteArray) (h : ¬ v.size = 0) : fits 1 ls ms ws v = numFits ls ms v := by simp [fits, h]
theorem fits_2 (ls ms : Int) (ws : List ByteArray) (v : ByteArray) (h : ¬ v.size = 0) : fits 2 ls ms ws v = has ws v := by simp [fits, h]
theorem fits_3 (ls ms : Int) (ws : List ByteArray) (v : ByteArray) (h : ¬ v.size = 0) : fits 3 ls ms ws v = textFits ls ms v := by simp [fits, h]
theorem fits_4 (ls ms : Int) (ws : List ByteArray) (v : ByteArray) (h : ¬ v.size = 0) : fits 4 ls ms ws v = nameOk v := by simp [fits, h]
theorem fits_other (kd ls ms : Int) (ws : List ByteArray) (v : ByteArray) (h1 : kd ≠ 1) (h2 : kd ≠ 2) (h3 : kd ≠ 3) (h4 : kd ≠ 4) : fits kd ls ms ws v = false := by simp [fits, h1, h2, h3, h4]

theorem decS_nonneg (s : ByteArray) (h : decOk s = true) : 0 ≤ decS s := by
  unfold decOk at h
  rw [Bool.and_eq_true] at h
  exact (dec_bound _ h.2 _ (Nat.le_refl _)).1

theorem numFits_no (ls ms : Int) (s : ByteArray) (h : decOk s = false) : numFits ls ms s = false := by simp [numFits, h]
theorem numFits_yes (ls ms : Int) (s : ByteArray) (h : decOk s = true) : numFits ls ms s = (decide (ls ≤ decS s) && decide (decS s ≤ ms)) := by simp [numFits, h]
theorem decOk_empty (s : ByteArray) (h : s.size = 0) : decOk s = false := decOk_no_len s (by omega)
theorem nameOk_empty (s : ByteArray) (h : s.size = 0) : nameOk s = false := by simp [nameOk, h]
theorem fits_num (ls ms : Int) (ws : List ByteArray) (v : ByteArray) : fits 1 ls ms ws v = numFits ls ms v := by
  by_cases h : v.size = 0
  · rw [fits_empty _ _ _ _ _ h, numFits_no _ _ _ (decOk_empty v h)]
  · exact fits_1 ls ms ws v h
theorem fits_link (ls ms : Int) (ws : List ByteArray) (v : ByteArray) : fits 4 ls ms ws v = nameOk v := by
  by_cases h : v.size = 0
  · rw [fits_empty _ _ _ _ _ h, nameOk_empty v h]
  · exact fits_4 ls ms ws v h
theorem fits_text_not (ls ms : Int) (ws : List ByteArray) (v : ByteArray) (h : allPlain v = false) : fits 3 ls ms ws v = false := by
  by_cases hz : v.size = 0
  · exact fits_empty _ _ _ _ _ hz
  · rw [fits_3 ls ms ws v hz, textFits, h]; simp
theorem fits_text_all (ls ms : Int) (ws : List ByteArray) (v : ByteArray) (h : allPlain v = true) (hz : ¬ v.size = 0) : fits 3 ls ms ws v = (decide (ls ≤ v.size) && decide ((v.size : Int) ≤ ms)) := by
  rw [fits_3 ls ms ws v hz, textFits, h]; simp

end Go.Proofs.YtnacbdhibmaefaaGreatDoor.Gate

namespace Go.Proofs.YtnacbdhibmaefaaGreatDoor
open Go.RowKit

theorem ret_bool {a b : Bool} (h : a = b) : Ending.returned (.bool a) = .returned (.bool b) := by rw [h]
theorem ret_int {k : IntKind} {a b : Int} (h : a = b) : Ending.returned (.int k a) = .returned (.int k b) := by rw [h]

set_option maxHeartbeats 400000 in
theorem l1In_any (n lo hi : Int) (w : World) :
    Calls Tryz.prog 41 #[.int .i64 n, .int .i64 lo, .int .i64 hi] w fun e w' => e = .returned (.bool (decide (lo ≤ n) && decide (n ≤ hi))) ∧ w' = w := by
  go_enter Tryz.func41, Tryz.ntmps41
  go_wp2
  all_goals
    go_ret
    refine ⟨ret_bool ?_, rfl⟩
    simp; try omega

theorem l1In_yes (n lo hi : Int) (w : World) (h1 : lo ≤ n) (h2 : n ≤ hi) :
    Calls Tryz.prog 41 #[.int .i64 n, .int .i64 lo, .int .i64 hi] w fun e w' => e = .returned (.bool true) ∧ w' = w := by
  refine (l1In_any n lo hi w).mono ?_
  rintro e w' ⟨rfl, rfl⟩
  exact ⟨ret_bool (by simp; omega), rfl⟩

theorem l1In_no (n lo hi : Int) (w : World) (h1 : ¬ (lo ≤ n ∧ n ≤ hi)) :
    Calls Tryz.prog 41 #[.int .i64 n, .int .i64 lo, .int .i64 hi] w fun e w' => e = .returned (.bool false) ∧ w' = w := by
  refine (l1In_any n lo hi w).mono ?_
  rintro e w' ⟨rfl, rfl⟩
  exact ⟨ret_bool (by simp; omega), rfl⟩

set_option maxHeartbeats 400000 in
theorem l1Byte_any (c : UInt8) (w : World) :
    Calls Tryz.prog 62 #[.int .u8 c.toNat] w fun e w' => e = .returned (.bool (Gate.nameByte c)) ∧ w' = w := by
  go_enter Tryz.func62, Tryz.ntmps62
  go_wp2
  all_goals
    go_ret
    refine ⟨ret_bool ?_, rfl⟩
    rw [Bool.eq_iff_iff]; simp [Gate.nameByte]; try omega

set_option maxHeartbeats 400000 in
theorem isDigit_any (c : UInt8) (w : World) :
    Calls Tryz.prog 66 #[.int .u8 c.toNat] w fun e w' => e = .returned (.bool (Gate.digit c)) ∧ w' = w := by
  go_enter Tryz.func66, Tryz.ntmps66
  go_wp2
  all_goals
    go_ret
    refine ⟨ret_bool ?_, rfl⟩
    rw [Bool.eq_iff_iff]; simp [Gate.digit]; try omega

theorem isDigit_yes (c : UInt8) (w : World) (h : 48 ≤ (c.toNat : Int)) (h2 : (c.toNat : Int) ≤ 57) :
    Calls Tryz.prog 66 #[.int .u8 c.toNat] w fun e w' => e = .returned (.bool true) ∧ w' = w := by
  refine (isDigit_any c w).mono ?_
  rintro e w' ⟨rfl, rfl⟩
  exact ⟨ret_bool (by simp [Gate.digit]; omega), rfl⟩

theorem isDigit_no (c : UInt8) (w : World) (h : ¬ (48 ≤ (c.toNat : Int) ∧ (c.toNat : Int) ≤ 57)) :
    Calls Tryz.prog 66 #[.int .u8 c.toNat] w fun e w' => e = .returned (.bool false) ∧ w' = w := by
  refine (isDigit_any c w).mono ?_
  rintro e w' ⟨rfl, rfl⟩
  exact ⟨ret_bool (by simp [Gate.digit]; omega), rfl⟩

end Go.Proofs.YtnacbdhibmaefaaGreatDoor

namespace Go.Proofs.YtnacbdhibmaefaaGreatDoor
open Go.RowKit

set_option maxHeartbeats 400000 in
theorem l1NameOk_any (s : ByteArray) (w : World) (hs : s.size ≤ maxLen) :
    Calls Tryz.prog 38 #[.string s] w fun e w' => e = .returned (.bool (Gate.nameOk s)) ∧ w' = w := by
  unfold maxLen at hs
  by_cases hb : 1 ≤ s.size ∧ s.size ≤ 16
  · obtain ⟨hb1, hb2⟩ := hb
    go_enter Tryz.func38, Tryz.ntmps38
    go_wp2_with (go_at_call 41; refine (l1In_yes _ _ _ _ (by omega) (by omega)).mono ?_; rintro e w' ⟨rfl, rfl⟩)
    go_loop [3] (fun i => ∃ k : Nat, k ≤ s.size ∧ i = .int .i64 k ∧ (s.data.toList.take k).all Gate.nameByte = true) (fun i => s.size - (intOf i).toNat)
    case atStart => exact ⟨0, Nat.zero_le _, rfl, rfl⟩
    case round =>
      obtain ⟨k, hk, rfl, hall⟩ := hrel
      by_cases hlt : k < s.size
      · have HS : Hid ((s.data.toList.take (k + 1)).all Gate.nameByte = (true && Gate.nameByte s[k])) := by rw [Gate.all_snoc _ s k hlt, hall]; rfl
        have HN := fun h => Gate.all_not Gate.nameByte s k hlt h
        have HN' : Hid (Gate.nameByte s[k] = false → Gate.allName s = false) := HN
        clear HN hall
        by_cases hc : Gate.nameByte s[k] = true
        · go_wp2_with (go_at_call 62; refine (l1Byte_any _ _).mono ?_; rintro e w' ⟨rfl, rfl⟩)
          go_round
          case rel => exact ⟨k + 1, by omega, by go_num, by rw [HS.out, hc]; rfl⟩
          case measure => simp [intOf]; omega
        · have hc' : Gate.nameByte s[k] = false := by simpa using hc
          clear hc
          go_wp2_with (go_at_call 62; refine (l1Byte_any _ _).mono ?_; rintro e w' ⟨rfl, rfl⟩)
          go_ret
          refine ⟨ret_bool ?_, rfl⟩
          simp [Gate.nameOk, HN'.out hc']
      · have HA : Hid (Gate.allName s = true) := by unfold Gate.allName Hid; rw [← Gate.take_all s k (by omega)]; exact hall
        clear hall
        go_wp2
        go_ret
        refine ⟨ret_bool ?_, rfl⟩
        simp only [Gate.nameOk, HA.out]; simp; omega
  · go_enter Tryz.func38, Tryz.ntmps38
    go_wp2_with (go_at_call 41; refine (l1In_no _ _ _ _ (by omega)).mono ?_; rintro e w' ⟨rfl, rfl⟩)
    go_ret
    refine ⟨ret_bool ?_, rfl⟩
    simp [Gate.nameOk]; omega

set_option maxHeartbeats 400000 in
theorem isNameBytes_any (s : ByteArray) (w : World) (hs : s.size ≤ maxLen) :
    Calls Tryz.prog 48 #[.string s] w fun e w' => e = .returned (.bool (Gate.allName s)) ∧ w' = w := by
  unfold maxLen at hs
  go_enter Tryz.func48, Tryz.ntmps48
  go_wp2
  go_loop [7] (fun i => ∃ k : Nat, k ≤ s.size ∧ i = .int .i64 k ∧ (s.data.toList.take k).all Gate.nameByte = true) (fun i => s.size - (intOf i).toNat)
  case atStart => exact ⟨0, Nat.zero_le _, rfl, rfl⟩
  case round =>
    obtain ⟨k, hk, rfl, hall⟩ := hrel
    by_cases hlt : k < s.size
    · have HS : Hid ((s.data.toList.take (k + 1)).all Gate.nameByte = (true && Gate.nameByte s[k])) := by rw [Gate.all_snoc _ s k hlt, hall]; rfl
      have HN : Hid (Gate.nameByte s[k] = false → Gate.allName s = false) := fun h => Gate.all_not Gate.nameByte s k hlt h
      clear hall
      by_cases hd : 48 ≤ (s[k].toNat : Int) ∧ (s[k].toNat : Int) ≤ 57
      · have HC : Hid (Gate.nameByte s[k] = true) := by simp [Gate.nameByte, Hid]; omega
        obtain ⟨hd1, hd2⟩ := hd
        go_wp2_with (go_at_call 66; refine (isDigit_yes _ _ hd1 hd2).mono ?_; rintro e w' ⟨rfl, rfl⟩)
        go_round
        case rel => exact ⟨k + 1, by omega, by go_num, by rw [HS.out, HC.out]; rfl⟩
        case measure => simp [intOf]; omega
      · have HD : Hid (¬ (48 ≤ (s[k].toNat : Int) ∧ (s[k].toNat : Int) ≤ 57)) := hd
        clear hd
        by_cases h45 : (s[k].toNat : Int) = 45
        · have HC : Hid (Gate.nameByte s[k] = true) := by simp [Gate.nameByte, Hid]; omega
          have h45' : ((s[k].toNat : Int) != 45) = false := by simp [h45]
          clear h45
          go_wp2_with (go_at_call 66; refine (isDigit_no _ _ HD.out).mono ?_; rintro e w' ⟨rfl, rfl⟩)
          go_round
          case rel => exact ⟨k + 1, by omega, by go_num, by rw [HS.out, HC.out]; rfl⟩
          case measure => simp [intOf]; omega
        · have h45' : ((s[k].toNat : Int) != 45) = true := by simp [h45]
          by_cases h97 : (s[k].toNat : Int) < 97
          · have HC : Hid (Gate.nameByte s[k] = false) := by have := HD.out; simp [Gate.nameByte, Hid]; omega
            clear h45
            go_wp2_with (go_at_call 66; refine (isDigit_no _ _ HD.out).mono ?_; rintro e w' ⟨rfl, rfl⟩)
            go_ret
            exact ⟨ret_bool (HN.out HC.out).symm, rfl⟩
          · by_cases h122 : 122 < (s[k].toNat : Int)
            · have HC : Hid (Gate.nameByte s[k] = false) := by have := HD.out; simp [Gate.nameByte, Hid]; omega
              clear h45
              go_wp2_with (go_at_call 66; refine (isDigit_no _ _ HD.out).mono ?_; rintro e w' ⟨rfl, rfl⟩)
              go_ret
              exact ⟨ret_bool (HN.out HC.out).symm, rfl⟩
            · have HC : Hid (Gate.nameByte s[k] = true) := by simp [Gate.nameByte, Hid]; omega
              clear h45
              go_wp2_with (go_at_call 66; refine (isDigit_no _ _ HD.out).mono ?_; rintro e w' ⟨rfl, rfl⟩)
              go_round
              case rel => exact ⟨k + 1, by omega, by go_num, by rw [HS.out, HC.out]; rfl⟩
              case measure => simp [intOf]; omega
    · have HA : Hid (Gate.allName s = true) := by unfold Gate.allName Hid; rw [← Gate.take_all s k (by omega)]; exact hall
      clear hall
      go_wp2
      go_ret
      exact ⟨ret_bool HA.out.symm, rfl⟩

set_option maxHeartbeats 400000 in
theorem isName_any (s : ByteArray) (w : World) (hs : s.size ≤ maxLen) :
    Calls Tryz.prog 29 #[.string s] w fun e w' => e = .returned (.bool (Gate.nameOk s)) ∧ w' = w := by
  have hs' := hs
  unfold maxLen at hs'
  by_cases h0 : s.size = 0
  · rw [Gate.empty_of_size s h0]
    go_enter Tryz.func29, Tryz.ntmps29
    go_wp2
    go_ret
    exact ⟨rfl, rfl⟩
  · have hne : s.toList.isEmpty = false := by rw [Gate.isEmpty_of_size]; simp [h0]
    by_cases h16 : s.size ≤ 16
    · have HF : Hid (Gate.nameOk s = Gate.allName s) := by
        simp only [Hid, Gate.nameOk]; rw [decide_eq_true (show 1 ≤ s.size by omega), decide_eq_true h16]; simp
      go_enter Tryz.func29, Tryz.ntmps29
      go_wp2_with (go_at_call 48; refine (isNameBytes_any _ _ hs).mono ?_; rintro e w' ⟨rfl, rfl⟩)
      go_ret
      exact ⟨ret_bool HF.out.symm, rfl⟩
    · go_enter Tryz.func29, Tryz.ntmps29
      go_wp2_with (go_at_call 48; refine (isNameBytes_any _ _ hs).mono ?_; rintro e w' ⟨rfl, rfl⟩)
      go_ret
      refine ⟨ret_bool ?_, rfl⟩
      simp only [Gate.nameOk]; rw [decide_eq_false h16]; simp

end Go.Proofs.YtnacbdhibmaefaaGreatDoor
