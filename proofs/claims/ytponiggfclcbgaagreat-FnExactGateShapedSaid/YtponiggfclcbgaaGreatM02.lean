import Derived.WalkKit
import Derived.Laws.NewBlocks
import Derived.Laws.MakeOwn
import Derived.Laws.OwnMore
import Derived.Deep.Draws
import Derived.Deep.OwnRows
import Derived.MapKept
import Derived.Test.YtponiggfclcbgaaGreatRows
import Derived.WalkSpells
import Derived.WalkLawsBesides
namespace Go.Proofs.YtponiggfclcbgaaGreat
open Go.RowKit

theorem ret_bool {a b : Bool} (h : a = b) : Ending.returned (.bool a) = .returned (.bool b) := by rw [h]
theorem ret_int {k : IntKind} {a b : Int} (h : a = b) : Ending.returned (.int k a) = .returned (.int k b) := by rw [h]

def szRes (t : Nat) (left : Int) : Int := if (t : Int) ≤ left then left - t else -1

theorem szRes_yes {t : Nat} {left : Int} (h : (t : Int) ≤ left) : szRes t left = left - t := by simp [szRes, h]
theorem szRes_no {t : Nat} {left : Int} (h : ¬ (t : Int) ≤ left) : szRes t left = -1 := by simp [szRes, h]

theorem sum_snoc {α : Type} (g : α → Nat) (l : List α) (k : Nat) (h : k < l.length) : ((l.take (k + 1)).map g).sum = ((l.take k).map g).sum + g l[k] := by
  rw [List.take_succ_eq_append_getElem h, List.map_append, List.sum_append]; simp
theorem sum_le {α : Type} (g : α → Nat) (l : List α) (k : Nat) : ((l.take k).map g).sum ≤ (l.map g).sum := by
  conv => rhs; rw [← List.take_append_drop k l]
  rw [List.map_append, List.sum_append]; omega
theorem sum_mem {α : Type} (g : α → Nat) (l : List α) (k : Nat) (h : k < l.length) : g l[k] ≤ (l.map g).sum := by
  have h1 := sum_snoc g l k h
  have h2 := sum_le g l (k + 1)
  omega

theorem run_make_rows {P : Program} (t e : TypeId) (z : Value) (size bytes : Nat) (ht : P.underlying t = some (.slice e)) (hinfo : (P.info? e).map (fun i => (i.zero, i.size, i.bytes)) = some (some z, size, bytes))
    (n : Nat) (hbytes : bytes * n ≤ 281474976710656) (h63 : n ≤ 9223372036854775807) (w : World) :
    (Instr.makeSlice t (.int .i64 (n : Int)) (.int .i64 (n : Int))).run P w = .ok (.slice (some ⟨w.heap.size, 0, none⟩) n n) (w.alloc (.cells (madeCells z.cells (n * size)) e)) := by
  obtain ⟨i, hi, hzz⟩ := Option.map_eq_some_iff.1 hinfo
  simp only [Prod.mk.injEq] at hzz
  obtain ⟨hz, hs, hb⟩ := hzz
  have hb' : (i.bytes : Int) * (n : Int) ≤ 281474976710656 := by
    have h : ((i.bytes * n : Nat) : Int) ≤ 281474976710656 := by rw [hb]; omega
    rwa [Int.natCast_mul] at h
  have hr := run_make (P := P) w t e i z ht hi hz .i64 .i64 n n (by omega) (Int.le_refl _) hb' (by omega)
  simp only [Int.toNat_natCast, hs] at hr
  exact hr

end Go.Proofs.YtponiggfclcbgaaGreat

namespace Go.Proofs.YtponiggfclcbgaaGreat.Gate

/-- A byte of a name. -/
def nameByte (c : UInt8) : Bool := decide (97 ≤ c.toNat ∧ c.toNat ≤ 122) || decide (48 ≤ c.toNat ∧ c.toNat ≤ 57) || decide (c.toNat = 45)
def digit (c : UInt8) : Bool := decide (48 ≤ c.toNat ∧ c.toNat ≤ 57)
def plainByte (c : UInt8) : Bool := decide (33 ≤ c.toNat ∧ c.toNat ≤ 126)

def allName (s : ByteArray) : Bool := s.data.toList.all nameByte
def allPlain (s : ByteArray) : Bool := s.data.toList.all plainByte
def allDigit (s : ByteArray) : Bool := s.data.toList.all digit
def nameOk (s : ByteArray) : Bool := decide (1 ≤ s.size) && decide (s.size ≤ 16) && allName s

/-- The number of digits, read from the left. -/
def dec (l : List UInt8) : Int := l.foldl (fun n c => n * 10 + ((c.toNat : Int) - 48)) 0

def decOk (s : ByteArray) : Bool := decide (1 ≤ s.size) && decide (s.size ≤ 7) && (decide (s.size ≤ 1) || decide ((s.data.toList.headD 0).toNat ≠ 48)) && allDigit s

def textFits (ls ms : Int) (s : ByteArray) : Bool := decide (ls ≤ s.size) && decide ((s.size : Int) ≤ ms) && allPlain s
def decS (s : ByteArray) : Int := dec s.data.toList
def numFits (ls ms : Int) (s : ByteArray) : Bool := decOk s && decide (ls ≤ decS s) && decide (decS s ≤ ms)

theorem dec_snoc (l : List UInt8) (c : UInt8) : dec (l ++ [c]) = dec l * 10 + ((c.toNat : Int) - 48) := by simp [dec]

theorem dec_bound_from (l : List UInt8) (h : l.all digit = true) : ∀ a : Int, 0 ≤ a → 0 ≤ l.foldl (fun n c => n * 10 + ((c.toNat : Int) - 48)) a ∧ l.foldl (fun n c => n * 10 + ((c.toNat : Int) - 48)) a < (a + 1) * 10 ^ l.length := by
  induction l with
  | nil => intro a ha; simp; omega
  | cons c l ih =>
    intro a ha
    rw [List.all_cons, Bool.and_eq_true] at h
    have hc : 48 ≤ c.toNat ∧ c.toNat ≤ 57 := by simpa [digit] using h.1
    obtain ⟨h1, h2⟩ := ih h.2 (a * 10 + ((c.toNat : Int) - 48)) (by omega)
    simp only [List.foldl_cons, List.length_cons, Int.pow_succ]
    refine ⟨h1, Int.lt_of_lt_of_le h2 ?_⟩
    have hp : (0 : Int) ≤ 10 ^ l.length := Int.pow_nonneg (by decide)
    have := Int.mul_le_mul_of_nonneg_right (show a * 10 + ((c.toNat : Int) - 48) + 1 ≤ (a + 1) * 10 by omega) hp
    rw [Int.mul_comm (10 ^ l.length) 10, ← Int.mul_assoc]
    exact this

theorem dec_bound (l : List UInt8) (h : l.all digit = true) (n : Nat) (hn : l.length ≤ n) : 0 ≤ dec l ∧ dec l < 10 ^ n := by
  have := dec_bound_from l h 0 (by decide)
  refine ⟨this.1, Int.lt_of_lt_of_le this.2 ?_⟩
  simp only [Int.zero_add, Int.one_mul]
  exact_mod_cast Nat.pow_le_pow_right (by decide) hn

theorem take_snoc (s : ByteArray) (k : Nat) (h : k < s.size) : s.data.toList.take (k + 1) = s.data.toList.take k ++ [s[k]] := by
  rw [List.take_succ_eq_append_getElem (by simpa using h)]; rfl

theorem take_all (s : ByteArray) (k : Nat) (h : s.size ≤ k) : s.data.toList.take k = s.data.toList := List.take_of_length_le (by simpa using h)

theorem all_snoc (p : UInt8 → Bool) (s : ByteArray) (k : Nat) (h : k < s.size) : (s.data.toList.take (k + 1)).all p = ((s.data.toList.take k).all p && p s[k]) := by
  rw [take_snoc s k h, List.all_append]; simp

theorem all_not (p : UInt8 → Bool) (s : ByteArray) (k : Nat) (h : k < s.size) (hp : p s[k] = false) : s.data.toList.all p = false := by
  rw [← List.take_append_drop (k + 1) s.data.toList, List.all_append, all_snoc p s k h, hp]; simp

theorem isEmpty_of_size (s : ByteArray) : s.toList.isEmpty = decide (s.size = 0) := by
  rw [ByteArray.toList_eq, Bool.eq_iff_iff, List.isEmpty_iff, decide_eq_true_eq, ← List.length_eq_zero_iff, Array.length_toList]
  exact Iff.rfl

theorem empty_of_size (s : ByteArray) (h : s.size = 0) : s = ByteArray.empty := by
  apply ByteArray.ext; apply Array.eq_empty_of_size_eq_zero; exact h

theorem beq_toList (a b : ByteArray) : (a.toList == b.toList) = decide (a = b) := by
  rw [ByteArray.toList_eq, ByteArray.toList_eq, Bool.eq_iff_iff]
  simp only [beq_iff_eq, decide_eq_true_eq, Array.toList_inj]
  constructor
  · intro h; exact ByteArray.ext h
  · rintro rfl; rfl

def has (ws : List ByteArray) (v : ByteArray) : Bool := ws.any fun x => decide (x = v)

theorem has_snoc (ws : List ByteArray) (v : ByteArray) (k : Nat) (h : k < ws.length) : has (ws.take (k + 1)) v = (has (ws.take k) v || decide (ws[k] = v)) := by
  unfold has; rw [List.take_succ_eq_append_getElem h, List.any_append]; simp

theorem has_at (ws : List ByteArray) (v : ByteArray) (k : Nat) (h : k < ws.length) (e : ws[k] = v) : has ws v = true := by
  unfold has; rw [List.any_eq_true]; exact ⟨ws[k], List.getElem_mem h, by simpa using e⟩

theorem has_all (ws : List ByteArray) (v : ByteArray) (k : Nat) (h : ws.length ≤ k) : has (ws.take k) v = has ws v := by rw [List.take_of_length_le h]

theorem headD_eq (s : ByteArray) (h : 0 < s.size) : s.data.toList.headD 0 = s[0] := by
  obtain ⟨⟨l⟩⟩ := s
  cases l with
  | nil => simp [ByteArray.size] at h
  | cons a l => rfl

theorem decOk_no_len (s : ByteArray) (h : ¬ (1 ≤ s.size ∧ s.size ≤ 7)) : decOk s = false := by
  unfold decOk
  by_cases h1 : 1 ≤ s.size
  · rw [decide_eq_false (show ¬ s.size ≤ 7 by omega)]; simp
  · rw [decide_eq_false h1]; simp

theorem decOk_no_zero (s : ByteArray) (h : 1 < s.size) (hz : (s[0].toNat : Int) = 48) : decOk s = false := by
  unfold decOk
  rw [headD_eq s (by omega), decide_eq_false (show ¬ s.size ≤ 1 by omega), decide_eq_false (show ¬ s[0].toNat ≠ 48 by omega)]; simp

theorem decOk_all (s : ByteArray) (h1 : 1 ≤ s.size) (h7 : s.size ≤ 7) (hz : s.size ≤ 1 ∨ ¬ (s[0].toNat : Int) = 48) : decOk s = allDigit s := by
  unfold decOk
  rw [headD_eq s (by omega), decide_eq_true h1, decide_eq_true h7]
  rcases hz with h | h
  · rw [decide_eq_true h]; simp
  · rw [decide_eq_true (show s[0].toNat ≠ 48 by omega)]; simp

/-- Whether a value fits a field. -/
def fits (kd ls ms : Int) (ws : List ByteArray) (v : ByteArray) : Bool :=
  if v.size = 0 then false else if kd = 1 then numFits ls ms v else if kd = 2 then has ws v else if kd = 3 then textFits ls ms v else if kd = 4 then nameOk v else false

theorem fits_empty (kd ls ms : Int) (ws : List ByteArray) (v : ByteArray) (h : v.size = 0) : fits kd ls ms ws v = false := by simp [fits, h]
theorem fits_1 (ls ms : Int) (ws : List ByteArray) (v : ByteArray) (h : ¬ v.size = 0) : fits 1 ls ms ws v = numFits ls ms v := by simp [fits, h]
theorem fits_2 (ls ms : Int) (ws : List ByteArray) (v : ByteArray) (h : ¬ v.size = 0) : fits 2 ls ms ws v = has ws v := by simp [fits, h]
theorem fits_3 (ls ms : Int) (ws : List ByteArray) (v : ByteArray) (h : ¬ v.size = 0) : fits 3 ls ms ws v = textFits ls ms v := by simp [fits, h]
theorem fits_4 (ls ms : Int) (ws : List ByteArray) (v : ByteArray) (h : ¬ v.size = 0) : fits 4 ls ms ws v = nameOk v := by simp [fits, h]
theorem fits_other (kd ls ms : Int) (ws : List ByteArray) (v : ByteArray) (h1 : kd ≠ 1) (h2 : kd ≠ 2) (h3 : kd ≠ 3) (h4 : kd ≠ 4) : fits kd ls ms ws v = false := by simp [fits, h1, h2, h3, h4]

theorem decS_nonneg (s : ByteArray) (h : decOk s = true) : 0 ≤ decS s := by
  unfold decOk at h
  rw [Bool.and_eq_true] at h
  exact (dec_bound _ h.2 _ (Nat.le_refl _)).1

theorem numFits_no (ls ms : Int) (s : ByteArray) (h : decOk s = false) : numFits ls ms s = false := by simp [numFits, h]
theorem numFits_yes (ls ms : Int) (s : ByteArray) (h : decOk s = true) : numFits ls ms s = (decide (ls ≤ decS s) && decide (decS s ≤ ms)) := by simp [numFits, h]
theorem decOk_empty (s : ByteArray) (h : s.size = 0) : decOk s = false := decOk_no_len s (by omega)
theorem nameOk_empty (s : ByteArray) (h : s.size = 0) : nameOk s = false := by simp [nameOk, h]
theorem fits_num (ls ms : Int) (ws : List ByteArray) (v : ByteArray) : fits 1 ls ms ws v = numFits ls ms v := by
  by_cases h : v.size = 0
  · rw [fits_empty _ _ _ _ _ h, numFits_no _ _ _ (decOk_empty v h)]
  · exact fits_1 ls ms ws v h
theorem fits_link (ls ms : Int) (ws : List ByteArray) (v : ByteArray) : fits 4 ls ms ws v = nameOk v := by
  by_cases h : v.size = 0
  · rw [fits_empty _ _ _ _ _ h, nameOk_empty v h]
  · exact fits_4 ls ms ws v h
theorem fits_text_not (ls ms : Int) (ws : List ByteArray) (v : ByteArray) (h : allPlain v = false) : fits 3 ls ms ws v = false := by
  by_cases hz : v.size = 0
  · exact fits_empty _ _ _ _ _ hz
  · rw [fits_3 ls ms ws v hz, textFits, h]; simp
theorem fits_text_all (ls ms : Int) (ws : List ByteArray) (v : ByteArray) (h : allPlain v = true) (hz : ¬ v.size = 0) : fits 3 ls ms ws v = (decide (ls ≤ v.size) && decide ((v.size : Int) ≤ ms)) := by
  rw [fits_3 ls ms ws v hz, textFits, h]; simp

end Go.Proofs.YtponiggfclcbgaaGreat.Gate

namespace Go.Proofs.YtponiggfclcbgaaGreat
open Go.RowKit

set_option maxHeartbeats 400000 in
theorem l1In_any (n lo hi : Int) (w : World) :
    Calls Tryz.prog 113 #[.int .i64 n, .int .i64 lo, .int .i64 hi] w fun e w' => e = .returned (.bool (decide (lo ≤ n) && decide (n ≤ hi))) ∧ w' = w := by
  go_enter Tryz.func113, Tryz.ntmps113
  go_wp2
  all_goals
    go_ret
    refine ⟨ret_bool ?_, rfl⟩
    simp; try omega

theorem l1In_yes (n lo hi : Int) (w : World) (h1 : lo ≤ n) (h2 : n ≤ hi) :
    Calls Tryz.prog 113 #[.int .i64 n, .int .i64 lo, .int .i64 hi] w fun e w' => e = .returned (.bool true) ∧ w' = w := by
  refine (l1In_any n lo hi w).mono ?_
  rintro e w' ⟨rfl, rfl⟩
  exact ⟨ret_bool (by simp; omega), rfl⟩

theorem l1In_no (n lo hi : Int) (w : World) (h1 : ¬ (lo ≤ n ∧ n ≤ hi)) :
    Calls Tryz.prog 113 #[.int .i64 n, .int .i64 lo, .int .i64 hi] w fun e w' => e = .returned (.bool false) ∧ w' = w := by
  refine (l1In_any n lo hi w).mono ?_
  rintro e w' ⟨rfl, rfl⟩
  exact ⟨ret_bool (by simp; omega), rfl⟩

set_option maxHeartbeats 400000 in
theorem l1Byte_any (c : UInt8) (w : World) :
    Calls Tryz.prog 114 #[.int .u8 c.toNat] w fun e w' => e = .returned (.bool (Gate.nameByte c)) ∧ w' = w := by
  go_enter Tryz.func114, Tryz.ntmps114
  go_wp2
  all_goals
    go_ret
    refine ⟨ret_bool ?_, rfl⟩
    rw [Bool.eq_iff_iff]; simp [Gate.nameByte]; try omega

set_option maxHeartbeats 400000 in
theorem isDigit_any (c : UInt8) (w : World) :
    Calls Tryz.prog 126 #[.int .u8 c.toNat] w fun e w' => e = .returned (.bool (Gate.digit c)) ∧ w' = w := by
  go_enter Tryz.func126, Tryz.ntmps126
  go_wp2
  all_goals
    go_ret
    refine ⟨ret_bool ?_, rfl⟩
    rw [Bool.eq_iff_iff]; simp [Gate.digit]; try omega

theorem isDigit_yes (c : UInt8) (w : World) (h : 48 ≤ (c.toNat : Int)) (h2 : (c.toNat : Int) ≤ 57) :
    Calls Tryz.prog 126 #[.int .u8 c.toNat] w fun e w' => e = .returned (.bool true) ∧ w' = w := by
  refine (isDigit_any c w).mono ?_
  rintro e w' ⟨rfl, rfl⟩
  exact ⟨ret_bool (by simp [Gate.digit]; omega), rfl⟩

theorem isDigit_no (c : UInt8) (w : World) (h : ¬ (48 ≤ (c.toNat : Int) ∧ (c.toNat : Int) ≤ 57)) :
    Calls Tryz.prog 126 #[.int .u8 c.toNat] w fun e w' => e = .returned (.bool false) ∧ w' = w := by
  refine (isDigit_any c w).mono ?_
  rintro e w' ⟨rfl, rfl⟩
  exact ⟨ret_bool (by simp [Gate.digit]; omega), rfl⟩

end Go.Proofs.YtponiggfclcbgaaGreat
