import Derived.WalkKit
import Derived.Test.YtimhinpekngceaaDoorM02
namespace Go.Proofs.YtimhinpekngceaaDoor.Gate

/-- A byte of a name. -/
def nameByte (c : UInt8) : Bool := decide (97 ≤ c.toNat ∧ c.toNat ≤ 122) || decide (48 ≤ c.toNat ∧ c.toNat ≤ 57) || decide (c.toNat = 45)
def digit (c : UInt8) : Bool := decide (48 ≤ c.toNat ∧ c.toNat ≤ 57)
def plainByte (c : UInt8) : Bool := decide (33 ≤ c.toNat ∧ c.toNat ≤ 126)

def allName (s : ByteArray) : Bool := s.data.toList.all nameByte
def allPlain (s : ByteArray) : Bool := s.data.toList.all plainByte
def allDigit (s : ByteArray) : Bool := s.data.toList.all digit
def nameOk (s : ByteArray) : Bool := decide (1 ≤ s.size) && decide (s.size ≤ 16) && allName s

/-- The number of digits, read from the left. -/
def dec (l : List UInt8) : Int := l.foldl (fun n c => n * 10 + ((c.toNat : Int) - 48)) 0

def decOk (s : ByteArray) : Bool := decide (1 ≤ s.size) && decide (s.size ≤ 7) && (decide (s.size ≤ 1) || decide ((s.data.toList.headD 0).toNat ≠ 48)) && allDigit s

def textFits (ls ms : Int) (s : ByteArray) : Bool := decide (ls ≤ s.size) && decide ((s.size : Int) ≤ ms) && allPlain s
def decS (s : ByteArray) : Int := dec s.data.toList
def numFits (ls ms : Int) (s : ByteArray) : Bool := decOk s && decide (ls ≤ decS s) && decide (decS s ≤ ms)

theorem dec_snoc (l : List UInt8) (c : UInt8) : dec (l ++ [c]) = dec l * 10 + ((c.toNat : Int) - 48) := by simp [dec]

theorem dec_bound_from (l : List UInt8) (h : l.all digit = true) : ∀ a : Int, 0 ≤ a → 0 ≤ l.foldl (fun n c => n * 10 + ((c.toNat : Int) - 48)) a ∧ l.foldl (fun n c => n * 10 + ((c.toNat : Int) - 48)) a < (a + 1) * 10 ^ l.length := by
  induction l with
  | nil => intro a ha; simp; omega
  | cons c l ih =>
    intro a ha
    rw [List.all_cons, Bool.and_eq_true] at h
    have hc : 48 ≤ c.toNat ∧ c.toNat ≤ 57 := by simpa [digit] using h.1
    obtain ⟨h1, h2⟩ := ih h.2 (a * 10 + ((c.toNat : Int) - 48)) (by omega)
    simp only [List.foldl_cons, List.length_cons, Int.pow_succ]
    refine ⟨h1, Int.lt_of_lt_of_le h2 ?_⟩
    have hp : (0 : Int) ≤ 10 ^ l.length := Int.pow_nonneg (by decide)
    have := Int.mul_le_mul_of_nonneg_right (show a * 10 + ((c.toNat : Int) - 48) + 1 ≤ (a + 1) * 10 by omega) hp
    rw [Int.mul_comm (10 ^ l.length) 10, ← Int.mul_assoc]
    exact this

theorem dec_bound (l : List UInt8) (h : l.all digit = true) (n : Nat) (hn : l.length ≤ n) : 0 ≤ dec l ∧ dec l < 10 ^ n := by
  have := dec_bound_from l h 0 (by decide)
  refine ⟨this.1, Int.lt_of_lt_of_le this.2 ?_⟩
  simp only [Int.zero_add, Int.one_mul]
  exact_mod_cast Nat.pow_le_pow_right (by decide) hn

theorem take_snoc (s : ByteArray) (k : Nat) (h : k < s.size) : s.data.toList.take (k + 1) = s.data.toList.take k ++ [s[k]] := by
  rw [List.take_succ_eq_append_getElem (by simpa using h)]; rfl

theorem take_all (s : ByteArray) (k : Nat) (h : s.size ≤ k) : s.data.toList.take k = s.data.toList := List.take_of_length_le (by simpa using h)

theorem all_snoc (p : UInt8 → Bool) (s : ByteArray) (k : Nat) (h : k < s.size) : (s.data.toList.take (k + 1)).all p = ((s.data.toList.take k).all p && p s[k]) := by
  rw [take_snoc s k h, List.all_append]; simp

theorem all_not (p : UInt8 → Bool) (s : ByteArray) (k : Nat) (h : k < s.size) (hp : p s[k] = false) : s.data.toList.all p = false := by
  rw [← List.take_append_drop (k + 1) s.data.toList, List.all_append, all_snoc p s k h, hp]; simp

theorem isEmpty_of_size (s : ByteArray) : s.toList.isEmpty = decide (s.size = 0) := by
  rw [ByteArray.toList_eq, Bool.eq_iff_iff, List.isEmpty_iff, decide_eq_true_eq, ← List.length_eq_zero_iff, Array.length_toList]
  exact Iff.rfl

theorem empty_of_size (s : ByteArray) (h : s.size = 0) : s = ByteArray.empty := by
  apply ByteArray.ext; apply Array.eq_empty_of_size_eq_zero; exact h

theorem beq_toList (a b : ByteArray) : (a.toList == b.toList) = decide (a = b) := by
  rw [ByteArray.toList_eq, ByteArray.toList_eq, Bool.eq_iff_iff]
  simp only [beq_iff_eq, decide_eq_true_eq, Array.toList_inj]
  constructor
  · intro h; exact ByteArray.ext h
  · rintro rfl; rfl

def has (ws : List ByteArray) (v : ByteArray) : Bool := ws.any fun x => decide (x = v)

theorem has_snoc (ws : List ByteArray) (v : ByteArray) (k : Nat) (h : k < ws.length) : has (ws.take (k + 1)) v = (has (ws.take k) v || decide (ws[k] = v)) := by
  unfold has; rw [List.take_succ_eq_append_getElem h, List.any_append]; simp

theorem has_at (ws : List ByteArray) (v : ByteArray) (k : Nat) (h : k < ws.length) (e : ws[k] = v) : has ws v = true := by
  unfold has; rw [List.any_eq_true]; exact ⟨ws[k], List.getElem_mem h, by simpa using e⟩

theorem has_all (ws : List ByteArray) (v : ByteArray) (k : Nat) (h : ws.length ≤ k) : has (ws.take k) v = has ws v := by rw [List.take_of_length_le h]

theorem headD_eq (s : ByteArray) (h : 0 < s.size) : s.data.toList.headD 0 = s[0] := by
  obtain ⟨⟨l⟩⟩ := s
  cases l with
  | nil => simp [ByteArray.size] at h
  | cons a l => rfl

theorem decOk_no_len (s : ByteArray) (h : ¬ (1 ≤ s.size ∧ s.size ≤ 7)) : decOk s = false := by
  unfold decOk
  by_cases h1 : 1 ≤ s.size
  · rw [decide_eq_false (show ¬ s.size ≤ 7 by omega)]; simp
  · rw [decide_eq_false h1]; simp

theorem decOk_no_zero (s : ByteArray) (h : 1 < s.size) (hz : (s[0].toNat : Int) = 48) : decOk s = false := by
  unfold decOk
  rw [headD_eq s (by omega), decide_eq_false (show ¬ s.size ≤ 1 by omega), decide_eq_false (show ¬ s[0].toNat ≠ 48 by omega)]; simp

theorem decOk_all (s : ByteArray) (h1 : 1 ≤ s.size) (h7 : s.size ≤ 7) (hz : s.size ≤ 1 ∨ ¬ (s[0].toNat : Int) = 48) : decOk s = allDigit s := by
  unfold decOk
  rw [headD_eq s (by omega), decide_eq_true h1, decide_eq_true h7]
  rcases hz with h | h
  · rw [decide_eq_true h]; simp
  · rw [decide_eq_true (show s[0].toNat ≠ 48 by omega)]; simp

/-- Whether a value fits a field. -/
def fits (kd ls ms : Int) (ws : List ByteArray) (v : ByteArray) : Bool :=
  if v.size = 0 then false else if kd = 1 then numFits ls ms v else if kd = 2 then has ws v else if kd = 3 then textFits ls ms v else if kd = 4 then nameOk v else false

theorem fits_empty (kd ls ms : Int) (ws : List ByteArray) (v : ByteArray) (h : v.size = 0) : fits kd ls ms ws v = false := by simp [fits, h]
theorem fits_1 (ls ms : Int) (ws : List ByteArray) (v : ByteArray) (h : ¬ v.size = 0) : fits 1 ls ms ws v = numFits ls ms v := by simp [fits, h]
theorem fits_2 (ls ms : Int) (ws : List ByteArray) (v : ByteArray) (h : ¬ v.size = 0) : fits 2 ls ms ws v = has ws v := by simp [fits, h]
theorem fits_3 (ls ms : Int) (ws : List ByteArray) (v : ByteArray) (h : ¬ v.size = 0) : fits 3 ls ms ws v = textFits ls ms v := by simp [fits, h]
theorem fits_4 (ls ms : Int) (ws : List ByteArray) (v : ByteArray) (h : ¬ v.size = 0) : fits 4 ls ms ws v = nameOk v := by simp [fits, h]
theorem fits_other (kd ls ms : Int) (ws : List ByteArray) (v : ByteArray) (h1 : kd ≠ 1) (h2 : kd ≠ 2) (h3 : kd ≠ 3) (h4 : kd ≠ 4) : fits kd ls ms ws v = false := by simp [fits, h1, h2, h3, h4]

theorem decS_nonneg (s : ByteArray) (h : decOk s = true) : 0 ≤ decS s := by
  unfold decOk at h
  rw [Bool.and_eq_true] at h
  exact (dec_bound _ h.2 _ (Nat.le_refl _)).1

theorem numFits_no (ls ms : Int) (s : ByteArray) (h : decOk s = false) : numFits ls ms s = false := by simp [numFits, h]
theorem numFits_yes (ls ms : Int) (s : ByteArray) (h : decOk s = true) : numFits ls ms s = (decide (ls ≤ decS s) && decide (decS s ≤ ms)) := by simp [numFits, h]
theorem decOk_empty (s : ByteArray) (h : s.size = 0) : decOk s = false := decOk_no_len s (by omega)
theorem nameOk_empty (s : ByteArray) (h : s.size = 0) : nameOk s = false := by simp [nameOk, h]
theorem fits_num (ls ms : Int) (ws : List ByteArray) (v : ByteArray) : fits 1 ls ms ws v = numFits ls ms v := by
  by_cases h : v.size = 0
  · rw [fits_empty _ _ _ _ _ h, numFits_no _ _ _ (decOk_empty v h)]
  · exact fits_1 ls ms ws v h
theorem fits_link (ls ms : Int) (ws : List ByteArray) (v : ByteArray) : fits 4 ls ms ws v = nameOk v := by
  by_cases h : v.size = 0
  · rw [fits_empty _ _ _ _ _ h, nameOk_empty v h]
  · exact fits_4 ls ms ws v h
theorem fits_text_not (ls ms : Int) (ws : List ByteArray) (v : ByteArray) (h : allPlain v = false) : fits 3 ls ms ws v = false := by
  by_cases hz : v.size = 0
  · exact fits_empty _ _ _ _ _ hz
  · rw [fits_3 ls ms ws v hz, textFits, h]; simp
theorem fits_text_all (ls ms : Int) (ws : List ByteArray) (v : ByteArray) (h : allPlain v = true) (hz : ¬ v.size = 0) : fits 3 ls ms ws v = (decide (ls ≤ v.size) && decide ((v.size : Int) ≤ ms)) := by
  rw [fits_3 ls ms ws v hz, textFits, h]; simp

end Go.Proofs.YtimhinpekngceaaDoor.Gate

namespace Go.Proofs.YtimhinpekngceaaDoor.Gate

/-- Something holds of all places below n. -/
def up (P : Nat → Bool) (n : Nat) : Bool := (List.range n).all P
theorem up_zero (P : Nat → Bool) : up P 0 = true := rfl
theorem up_succ (P : Nat → Bool) (n : Nat) : up P (n + 1) = (up P n && P n) := by simp [up, List.range_succ, List.all_append]
theorem up_not {P : Nat → Bool} {k n : Nat} (h : k < n) (hk : P k = false) : up P n = false := by
  unfold up; rw [List.all_eq_false]; exact ⟨k, List.mem_range.2 h, by simp [hk]⟩
theorem up_at {P : Nat → Bool} {k n : Nat} (h : k < n) (hu : up P n = true) : P k = true := by
  unfold up at hu; rw [List.all_eq_true] at hu; exact hu k (List.mem_range.2 h)

def less (a b : ByteArray) : Bool := Op.bytesLess a.toList b.toList

def ascAt (ws : List ByteArray) (i : Nat) : Bool := nameOk (ws.getD i ByteArray.empty) && (decide (i = 0) || less (ws.getD (i - 1) ByteArray.empty) (ws.getD i ByteArray.empty))
def asc (ws : List ByteArray) : Bool := up (ascAt ws) ws.length

theorem getD_at {α : Type} (l : List α) (i : Nat) (d : α) (h : i < l.length) : l.getD i d = l[i] := by
  rw [List.getD_eq_getElem?_getD, List.getElem?_eq_getElem h]; rfl

theorem ascAt_name {ws : List ByteArray} {k : Nat} (h : k < ws.length) (hn : nameOk ws[k] = false) : ascAt ws k = false := by
  unfold ascAt; rw [getD_at ws k _ h, hn]; rfl
theorem ascAt_first {ws : List ByteArray} (h : 0 < ws.length) (hn : nameOk ws[0] = true) : ascAt ws 0 = true := by
  unfold ascAt; rw [getD_at ws 0 _ h, hn]; rfl
theorem ascAt_more {ws : List ByteArray} {k : Nat} (h : k + 1 < ws.length) (hn : nameOk ws[k + 1] = true) : ascAt ws (k + 1) = less ws[k] ws[k + 1] := by
  unfold ascAt; rw [getD_at ws (k + 1) _ h, Nat.add_sub_cancel, getD_at ws k _ (by omega), hn]; simp

/-- A field has nothing that its kind does not use. -/
def bareOf (kd ls ms : Int) (n : Nat) (to : ByteArray) (rl : Int) (wg : ByteArray) : Bool :=
  if kd = 1 then decide (n = 0) && to.toList.isEmpty && decide (rl = 0)
  else if kd = 2 then decide (ls = 0) && decide (ms = 0) && to.toList.isEmpty && decide (rl = 0) && wg.toList.isEmpty
  else if kd = 3 then decide (n = 0) && to.toList.isEmpty && decide (rl = 0) && wg.toList.isEmpty
  else if kd = 4 then decide (ls = 0) && decide (ms = 0) && decide (n = 0) && wg.toList.isEmpty
  else false

def rangeOk (ls ms lo hi : Int) : Bool := decide (lo ≤ ls) && decide (ls ≤ ms) && decide (ms ≤ hi)
def hasKind (ss : List Shp) (k : ByteArray) : Bool := ss.any fun s => decide (s.kd = k)

/-- What a field's kind uses is as it must be. -/
def soundOf (ss : List Shp) (f : Fld) : Bool :=
  if f.kd = 1 then rangeOk f.ls f.ms 0 1000000 && (f.wg.toList.isEmpty || nameOk f.wg)
  else if f.kd = 2 then decide (1 ≤ f.ws.length) && decide (f.ws.length ≤ 6) && asc f.ws
  else if f.kd = 3 then rangeOk f.ls f.ms 1 40
  else if f.kd = 4 then hasKind ss f.to && (decide (1 ≤ f.rl) && decide (f.rl ≤ 3)) && f.df.toList.isEmpty && (decide (f.rl ≠ 2) || !f.mu)
  else false

def bare (f : Fld) : Bool := bareOf f.kd f.ls f.ms f.ws.length f.to f.rl f.wg
def fitsF (f : Fld) (v : ByteArray) : Bool := fits f.kd f.ls f.ms f.ws v
def dfOk (f : Fld) : Bool := f.df.toList.isEmpty || fitsF f f.df
def fieldOk (ss : List Shp) (f : Fld) : Bool := bare f && soundOf ss f && dfOk f

def noShape : Shp := ⟨ByteArray.empty, []⟩
/-- The first shape of a kind. -/
def shapeOf (ss : List Shp) (k : ByteArray) : Shp := (ss.find? fun s => decide (s.kd = k)).getD noShape

theorem hasKind_snoc (ss : List Shp) (v : ByteArray) (k : Nat) (h : k < ss.length) : hasKind (ss.take (k + 1)) v = (hasKind (ss.take k) v || decide (ss[k].kd = v)) := by
  unfold hasKind; rw [List.take_succ_eq_append_getElem h, List.any_append]; simp
theorem hasKind_at (ss : List Shp) (v : ByteArray) (k : Nat) (h : k < ss.length) (e : ss[k].kd = v) : hasKind ss v = true := by
  unfold hasKind; rw [List.any_eq_true]; exact ⟨ss[k], List.getElem_mem h, by simpa using e⟩
theorem hasKind_all (ss : List Shp) (v : ByteArray) (k : Nat) (h : ss.length ≤ k) : hasKind (ss.take k) v = hasKind ss v := by rw [List.take_of_length_le h]
theorem shapeOf_at (ss : List Shp) (v : ByteArray) (k : Nat) (h : k < ss.length) (hb : hasKind (ss.take k) v = false) (e : ss[k].kd = v) : shapeOf ss v = ss[k] := by
  unfold shapeOf
  have hn : (ss.take k).find? (fun s => decide (s.kd = v)) = none := by
    rw [List.find?_eq_none]; intro x hx; unfold hasKind at hb; rw [List.any_eq_false] at hb; exact hb x hx
  conv => lhs; rw [← List.take_append_drop k ss]
  rw [List.find?_append, hn, List.drop_eq_getElem_cons h, List.find?_cons_of_pos (by simpa using e)]; rfl
theorem shapeOf_none (ss : List Shp) (v : ByteArray) (hb : hasKind ss v = false) : shapeOf ss v = noShape := by
  unfold shapeOf
  have hn : ss.find? (fun s => decide (s.kd = v)) = none := by
    rw [List.find?_eq_none]; intro x hx; unfold hasKind at hb; rw [List.any_eq_false] at hb; exact hb x hx
  rw [hn]; rfl

def hasName (fs : List Fld) (v : ByteArray) : Bool := fs.any fun f => decide (f.nm = v)
/-- The place of the first field of a name, -1 if there is none. -/
def fieldIx (fs : List Fld) (v : ByteArray) : Int := match fs.findIdx? (fun f => decide (f.nm = v)) with | some i => i | none => -1

theorem hasName_snoc (fs : List Fld) (v : ByteArray) (k : Nat) (h : k < fs.length) : hasName (fs.take (k + 1)) v = (hasName (fs.take k) v || decide (fs[k].nm = v)) := by
  unfold hasName; rw [List.take_succ_eq_append_getElem h, List.any_append]; simp
theorem hasName_all (fs : List Fld) (v : ByteArray) (k : Nat) (h : fs.length ≤ k) : hasName (fs.take k) v = hasName fs v := by rw [List.take_of_length_le h]
theorem fieldIx_at (fs : List Fld) (v : ByteArray) (k : Nat) (h : k < fs.length) (hb : hasName (fs.take k) v = false) (e : fs[k].nm = v) : fieldIx fs v = k := by
  unfold fieldIx
  have hf : fs.findIdx? (fun f => decide (f.nm = v)) = some k := by
    rw [List.findIdx?_eq_some_iff_getElem]
    refine ⟨h, by simpa using e, fun j hj => ?_⟩
    unfold hasName at hb
    rw [List.any_eq_false] at hb
    have hm : fs[j] ∈ fs.take k := by
      rw [List.mem_iff_getElem]
      exact ⟨j, by simp; omega, by simp⟩
    exact hb _ hm
  rw [hf]
theorem fieldIx_none (fs : List Fld) (v : ByteArray) (hb : hasName fs v = false) : fieldIx fs v = -1 := by
  unfold fieldIx
  have hf : fs.findIdx? (fun f => decide (f.nm = v)) = none := by
    rw [List.findIdx?_eq_none_iff]
    intro x hx
    unfold hasName at hb
    rw [List.any_eq_false] at hb
    simpa using hb x hx
  rw [hf]
theorem hasName_first (fs : List Fld) (v : ByteArray) (k : Nat) (h : k < fs.length) (hh : hasName (fs.take k) v = true) : ∃ j, j < k ∧ fieldIx fs v = j := by
  unfold hasName at hh
  rw [List.any_eq_true] at hh
  obtain ⟨x, hx, he⟩ := hh
  obtain ⟨j, hj, rfl⟩ := List.mem_iff_getElem.1 hx
  have hjk : j < k := by simp at hj; omega
  have hjl : j < fs.length := by omega
  have hv : fs[j].nm = v := by simpa using he
  cases hf : fs.findIdx? (fun f => decide (f.nm = v)) with
  | none =>
    rw [List.findIdx?_eq_none_iff] at hf
    have := hf fs[j] (List.getElem_mem hjl)
    simp [hv] at this
  | some i =>
    refine ⟨i, ?_, by unfold fieldIx; rw [hf]⟩
    rw [List.findIdx?_eq_some_iff_getElem] at hf
    obtain ⟨hi, _, hmin⟩ := hf
    rcases Nat.lt_or_ge i k with h1 | h1
    · exact h1
    · exfalso
      have := hmin j (by omega)
      simp [hv] at this

def noField : Fld := ⟨ByteArray.empty, 0, 0, 0, [], ByteArray.empty, 0, false, false, ByteArray.empty, ByteArray.empty⟩
/-- The field at a place is ok: its name, new among the fields ahead of it, and what it says. -/
def okAt (ss : List Shp) (fs : List Fld) (i : Nat) : Bool :=
  nameOk (fs.getD i noField).nm && !hasName (fs.take i) (fs.getD i noField).nm && fieldOk ss (fs.getD i noField)
def fieldsOk (ss : List Shp) (fs : List Fld) : Bool := decide (fs.length ≤ 6) && up (okAt ss fs) fs.length

theorem okAt_eq (ss : List Shp) (fs : List Fld) (i : Nat) (h : i < fs.length) : okAt ss fs i = (nameOk fs[i].nm && !hasName (fs.take i) fs[i].nm && fieldOk ss fs[i]) := by
  unfold okAt; rw [getD_at fs i _ h]

/-- The shape at a place is ok. -/
def shapeAt (ss : List Shp) (i : Nat) : Bool :=
  nameOk (ss.getD i noShape).kd && (decide (i = 0) || less (ss.getD (i - 1) noShape).kd (ss.getD i noShape).kd) && fieldsOk ss (ss.getD i noShape).fs
def shapesOk (ss : List Shp) : Bool := decide (ss.length ≤ 6) && up (shapeAt ss) ss.length

theorem shapeAt_first (ss : List Shp) (h : 0 < ss.length) : shapeAt ss 0 = (nameOk ss[0].kd && fieldsOk ss ss[0].fs) := by
  unfold shapeAt; rw [getD_at ss 0 _ h]; simp
theorem shapeAt_more (ss : List Shp) (k : Nat) (h : k + 1 < ss.length) : shapeAt ss (k + 1) = (nameOk ss[k + 1].kd && less ss[k].kd ss[k + 1].kd && fieldsOk ss ss[k + 1].fs) := by
  unfold shapeAt; rw [getD_at ss (k + 1) _ h, Nat.add_sub_cancel, getD_at ss k _ (by omega)]; simp

theorem bytesLess_irrefl : ∀ x : List UInt8, Op.bytesLess x x = false
  | [] => rfl
  | a :: x => by
    simp only [Op.bytesLess, Bool.or_eq_false_iff, decide_eq_false_iff_not, Bool.and_eq_false_iff]
    exact ⟨fun h => by simp at h, Or.inr (bytesLess_irrefl x)⟩

theorem bytesLess_trans : ∀ x y z : List UInt8, Op.bytesLess x y = true → Op.bytesLess y z = true → Op.bytesLess x z = true
  | _, [], _, h, _ => by simp [Op.bytesLess] at h
  | [], _ :: _, [], _, h => by simp [Op.bytesLess] at h
  | [], _ :: _, _ :: _, _, _ => rfl
  | _ :: _, _ :: _, [], _, h => by simp [Op.bytesLess] at h
  | a :: x, b :: y, c :: z, h, k => by
    simp only [Op.bytesLess, Bool.or_eq_true, decide_eq_true_eq, Bool.and_eq_true, beq_iff_eq] at h k ⊢
    rcases h with h | ⟨rfl, h⟩
    · rcases k with k | ⟨rfl, k⟩
      · exact Or.inl (UInt8.lt_trans h k)
      · exact Or.inl h
    · rcases k with k | ⟨rfl, k⟩
      · exact Or.inl k
      · exact Or.inr ⟨rfl, bytesLess_trans x y z h k⟩

end Go.Proofs.YtimhinpekngceaaDoor.Gate
