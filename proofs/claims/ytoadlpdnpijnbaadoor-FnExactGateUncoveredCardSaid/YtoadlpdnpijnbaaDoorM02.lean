import Derived.Test.YtoadlpdnpijnbaaDoorM01
import Derived.Shelf.Lay
import Derived.Shelf.LaySoft
import Derived.Shelf.LaysM
import Derived.Shelf.Strconv.Itoa3
import Derived.Lib.ItoaLen
import Derived.WalkKit
namespace Go.Proofs
open Go.Shelf
shelf_lay LaysM.n171 Nm 171 at Tryd as YtoadlpdnpijnbaaDoor.laysM171
end Go.Proofs
namespace Go.Proofs.YtoadlpdnpijnbaaDoor
open Go.RowKit Go.Shelf

theorem below_drewN_grow (w : World) (k : Nat) (os : Array Obj) : Below w.heap.size w (Sort.grow (w.drewN k) os) := by
  refine ⟨rfl, rfl, rfl, ?_, ?_⟩
  · show w.heap.size ≤ ((w.drewN k).heap ++ os).size
    rw [Array.size_append]; exact Nat.le_add_right _ _
  · intro i hi
    show ((w.drewN k).heap ++ os)[i]? = w.heap[i]?
    exact Array.getElem?_append_left hi

/-- The table of powers of ten. -/
def TabW (w : World) : Prop := Lib.TabIs Tryd.prog w "internal/strconv.uint64pow10" .u64 Lib.pow10Tab

theorem TabW.mono {w w' : World} (h : TabW w) (hb : Below w.heap.size w w') : TabW w' := by
  unfold TabW Lib.TabIs World.var? at h ⊢
  cases hg : Program.globalNamed Tryd.prog "internal/strconv.uint64pow10" with
  | none => rw [hg] at h; cases h
  | some g =>
    rw [hg] at h
    simp only [Option.bind_some] at h ⊢
    have hlt : g < w.heap.size := by
      rcases Nat.lt_or_ge g w.heap.size with h' | h'
      · exact h'
      · rw [Array.getElem?_eq_none h'] at h; cases h
    rw [hb.block g hlt]
    exact h

theorem itoa_at (n : Nat) (h : n < 4611686018427387904) (w : World) (htab : TabW w) :
    Calls Tryd.prog 84 #[.int .i64 (n : Int)] w fun e w' => e = .returned (.string ⟨(Lib.decDigits n).toArray⟩) ∧ Below w.heap.size w w' := by
  have hc : Calls Tryd.prog 84 #[.int .i64 (n : Int)] w fun e w' => e = .returned (.string ⟨(Lib.itoa (n : Int)).toArray⟩) ∧ ∃ k os, w' = Sort.grow (w.drewN k) os := Any.strconv_Itoa laysM171 (n : Int) (by omega) (by omega) w htab
  refine hc.mono ?_
  rintro e w' ⟨rfl, k, os, rfl⟩
  rw [Lib.itoa_nonneg]
  exact ⟨rfl, below_drewN_grow w k os⟩

set_option maxHeartbeats 1000000 in
theorem freeName_any (l : ByteArray) (r : Nat) (f : ByteArray → Option Int) (L : List ByteArray) (w : World) (htab : TabW w) (hm : StrMap w r f) (hL : ∀ s, 0 < (f s).getD 0 ↔ s ∈ L) (hlen : L.length < 2305843009213693952) (hl : l.size ≤ 1) :
    Calls Tryd.prog 65 #[.string l, .map (some r)] w fun e w' => (∃ k, e = .returned (.string (Gate.numbered l k)) ∧ Gate.IsFree l L k) ∧ Below w.heap.size w w' := by
  have HL : Hid (∀ s, 0 < (f s).getD 0 ↔ s ∈ L) := hL
  have HN : Hid (L.length < 2305843009213693952) := hlen
  have HT : Hid (TabW w) := htab
  have HM : Hid (StrMap w r f) := hm
  clear hL hlen htab hm
  go_enter Tryd.func65, Tryd.ntmps65
  go_wp2_with fail
  go_loopw [5] (fun n wr => ∃ k : Nat, n = .int .i64 k ∧ Hid (∀ j, j < k → Gate.numbered l j ∈ L) ∧ Below w.heap.size w wr) (fun n _ => L.length + 1 - (intOf n).toNat)
  case atStart => exact ⟨0, rfl, fun j hj => by omega, Below.refl _ _⟩
  case round =>
    obtain ⟨k, rfl, hall, hB⟩ := hrel
    have hk : k < 4611686018427387904 := by have := Gate.numbered_le k L hall.out; have := HN.out; omega
    have HK : Hid (k ≤ L.length) := Gate.numbered_le k L hall.out
    obtain ⟨d, HD⟩ : ∃ d : ByteArray, Hid (⟨(Lib.decDigits k).toArray⟩ = d) := ⟨_, rfl⟩
    have HC : Hid (∀ W, Below wr.heap.size wr W → Calls Tryd.prog 84 #[.int .i64 (k : Int)] W fun e w' => e = .returned (.string d) ∧ Below wr.heap.size wr w') := fun W hW => by
      rw [← HD.out]
      refine (itoa_at k hk W (HT.out.mono (hB.trans (hW.mono hB.size)))).mono ?_
      rintro e w' ⟨rfl, hb⟩
      exact ⟨rfl, hW.trans (hb.mono hW.size)⟩
    have hkI : (k : Int) < 4611686018427387904 := by omega
    have hsz : l.size + d.size ≤ 9223372036854775807 := by
      have h1 := Lib.itoa_length_le (k : Int) (by omega) (by omega)
      rw [Lib.itoa_nonneg] at h1
      have h2 : d.size ≤ 21 := by rw [← HD.out]; simpa [ByteArray.size] using h1
      omega
    obtain ⟨s, hs, HS⟩ : ∃ s : ByteArray, (∀ W, (Op.stringOp .add l d).run Tryd.prog W = .ok (.string s) W) ∧ Hid (s = Gate.numbered l k) := ⟨l ++ d, fun W => run_string_add_sum W _ _ hsz, by rw [← HD.out]; rfl⟩
    obtain ⟨v, hlook, HV⟩ : ∃ v : Int, Hid (∀ w2, Below wr.heap.size wr w2 → (Instr.lookup 99 (.map (some r)) (.string s) false).run Tryd.prog w2 = .ok (.int .i64 v) w2) ∧ Hid (0 < v ↔ Gate.numbered l k ∈ L) := ⟨_, fun w2 h => (HM.out.mono ((hB.trans (h.mono hB.size)).block r HM.out.lt)).look s, by unfold Hid; rw [HL.out s, HS.out]⟩
    clear hsz hk
    by_cases hv : 0 < v
    · have HY : Hid (Gate.numbered l k ∈ L) := HV.out.1 hv
      go_wp2_with (go_at_call 84; refine (HC.out _ (Below.refl _ _)).mono ?_; rintro e w2 ⟨rfl, hb2⟩; have hlk := hlook.out w2 hb2)
      refine ⟨⟨k + 1, by go_num, fun j hj => ?_, hB.trans (hb2.mono hB.size)⟩, by simp [intOf]; have := HK.out; omega⟩
      rcases Nat.lt_or_ge j k with h | h
      · exact hall.out j h
      · have e : j = k := by omega
        subst e; exact HY.out
    · have HY : Hid (Gate.numbered l k ∉ L) := fun h => hv (HV.out.2 h)
      have hdec : decide (0 < v) = false := by simp; omega
      have HZ : Hid (Gate.IsFree l L k ∧ s = Gate.numbered l k ∧ ∀ w3, Below wr.heap.size wr w3 → Below w.heap.size w w3) := ⟨⟨HY.out, hall.out⟩, HS.out, fun w3 h => hB.trans (h.mono hB.size)⟩
      clear hv HT HM HL HN HK hall HV HS HD hkI hl hB HY
      go_wp2_with fail
      refine (HC.out _ (Below.refl _ _)).mono ?_
      rintro e w2 ⟨rfl, hb2⟩
      have hlk := hlook.out w2 hb2
      have HB2 : Hid (Below wr.heap.size wr w2) := hb2
      clear hb2
      go_wp2_with fail
      refine (HC.out _ HB2.out).mono ?_
      rintro e w3 ⟨rfl, hb3⟩
      go_wp2_with fail
      go_ret
      exact ⟨⟨k, by rw [← HZ.out.2.1]; rfl, HZ.out.1⟩, HZ.out.2.2 _ hb3⟩

end Go.Proofs.YtoadlpdnpijnbaaDoor

namespace Go.Proofs.YtoadlpdnpijnbaaDoor.Gate

/-- A byte of a name. -/
def nameByte (c : UInt8) : Bool := decide (97 ≤ c.toNat ∧ c.toNat ≤ 122) || decide (48 ≤ c.toNat ∧ c.toNat ≤ 57) || decide (c.toNat = 45)
def digit (c : UInt8) : Bool := decide (48 ≤ c.toNat ∧ c.toNat ≤ 57)
def plainByte (c : UInt8) : Bool := decide (33 ≤ c.toNat ∧ c.toNat ≤ 126)

def allName (s : ByteArray) : Bool := s.data.toList.all nameByte
def allPlain (s : ByteArray) : Bool := s.data.toList.all plainByte
def allDigit (s : ByteArray) : Bool := s.data.toList.all digit
def nameOk (s : ByteArray) : Bool := decide (1 ≤ s.size) && decide (s.size ≤ 16) && allName s

/-- The number of digits, read from the left. -/
def dec (l : List UInt8) : Int := l.foldl (fun n c => n * 10 + ((c.toNat : Int) - 48)) 0

def decOk (s : ByteArray) : Bool := decide (1 ≤ s.size) && decide (s.size ≤ 7) && (decide (s.size ≤ 1) || decide ((s.data.toList.headD 0).toNat ≠ 48)) && allDigit s

def textFits (ls ms : Int) (s : ByteArray) : Bool := decide (ls ≤ s.size) && decide ((s.size : Int) ≤ ms) && allPlain s
def decS (s : ByteArray) : Int := dec s.data.toList
def numFits (ls ms : Int) (s : ByteArray) : Bool := decOk s && decide (ls ≤ decS s) && decide (decS s ≤ ms)

theorem dec_snoc (l : List UInt8) (c : UInt8) : dec (l ++ [c]) = dec l * 10 + ((c.toNat : Int) - 48) := by simp [dec]

theorem dec_bound_from (l : List UInt8) (h : l.all digit = true) : ∀ a : Int, 0 ≤ a → 0 ≤ l.foldl (fun n c => n * 10 + ((c.toNat : Int) - 48)) a ∧ l.foldl (fun n c => n * 10 + ((c.toNat : Int) - 48)) a < (a + 1) * 10 ^ l.length := by
  induction l with
  | nil => intro a ha; simp; omega
  | cons c l ih =>
    intro a ha
    rw [List.all_cons, Bool.and_eq_true] at h
    have hc : 48 ≤ c.toNat ∧ c.toNat ≤ 57 := by simpa [digit] using h.1
    obtain ⟨h1, h2⟩ := ih h.2 (a * 10 + ((c.toNat : Int) - 48)) (by omega)
    simp only [List.foldl_cons, List.length_cons, Int.pow_succ]
    refine ⟨h1, Int.lt_of_lt_of_le h2 ?_⟩
    have hp : (0 : Int) ≤ 10 ^ l.length := Int.pow_nonneg (by decide)
    have := Int.mul_le_mul_of_nonneg_right (show a * 10 + ((c.toNat : Int) - 48) + 1 ≤ (a + 1) * 10 by omega) hp
    rw [Int.mul_comm (10 ^ l.length) 10, ← Int.mul_assoc]
    exact this

theorem dec_bound (l : List UInt8) (h : l.all digit = true) (n : Nat) (hn : l.length ≤ n) : 0 ≤ dec l ∧ dec l < 10 ^ n := by
  have := dec_bound_from l h 0 (by decide)
  refine ⟨this.1, Int.lt_of_lt_of_le this.2 ?_⟩
  simp only [Int.zero_add, Int.one_mul]
  exact_mod_cast Nat.pow_le_pow_right (by decide) hn

theorem take_snoc (s : ByteArray) (k : Nat) (h : k < s.size) : s.data.toList.take (k + 1) = s.data.toList.take k ++ [s[k]] := by
  rw [List.take_succ_eq_append_getElem (by simpa using h)]; rfl

theorem take_all (s : ByteArray) (k : Nat) (h : s.size ≤ k) : s.data.toList.take k = s.data.toList := List.take_of_length_le (by simpa using h)

theorem all_snoc (p : UInt8 → Bool) (s : ByteArray) (k : Nat) (h : k < s.size) : (s.data.toList.take (k + 1)).all p = ((s.data.toList.take k).all p && p s[k]) := by
  rw [take_snoc s k h, List.all_append]; simp

theorem all_not (p : UInt8 → Bool) (s : ByteArray) (k : Nat) (h : k < s.size) (hp : p s[k] = false) : s.data.toList.all p = false := by
  rw [← List.take_append_drop (k + 1) s.data.toList, List.all_append, all_snoc p s k h, hp]; simp

theorem isEmpty_of_size (s : ByteArray) : s.toList.isEmpty = decide (s.size = 0) := by
  rw [ByteArray.toList_eq, Bool.eq_iff_iff, List.isEmpty_iff, decide_eq_true_eq, ← List.length_eq_zero_iff, Array.length_toList]
  exact Iff.rfl

theorem empty_of_size (s : ByteArray) (h : s.size = 0) : s = ByteArray.empty := by
  apply ByteArray.ext; apply Array.eq_empty_of_size_eq_zero; exact h

theorem beq_toList (a b : ByteArray) : (a.toList == b.toList) = decide (a = b) := by
  rw [ByteArray.toList_eq, ByteArray.toList_eq, Bool.eq_iff_iff]
  simp only [beq_iff_eq, decide_eq_true_eq, Array.toList_inj]
  constructor
  · intro h; exact ByteArray.ext h
  · rintro rfl; rfl

def has (ws : List ByteArray) (v : ByteArray) : Bool := ws.any fun x => decide (x = v)

theorem has_snoc (ws : List ByteArray) (v : ByteArray) (k : Nat) (h : k < ws.length) : has (ws.take (k + 1)) v = (has (ws.take k) v || decide (ws[k] = v)) := by
  unfold has; rw [List.take_succ_eq_append_getElem h, List.any_append]; simp

theorem has_at (ws : List ByteArray) (v : ByteArray) (k : Nat) (h : k < ws.length) (e : ws[k] = v) : has ws v = true := by
  unfold has; rw [List.any_eq_true]; exact ⟨ws[k], List.getElem_mem h, by simpa using e⟩

theorem has_all (ws : List ByteArray) (v : ByteArray) (k : Nat) (h : ws.length ≤ k) : has (ws.take k) v = has ws v := by rw [List.take_of_length_le h]

theorem headD_eq (s : ByteArray) (h : 0 < s.size) : s.data.toList.headD 0 = s[0] := by
  obtain ⟨⟨l⟩⟩ := s
  cases l with
  | nil => simp [ByteArray.size] at h
  | cons a l => rfl

theorem decOk_no_len (s : ByteArray) (h : ¬ (1 ≤ s.size ∧ s.size ≤ 7)) : decOk s = false := by
  unfold decOk
  by_cases h1 : 1 ≤ s.size
  · rw [decide_eq_false (show ¬ s.size ≤ 7 by omega)]; simp
  · rw [decide_eq_false h1]; simp

theorem decOk_no_zero (s : ByteArray) (h : 1 < s.size) (hz : (s[0].toNat : Int) = 48) : decOk s = false := by
  unfold decOk
  rw [headD_eq s (by omega), decide_eq_false (show ¬ s.size ≤ 1 by omega), decide_eq_false (show ¬ s[0].toNat ≠ 48 by omega)]; simp

theorem decOk_all (s : ByteArray) (h1 : 1 ≤ s.size) (h7 : s.size ≤ 7) (hz : s.size ≤ 1 ∨ ¬ (s[0].toNat : Int) = 48) : decOk s = allDigit s := by
  unfold decOk
  rw [headD_eq s (by omega), decide_eq_true h1, decide_eq_true h7]
  rcases hz with h | h
  · rw [decide_eq_true h]; simp
  · rw [decide_eq_true (show s[0].toNat ≠ 48 by omega)]; simp

/-- Whether a value fits a field. -/
def fits (kd ls ms : Int) (ws : List ByteArray) (v : ByteArray) : Bool :=
  if v.size = 0 then false else if kd = 1 then numFits ls ms v else if kd = 2 then has ws v else if kd = 3 then textFits ls ms v else if kd = 4 then nameOk v else false

theorem fits_empty (kd ls ms : Int) (ws : List ByteArray) (v : ByteArray) (h : v.size = 0) : fits kd ls ms ws v = false := by simp [fits, h]
theorem fits_1 (ls ms : Int) (ws : List ByteArray) (v : ByteArray) (h : ¬ v.size = 0) : fits 1 ls ms ws v = numFits ls ms v := by simp [fits, h]
theorem fits_2 (ls ms : Int) (ws : List ByteArray) (v : ByteArray) (h : ¬ v.size = 0) : fits 2 ls ms ws v = has ws v := by simp [fits, h]
theorem fits_3 (ls ms : Int) (ws : List ByteArray) (v : ByteArray) (h : ¬ v.size = 0) : fits 3 ls ms ws v = textFits ls ms v := by simp [fits, h]
theorem fits_4 (ls ms : Int) (ws : List ByteArray) (v : ByteArray) (h : ¬ v.size = 0) : fits 4 ls ms ws v = nameOk v := by simp [fits, h]
theorem fits_other (kd ls ms : Int) (ws : List ByteArray) (v : ByteArray) (h1 : kd ≠ 1) (h2 : kd ≠ 2) (h3 : kd ≠ 3) (h4 : kd ≠ 4) : fits kd ls ms ws v = false := by simp [fits, h1, h2, h3, h4]

theorem decS_nonneg (s : ByteArray) (h : decOk s = true) : 0 ≤ decS s := by
  unfold decOk at h
  rw [Bool.and_eq_true] at h
  exact (dec_bound _ h.2 _ (Nat.le_refl _)).1

theorem numFits_no (ls ms : Int) (s : ByteArray) (h : decOk s = false) : numFits ls ms s = false := by simp [numFits, h]
theorem numFits_yes (ls ms : Int) (s : ByteArray) (h : decOk s = true) : numFits ls ms s = (decide (ls ≤ decS s) && decide (decS s ≤ ms)) := by simp [numFits, h]
theorem decOk_empty (s : ByteArray) (h : s.size = 0) : decOk s = false := decOk_no_len s (by omega)
theorem nameOk_empty (s : ByteArray) (h : s.size = 0) : nameOk s = false := by simp [nameOk, h]
theorem fits_num (ls ms : Int) (ws : List ByteArray) (v : ByteArray) : fits 1 ls ms ws v = numFits ls ms v := by
  by_cases h : v.size = 0
  · rw [fits_empty _ _ _ _ _ h, numFits_no _ _ _ (decOk_empty v h)]
  · exact fits_1 ls ms ws v h
theorem fits_link (ls ms : Int) (ws : List ByteArray) (v : ByteArray) : fits 4 ls ms ws v = nameOk v := by
  by_cases h : v.size = 0
  · rw [fits_empty _ _ _ _ _ h, nameOk_empty v h]
  · exact fits_4 ls ms ws v h
theorem fits_text_not (ls ms : Int) (ws : List ByteArray) (v : ByteArray) (h : allPlain v = false) : fits 3 ls ms ws v = false := by
  by_cases hz : v.size = 0
  · exact fits_empty _ _ _ _ _ hz
  · rw [fits_3 ls ms ws v hz, textFits, h]; simp
theorem fits_text_all (ls ms : Int) (ws : List ByteArray) (v : ByteArray) (h : allPlain v = true) (hz : ¬ v.size = 0) : fits 3 ls ms ws v = (decide (ls ≤ v.size) && decide ((v.size : Int) ≤ ms)) := by
  rw [fits_3 ls ms ws v hz, textFits, h]; simp

end Go.Proofs.YtoadlpdnpijnbaaDoor.Gate

namespace Go.Proofs.YtoadlpdnpijnbaaDoor.Gate

/-- Something holds of all places below n. -/
def up (P : Nat → Bool) (n : Nat) : Bool := (List.range n).all P
theorem up_zero (P : Nat → Bool) : up P 0 = true := rfl
theorem up_succ (P : Nat → Bool) (n : Nat) : up P (n + 1) = (up P n && P n) := by simp [up, List.range_succ, List.all_append]
theorem up_not {P : Nat → Bool} {k n : Nat} (h : k < n) (hk : P k = false) : up P n = false := by
  unfold up; rw [List.all_eq_false]; exact ⟨k, List.mem_range.2 h, by simp [hk]⟩
theorem up_at {P : Nat → Bool} {k n : Nat} (h : k < n) (hu : up P n = true) : P k = true := by
  unfold up at hu; rw [List.all_eq_true] at hu; exact hu k (List.mem_range.2 h)

def less (a b : ByteArray) : Bool := Op.bytesLess a.toList b.toList

def ascAt (ws : List ByteArray) (i : Nat) : Bool := nameOk (ws.getD i ByteArray.empty) && (decide (i = 0) || less (ws.getD (i - 1) ByteArray.empty) (ws.getD i ByteArray.empty))
def asc (ws : List ByteArray) : Bool := up (ascAt ws) ws.length

theorem getD_at {α : Type} (l : List α) (i : Nat) (d : α) (h : i < l.length) : l.getD i d = l[i] := by
  rw [List.getD_eq_getElem?_getD, List.getElem?_eq_getElem h]; rfl

theorem ascAt_name {ws : List ByteArray} {k : Nat} (h : k < ws.length) (hn : nameOk ws[k] = false) : ascAt ws k = false := by
  unfold ascAt; rw [getD_at ws k _ h, hn]; rfl
theorem ascAt_first {ws : List ByteArray} (h : 0 < ws.length) (hn : nameOk ws[0] = true) : ascAt ws 0 = true := by
  unfold ascAt; rw [getD_at ws 0 _ h, hn]; rfl
theorem ascAt_more {ws : List ByteArray} {k : Nat} (h : k + 1 < ws.length) (hn : nameOk ws[k + 1] = true) : ascAt ws (k + 1) = less ws[k] ws[k + 1] := by
  unfold ascAt; rw [getD_at ws (k + 1) _ h, Nat.add_sub_cancel, getD_at ws k _ (by omega), hn]; simp

/-- A field has nothing that its kind does not use. -/
def bareOf (kd ls ms : Int) (n : Nat) (to : ByteArray) (rl : Int) (wg : ByteArray) : Bool :=
  if kd = 1 then decide (n = 0) && to.toList.isEmpty && decide (rl = 0)
  else if kd = 2 then decide (ls = 0) && decide (ms = 0) && to.toList.isEmpty && decide (rl = 0) && wg.toList.isEmpty
  else if kd = 3 then decide (n = 0) && to.toList.isEmpty && decide (rl = 0) && wg.toList.isEmpty
  else if kd = 4 then decide (ls = 0) && decide (ms = 0) && decide (n = 0) && wg.toList.isEmpty
  else false

def rangeOk (ls ms lo hi : Int) : Bool := decide (lo ≤ ls) && decide (ls ≤ ms) && decide (ms ≤ hi)
def hasKind (ss : List Shp) (k : ByteArray) : Bool := ss.any fun s => decide (s.kd = k)

/-- What a field's kind uses is as it must be. -/
def soundOf (ss : List Shp) (f : Fld) : Bool :=
  if f.kd = 1 then rangeOk f.ls f.ms 0 1000000 && (f.wg.toList.isEmpty || nameOk f.wg)
  else if f.kd = 2 then decide (1 ≤ f.ws.length) && decide (f.ws.length ≤ 6) && asc f.ws
  else if f.kd = 3 then rangeOk f.ls f.ms 1 40
  else if f.kd = 4 then hasKind ss f.to && (decide (1 ≤ f.rl) && decide (f.rl ≤ 3)) && f.df.toList.isEmpty && (decide (f.rl ≠ 2) || !f.mu)
  else false

def bare (f : Fld) : Bool := bareOf f.kd f.ls f.ms f.ws.length f.to f.rl f.wg
def fitsF (f : Fld) (v : ByteArray) : Bool := fits f.kd f.ls f.ms f.ws v
def dfOk (f : Fld) : Bool := f.df.toList.isEmpty || fitsF f f.df
def fieldOk (ss : List Shp) (f : Fld) : Bool := bare f && soundOf ss f && dfOk f

def noShape : Shp := ⟨ByteArray.empty, []⟩
/-- The first shape of a kind. -/
def shapeOf (ss : List Shp) (k : ByteArray) : Shp := (ss.find? fun s => decide (s.kd = k)).getD noShape

theorem hasKind_snoc (ss : List Shp) (v : ByteArray) (k : Nat) (h : k < ss.length) : hasKind (ss.take (k + 1)) v = (hasKind (ss.take k) v || decide (ss[k].kd = v)) := by
  unfold hasKind; rw [List.take_succ_eq_append_getElem h, List.any_append]; simp
theorem hasKind_at (ss : List Shp) (v : ByteArray) (k : Nat) (h : k < ss.length) (e : ss[k].kd = v) : hasKind ss v = true := by
  unfold hasKind; rw [List.any_eq_true]; exact ⟨ss[k], List.getElem_mem h, by simpa using e⟩
theorem hasKind_all (ss : List Shp) (v : ByteArray) (k : Nat) (h : ss.length ≤ k) : hasKind (ss.take k) v = hasKind ss v := by rw [List.take_of_length_le h]
theorem shapeOf_at (ss : List Shp) (v : ByteArray) (k : Nat) (h : k < ss.length) (hb : hasKind (ss.take k) v = false) (e : ss[k].kd = v) : shapeOf ss v = ss[k] := by
  unfold shapeOf
  have hn : (ss.take k).find? (fun s => decide (s.kd = v)) = none := by
    rw [List.find?_eq_none]; intro x hx; unfold hasKind at hb; rw [List.any_eq_false] at hb; exact hb x hx
  conv => lhs; rw [← List.take_append_drop k ss]
  rw [List.find?_append, hn, List.drop_eq_getElem_cons h, List.find?_cons_of_pos (by simpa using e)]; rfl
theorem shapeOf_none (ss : List Shp) (v : ByteArray) (hb : hasKind ss v = false) : shapeOf ss v = noShape := by
  unfold shapeOf
  have hn : ss.find? (fun s => decide (s.kd = v)) = none := by
    rw [List.find?_eq_none]; intro x hx; unfold hasKind at hb; rw [List.any_eq_false] at hb; exact hb x hx
  rw [hn]; rfl

def hasName (fs : List Fld) (v : ByteArray) : Bool := fs.any fun f => decide (f.nm = v)
/-- The place of the first field of a name, -1 if there is none. -/
def fieldIx (fs : List Fld) (v : ByteArray) : Int := match fs.findIdx? (fun f => decide (f.nm = v)) with | some i => i | none => -1

theorem hasName_snoc (fs : List Fld) (v : ByteArray) (k : Nat) (h : k < fs.length) : hasName (fs.take (k + 1)) v = (hasName (fs.take k) v || decide (fs[k].nm = v)) := by
  unfold hasName; rw [List.take_succ_eq_append_getElem h, List.any_append]; simp
theorem hasName_all (fs : List Fld) (v : ByteArray) (k : Nat) (h : fs.length ≤ k) : hasName (fs.take k) v = hasName fs v := by rw [List.take_of_length_le h]
theorem fieldIx_at (fs : List Fld) (v : ByteArray) (k : Nat) (h : k < fs.length) (hb : hasName (fs.take k) v = false) (e : fs[k].nm = v) : fieldIx fs v = k := by
  unfold fieldIx
  have hf : fs.findIdx? (fun f => decide (f.nm = v)) = some k := by
    rw [List.findIdx?_eq_some_iff_getElem]
    refine ⟨h, by simpa using e, fun j hj => ?_⟩
    unfold hasName at hb
    rw [List.any_eq_false] at hb
    have hm : fs[j] ∈ fs.take k := by
      rw [List.mem_iff_getElem]
      exact ⟨j, by simp; omega, by simp⟩
    exact hb _ hm
  rw [hf]
theorem fieldIx_none (fs : List Fld) (v : ByteArray) (hb : hasName fs v = false) : fieldIx fs v = -1 := by
  unfold fieldIx
  have hf : fs.findIdx? (fun f => decide (f.nm = v)) = none := by
    rw [List.findIdx?_eq_none_iff]
    intro x hx
    unfold hasName at hb
    rw [List.any_eq_false] at hb
    simpa using hb x hx
  rw [hf]
theorem hasName_first (fs : List Fld) (v : ByteArray) (k : Nat) (h : k < fs.length) (hh : hasName (fs.take k) v = true) : ∃ j, j < k ∧ fieldIx fs v = j := by
  unfold hasName at hh
  rw [List.any_eq_true] at hh
  obtain ⟨x, hx, he⟩ := hh
  obtain ⟨j, hj, rfl⟩ := List.mem_iff_getElem.1 hx
  have hjk : j < k := by simp at hj; omega
  have hjl : j < fs.length := by omega
  have hv : fs[j].nm = v := by simpa using he
  cases hf : fs.findIdx? (fun f => decide (f.nm = v)) with
  | none =>
    rw [List.findIdx?_eq_none_iff] at hf
    have := hf fs[j] (List.getElem_mem hjl)
    simp [hv] at this
  | some i =>
    refine ⟨i, ?_, by unfold fieldIx; rw [hf]⟩
    rw [List.findIdx?_eq_some_iff_getElem] at hf
    obtain ⟨hi, _, hmin⟩ := hf
    rcases Nat.lt_or_ge i k with h1 | h1
    · exact h1
    · exfalso
      have := hmin j (by omega)
      simp [hv] at this

def noField : Fld := ⟨ByteArray.empty, 0, 0, 0, [], ByteArray.empty, 0, false, false, ByteArray.empty, ByteArray.empty⟩
/-- The field at a place is ok: its name, new among the fields ahead of it, and what it says. -/
def okAt (ss : List Shp) (fs : List Fld) (i : Nat) : Bool :=
  nameOk (fs.getD i noField).nm && !hasName (fs.take i) (fs.getD i noField).nm && fieldOk ss (fs.getD i noField)
def fieldsOk (ss : List Shp) (fs : List Fld) : Bool := decide (fs.length ≤ 6) && up (okAt ss fs) fs.length

theorem okAt_eq (ss : List Shp) (fs : List Fld) (i : Nat) (h : i < fs.length) : okAt ss fs i = (nameOk fs[i].nm && !hasName (fs.take i) fs[i].nm && fieldOk ss fs[i]) := by
  unfold okAt; rw [getD_at fs i _ h]

/-- The shape at a place is ok. -/
def shapeAt (ss : List Shp) (i : Nat) : Bool :=
  nameOk (ss.getD i noShape).kd && (decide (i = 0) || less (ss.getD (i - 1) noShape).kd (ss.getD i noShape).kd) && fieldsOk ss (ss.getD i noShape).fs
def shapesOk (ss : List Shp) : Bool := decide (ss.length ≤ 6) && up (shapeAt ss) ss.length

theorem shapeAt_first (ss : List Shp) (h : 0 < ss.length) : shapeAt ss 0 = (nameOk ss[0].kd && fieldsOk ss ss[0].fs) := by
  unfold shapeAt; rw [getD_at ss 0 _ h]; simp
theorem shapeAt_more (ss : List Shp) (k : Nat) (h : k + 1 < ss.length) : shapeAt ss (k + 1) = (nameOk ss[k + 1].kd && less ss[k].kd ss[k + 1].kd && fieldsOk ss ss[k + 1].fs) := by
  unfold shapeAt; rw [getD_at ss (k + 1) _ h, Nat.add_sub_cancel, getD_at ss k _ (by omega)]; simp

theorem bytesLess_irrefl : ∀ x : List UInt8, Op.bytesLess x x = false
  | [] => rfl
  | a :: x => by
    simp only [Op.bytesLess, Bool.or_eq_false_iff, decide_eq_false_iff_not, Bool.and_eq_false_iff]
    exact ⟨fun h => by simp at h, Or.inr (bytesLess_irrefl x)⟩

theorem bytesLess_trans : ∀ x y z : List UInt8, Op.bytesLess x y = true → Op.bytesLess y z = true → Op.bytesLess x z = true
  | _, [], _, h, _ => by simp [Op.bytesLess] at h
  | [], _ :: _, [], _, h => by simp [Op.bytesLess] at h
  | [], _ :: _, _ :: _, _, _ => rfl
  | _ :: _, _ :: _, [], _, h => by simp [Op.bytesLess] at h
  | a :: x, b :: y, c :: z, h, k => by
    simp only [Op.bytesLess, Bool.or_eq_true, decide_eq_true_eq, Bool.and_eq_true, beq_iff_eq] at h k ⊢
    rcases h with h | ⟨rfl, h⟩
    · rcases k with k | ⟨rfl, k⟩
      · exact Or.inl (UInt8.lt_trans h k)
      · exact Or.inl h
    · rcases k with k | ⟨rfl, k⟩
      · exact Or.inl k
      · exact Or.inr ⟨rfl, bytesLess_trans x y z h k⟩

end Go.Proofs.YtoadlpdnpijnbaaDoor.Gate

namespace Go.Proofs.YtoadlpdnpijnbaaDoor

/-- A team: its name, the one over it. -/
structure Tm where
  nm : ByteArray
  ov : ByteArray

namespace Gate

def noTeam : Tm := ⟨ByteArray.empty, ByteArray.empty⟩
def hasTeam (ts : List Tm) (v : ByteArray) : Bool := ts.any fun t => decide (t.nm = v)
/-- What stands over the first team of a name. -/
def over (ts : List Tm) (v : ByteArray) : ByteArray := ((ts.find? fun t => decide (t.nm = v)).getD noTeam).ov

theorem hasTeam_snoc (ts : List Tm) (v : ByteArray) (k : Nat) (h : k < ts.length) : hasTeam (ts.take (k + 1)) v = (hasTeam (ts.take k) v || decide (ts[k].nm = v)) := by
  unfold hasTeam; rw [List.take_succ_eq_append_getElem h, List.any_append]; simp
theorem hasTeam_at (ts : List Tm) (v : ByteArray) (k : Nat) (h : k < ts.length) (e : ts[k].nm = v) : hasTeam ts v = true := by
  unfold hasTeam; rw [List.any_eq_true]; exact ⟨ts[k], List.getElem_mem h, by simpa using e⟩
theorem hasTeam_all (ts : List Tm) (v : ByteArray) (k : Nat) (h : ts.length ≤ k) : hasTeam (ts.take k) v = hasTeam ts v := by rw [List.take_of_length_le h]
theorem over_at (ts : List Tm) (v : ByteArray) (k : Nat) (h : k < ts.length) (hb : hasTeam (ts.take k) v = false) (e : ts[k].nm = v) : over ts v = ts[k].ov := by
  unfold over
  have hn : (ts.take k).find? (fun s => decide (s.nm = v)) = none := by
    rw [List.find?_eq_none]; intro x hx; unfold hasTeam at hb; rw [List.any_eq_false] at hb; exact hb x hx
  have hf : ts.find? (fun s => decide (s.nm = v)) = some ts[k] := by
    conv => lhs; rw [← List.take_append_drop k ts]
    rw [List.find?_append, hn, List.drop_eq_getElem_cons h, List.find?_cons_of_pos (by simpa using e)]; rfl
  rw [hf]; rfl
theorem over_none (ts : List Tm) (v : ByteArray) (hb : hasTeam ts v = false) : over ts v = ByteArray.empty := by
  unfold over
  have hn : ts.find? (fun s => decide (s.nm = v)) = none := by
    rw [List.find?_eq_none]; intro x hx; unfold hasTeam at hb; rw [List.any_eq_false] at hb; exact hb x hx
  rw [hn]; rfl

/-- A stands under b, in at most n steps. -/
def under (ts : List Tm) : Nat → ByteArray → ByteArray → Bool
  | 0, a, b => decide (a = b)
  | n + 1, a, b => decide (a = b) || (decide (¬ (over ts a).size = 0) && under ts n (over ts a) b)

theorem under_same (ts : List Tm) (n : Nat) (a b : ByteArray) (h : a = b) : under ts n a b = true := by
  cases n <;> simp [under, h]
theorem under_end (ts : List Tm) {a b : ByteArray} (h : ¬ a = b) : under ts 0 a b = false := by simp [under, h]
theorem under_stop (ts : List Tm) (n : Nat) {a b : ByteArray} (h : ¬ a = b) (h0 : (over ts a).size = 0) : under ts (n + 1) a b = false := by simp [under, h, h0]
theorem under_on (ts : List Tm) (n : Nat) {a b : ByteArray} (h : ¬ a = b) (h0 : ¬ (over ts a).size = 0) : under ts (n + 1) a b = under ts n (over ts a) b := by simp [under, h, h0]

/-- A team by itself and beside the others. -/
def teamAt (ts : List Tm) (i : Nat) : Bool :=
  nameOk (ts.getD i noTeam).nm && (decide (i = 0) || less (ts.getD (i - 1) noTeam).nm (ts.getD i noTeam).nm) && ((ts.getD i noTeam).ov.toList.isEmpty || hasTeam ts (ts.getD i noTeam).ov)

def climb (ts : List Tm) : Nat → ByteArray → ByteArray
  | 0, a => a
  | n + 1, a => climb ts n (over ts a)
/-- The same, that stands still at the empty name. -/
def climbS (ts : List Tm) : Nat → ByteArray → ByteArray
  | 0, a => a
  | n + 1, a => if a.size = 0 then a else climbS ts n (over ts a)

def deepOk (ts : List Tm) (t : Tm) : Bool := decide ((climb ts 4 t.ov).size = 0)
def deepAt (ts : List Tm) (i : Nat) : Bool := deepOk ts (ts.getD i noTeam)
def deepS (ts : List Tm) (i : Nat) : Bool := decide ((climbS ts 5 (ts.getD i noTeam).nm).size = 0)
def teamsOk (ts : List Tm) : Bool := decide (ts.length ≤ 12) && (up (teamAt ts) ts.length && up (deepAt ts) ts.length)
def teamAtS (ts : List Tm) (i : Nat) : Bool := teamAt ts i && deepS ts i
def teamsOkS (ts : List Tm) : Bool := decide (ts.length ≤ 12) && up (teamAtS ts) ts.length

theorem up_eq_true {P : Nat → Bool} {n : Nat} : up P n = true ↔ ∀ i, i < n → P i = true := by
  unfold up; rw [List.all_eq_true]; simp

theorem team_name {ts : List Tm} {i : Nat} (hi : i < ts.length) (h : teamAt ts i = true) : nameOk ts[i].nm = true := by
  unfold teamAt at h; rw [getD_at ts i _ hi] at h; simp only [Bool.and_eq_true] at h; exact h.1.1
theorem team_less {ts : List Tm} {i : Nat} (hi : i + 1 < ts.length) (h : teamAt ts (i + 1) = true) : less ts[i].nm ts[i + 1].nm = true := by
  unfold teamAt at h; rw [getD_at ts (i + 1) _ hi, Nat.add_sub_cancel, getD_at ts i _ (by omega)] at h; simp only [Bool.and_eq_true] at h
  simpa using h.1.2

theorem teams_less {ts : List Tm} (h : up (teamAt ts) ts.length = true) : ∀ (j : Nat) (hj : j < ts.length) (i : Nat) (hi : i < j), less (ts[i]'(by omega)).nm ts[j].nm = true := by
  intro j
  induction j with
  | zero => intro _ i hi; omega
  | succ j ih =>
    intro hj i hi
    have h2 := team_less hj (up_at hj h)
    rcases Nat.lt_or_ge i j with hlt | hge
    · exact bytesLess_trans _ _ _ (ih (by omega) i hlt) h2
    · have e : i = j := by omega
      subst e; exact h2

theorem over_self {ts : List Tm} (h : up (teamAt ts) ts.length = true) (i : Nat) (hi : i < ts.length) : over ts ts[i].nm = ts[i].ov := by
  refine over_at ts _ i hi ?_ rfl
  unfold hasTeam
  rw [List.any_eq_false]
  intro x hx
  obtain ⟨k, hk, rfl⟩ := List.mem_iff_getElem.1 hx
  have hk' : k < i := by simp at hk; omega
  have h1 := teams_less h i hi k hk'
  simp only [List.getElem_take, decide_eq_true_eq]
  intro e
  unfold less at h1
  rw [e, bytesLess_irrefl] at h1
  cases h1

theorem over_empty {ts : List Tm} (h : up (teamAt ts) ts.length = true) : over ts ByteArray.empty = ByteArray.empty := by
  apply over_none
  unfold hasTeam
  rw [List.any_eq_false]
  intro x hx
  obtain ⟨k, hk, rfl⟩ := List.mem_iff_getElem.1 hx
  have h1 := team_name hk (up_at hk h)
  simp only [decide_eq_true_eq]
  intro e
  rw [e, nameOk_empty _ rfl] at h1
  cases h1

theorem climb_empty {ts : List Tm} (h : over ts ByteArray.empty = ByteArray.empty) : ∀ n, climb ts n ByteArray.empty = ByteArray.empty
  | 0 => rfl
  | n + 1 => by unfold climb; rw [h]; exact climb_empty h n

theorem climb_same {ts : List Tm} (h : over ts ByteArray.empty = ByteArray.empty) : ∀ n a, climbS ts n a = climb ts n a
  | 0, _ => rfl
  | n + 1, a => by
    unfold climbS
    by_cases h0 : a.size = 0
    · rw [if_pos h0, empty_of_size a h0, climb_empty h]
    · rw [if_neg h0, climb_same h n]; rfl

theorem deep_same {ts : List Tm} (h : up (teamAt ts) ts.length = true) (i : Nat) (hi : i < ts.length) : deepS ts i = deepAt ts i := by
  unfold deepS deepAt deepOk
  rw [getD_at ts i _ hi, climb_same (over_empty h), show climb ts 5 ts[i].nm = climb ts 4 (over ts ts[i].nm) from rfl, over_self h i hi]

theorem teamsOk_same (ts : List Tm) : teamsOk ts = teamsOkS ts := by
  unfold teamsOk teamsOkS
  congr 1
  rw [Bool.eq_iff_iff, Bool.and_eq_true]
  constructor
  · rintro ⟨h1, h2⟩
    rw [up_eq_true]
    intro i hi
    unfold teamAtS
    rw [up_at hi h1, deep_same h1 i hi, up_at hi h2]; rfl
  · intro h
    rw [up_eq_true] at h
    have h1 : up (teamAt ts) ts.length = true := by
      rw [up_eq_true]; intro i hi; have := h i hi; unfold teamAtS at this; rw [Bool.and_eq_true] at this; exact this.1
    refine ⟨h1, ?_⟩
    rw [up_eq_true]; intro i hi; have := h i hi; unfold teamAtS at this; rw [Bool.and_eq_true, deep_same h1 i hi] at this; exact this.2

/-- Among teams that are ok nothing stands under a name but the empty one. -/
theorem under_empty {ts : List Tm} (h : up (teamAt ts) ts.length = true) (n : Nat) (b : ByteArray) (hb : ¬ b.size = 0) : under ts n ByteArray.empty b = false := by
  have hne : ¬ ByteArray.empty = b := by rintro rfl; exact hb rfl
  cases n with
  | zero => exact under_end ts hne
  | succ n => exact under_stop ts n hne (by rw [over_empty h]; rfl)

end Gate
end Go.Proofs.YtoadlpdnpijnbaaDoor

namespace Go.Proofs.YtoadlpdnpijnbaaDoor

/-- A rule, and an act. -/
structure Rl where
  vs : List Int
  kd : ByteArray
  tm : ByteArray
  px : ByteArray
structure Ac where
  vb : Int
  kd : ByteArray
  tm : ByteArray
  nm : ByteArray

namespace Gate

def verbOk (v : Int) : Bool := decide (1 ≤ v) && decide (v ≤ 5)
def verbAt (vs : List Int) (i : Nat) : Bool := verbOk (vs.getD i 0) && (decide (i = 0) || decide (vs.getD (i - 1) 0 < vs.getD i 0))
def verbsOk (vs : List Int) : Bool := decide (0 < vs.length) && up (verbAt vs) vs.length
def kindsOk (r : Rl) : Bool := (r.kd.toList.isEmpty || nameOk r.kd) && (r.tm.toList.isEmpty || nameOk r.tm)
def ruleOk (r : Rl) : Bool := kindsOk r && (verbsOk r.vs && (decide (r.px.size ≤ 16) && allName r.px))
def rulesOk (rs : List Rl) : Bool := rs.all ruleOk

def begins (s p : ByteArray) : Bool := decide (p.size ≤ s.size) && ((s.extract 0 p.size).toList == p.toList)
/-- What a rule is held to besides its verbs. -/
def meets (ts : List Tm) (r : Rl) (kd tm nm : ByteArray) : Bool := (r.kd.toList.isEmpty || decide (r.kd = kd)) && ((r.tm.toList.isEmpty || under ts 4 tm r.tm) && begins nm r.px)
def hasVerb (vs : List Int) (v : Int) : Bool := vs.any fun x => decide (x = v)
def allowsOf (ts : List Tm) (r : Rl) (a : Ac) : Bool := hasVerb r.vs a.vb && meets ts r a.kd a.tm a.nm
def allows (ts : List Tm) (r : Rl) (a : Ac) : Bool := teamsOk ts && (ruleOk r && allowsOf ts r a)

theorem hasVerb_snoc (vs : List Int) (v : Int) (k : Nat) (h : k < vs.length) : hasVerb (vs.take (k + 1)) v = (hasVerb (vs.take k) v || decide (vs[k] = v)) := by
  unfold hasVerb; rw [List.take_succ_eq_append_getElem h, List.any_append]; simp
theorem hasVerb_at (vs : List Int) (v : Int) (k : Nat) (h : k < vs.length) (e : vs[k] = v) : hasVerb vs v = true := by
  unfold hasVerb; rw [List.any_eq_true]; exact ⟨vs[k], List.getElem_mem h, by simpa using e⟩
theorem hasVerb_all (vs : List Int) (v : Int) (k : Nat) (h : vs.length ≤ k) : hasVerb (vs.take k) v = hasVerb vs v := by rw [List.take_of_length_le h]

theorem verbsOk_at {vs : List Int} (h : verbsOk vs = true) (i : Nat) (hi : i < vs.length) : 1 ≤ vs[i] ∧ vs[i] ≤ 5 := by
  unfold verbsOk at h
  rw [Bool.and_eq_true] at h
  have h1 := up_at hi h.2
  unfold verbAt at h1
  rw [getD_at vs i _ hi, Bool.and_eq_true] at h1
  have h2 := h1.1
  simpa [verbOk] using h2

theorem hasVerb_given {vs : List Int} (h : verbsOk vs = true) (v : Int) (hv : hasVerb vs v = true) : 1 ≤ v ∧ v ≤ 5 := by
  unfold hasVerb at hv
  rw [List.any_eq_true] at hv
  obtain ⟨x, hx, he⟩ := hv
  obtain ⟨i, hi, rfl⟩ := List.mem_iff_getElem.1 hx
  have := verbsOk_at h i hi
  have e : vs[i] = v := by simpa using he
  rw [e] at this; exact this

/-- A set of verbs, a bit each. -/
def bits5 (a b c d e : Bool) : Int := (cond a 2 0) + (cond b 4 0) + (cond c 8 0) + (cond d 16 0) + (cond e 32 0)
def bitsOf (f : Int → Bool) : Int := bits5 (f 1) (f 2) (f 3) (f 4) (f 5)
def orI (x y : Int) : Int := bits BinOp.or IntKind.u8 x y
def andI (x y : Int) : Int := bits BinOp.and IntKind.u8 x y
def clrI (x y : Int) : Int := bits BinOp.andNot IntKind.u8 x y
def oneAt (v : Int) : Int := 2 ^ v.toNat % 256

theorem five (P : Int → Prop) (h1 : P 1) (h2 : P 2) (h3 : P 3) (h4 : P 4) (h5 : P 5) (v : Int) (hv : 1 ≤ v ∧ v ≤ 5) : P v := by
  have hc : v = 1 ∨ v = 2 ∨ v = 3 ∨ v = 4 ∨ v = 5 := by omega
  rcases hc with rfl | rfl | rfl | rfl | rfl <;> assumption

theorem bits_congr {f g : Int → Bool} (h : ∀ v, 1 ≤ v ∧ v ≤ 5 → f v = g v) : bitsOf f = bitsOf g := by
  unfold bitsOf; rw [h 1 (by omega), h 2 (by omega), h 3 (by omega), h 4 (by omega), h 5 (by omega)]

theorem or_all : ∀ a b c d e : Bool, orI (bits5 a b c d e) (oneAt 1) = bits5 (a || true) (b || false) (c || false) (d || false) (e || false) ∧ orI (bits5 a b c d e) (oneAt 2) = bits5 (a || false) (b || true) (c || false) (d || false) (e || false) ∧
    orI (bits5 a b c d e) (oneAt 3) = bits5 (a || false) (b || false) (c || true) (d || false) (e || false) ∧ orI (bits5 a b c d e) (oneAt 4) = bits5 (a || false) (b || false) (c || false) (d || true) (e || false) ∧ orI (bits5 a b c d e) (oneAt 5) = bits5 (a || false) (b || false) (c || false) (d || false) (e || true) := by decide +kernel
theorem and_all : ∀ a b c d e : Bool, (andI (bits5 a b c d e) (oneAt 1) != 0) = a ∧ (andI (bits5 a b c d e) (oneAt 2) != 0) = b ∧ (andI (bits5 a b c d e) (oneAt 3) != 0) = c ∧ (andI (bits5 a b c d e) (oneAt 4) != 0) = d ∧ (andI (bits5 a b c d e) (oneAt 5) != 0) = e := by decide +kernel
theorem clr_all : ∀ a b c d e a' b' c' d' e' : Bool, clrI (bits5 a b c d e) (bits5 a' b' c' d' e') = bits5 (a && !a') (b && !b') (c && !c') (d && !d') (e && !e') := by decide +kernel
theorem zero_all : ∀ a b c d e : Bool, (bits5 a b c d e == 0) = !(a || b || c || d || e) := by decide +kernel
theorem range_all : ∀ a b c d e : Bool, 0 ≤ bits5 a b c d e ∧ bits5 a b c d e ≤ 62 := by decide +kernel

theorem bits_or (f : Int → Bool) (v : Int) (hv : 1 ≤ v ∧ v ≤ 5) : orI (bitsOf f) (oneAt v) = bitsOf (fun u => f u || decide (v = u)) := by
  obtain ⟨h1, h2, h3, h4, h5⟩ := or_all (f 1) (f 2) (f 3) (f 4) (f 5)
  exact five (fun v => orI (bitsOf f) (oneAt v) = bitsOf (fun u => f u || decide (v = u))) h1 h2 h3 h4 h5 v hv
theorem bits_and (f : Int → Bool) (v : Int) (hv : 1 ≤ v ∧ v ≤ 5) : (andI (bitsOf f) (oneAt v) != 0) = f v := by
  obtain ⟨h1, h2, h3, h4, h5⟩ := and_all (f 1) (f 2) (f 3) (f 4) (f 5)
  exact five (fun v => (andI (bitsOf f) (oneAt v) != 0) = f v) h1 h2 h3 h4 h5 v hv
theorem bits_clr (f g : Int → Bool) : clrI (bitsOf f) (bitsOf g) = bitsOf (fun v => f v && !g v) := clr_all _ _ _ _ _ _ _ _ _ _
theorem bits_zero (f : Int → Bool) : (bitsOf f == 0) = !(f 1 || f 2 || f 3 || f 4 || f 5) := zero_all _ _ _ _ _
theorem bits_range (f : Int → Bool) : 0 ≤ bitsOf f ∧ bitsOf f ≤ 62 := range_all _ _ _ _ _
theorem bits_none : bitsOf (fun _ => false) = 0 := rfl

end Gate
end Go.Proofs.YtoadlpdnpijnbaaDoor

namespace Go.Proofs.YtoadlpdnpijnbaaDoor
namespace Gate

/-- A rule covers a verb of another one. -/
def covs (ts : List Tm) (r q : Rl) (v : Int) : Bool := hasVerb q.vs v && meets ts q r.kd r.tm r.px
def lacksAt (ts : List Tm) (rs : List Rl) (r : Rl) (v : Int) : Bool := hasVerb r.vs v && !(rs.any fun q => covs ts r q v)
def leftBits (ts : List Tm) (rs : List Rl) (r : Rl) : Int := bitsOf (lacksAt ts rs r)
def allOk (ts : List Tm) (rs : List Rl) (r : Rl) : Bool := teamsOk ts && (ruleOk r && rulesOk rs)
def covers (ts : List Tm) (rs : List Rl) (r : Rl) : Bool := allOk ts rs r && (leftBits ts rs r == 0)

/-- The same as the specification says it: the empty team apart. -/
def meetsS (ts : List Tm) (r q : Rl) : Bool := (q.kd.toList.isEmpty || decide (q.kd = r.kd)) && ((q.tm.toList.isEmpty || (!r.tm.toList.isEmpty && under ts 4 r.tm q.tm)) && begins r.px q.px)
def covsS (ts : List Tm) (r q : Rl) (v : Int) : Bool := hasVerb q.vs v && meetsS ts r q
def lacksS (ts : List Tm) (rs : List Rl) (r : Rl) : Int := (r.vs.find? fun v => !(rs.any fun q => covsS ts r q v)).getD 0
def coversS (ts : List Tm) (rs : List Rl) (r : Rl) : Bool := allOk ts rs r && (lacksS ts rs r == 0)

theorem left_zero (ts : List Tm) (r : Rl) : leftBits ts [] r = bitsOf (hasVerb r.vs) := by
  unfold leftBits; apply bits_congr; intro v _; simp [lacksAt]

theorem left_snoc (ts : List Tm) (rs : List Rl) (r : Rl) (k : Nat) (h : k < rs.length) :
    leftBits ts (rs.take (k + 1)) r = clrI (leftBits ts (rs.take k) r) (bitsOf fun v => meets ts rs[k] r.kd r.tm r.px && hasVerb rs[k].vs v) := by
  unfold leftBits
  rw [bits_clr]
  apply bits_congr
  intro v _
  unfold lacksAt
  rw [List.take_succ_eq_append_getElem h, List.any_append]
  simp only [List.any_cons, List.any_nil, Bool.or_false, covs]
  cases hasVerb r.vs v <;> cases (List.take k rs).any (fun q => hasVerb q.vs v && meets ts q r.kd r.tm r.px) <;> cases meets ts rs[k] r.kd r.tm r.px <;> cases hasVerb rs[k].vs v <;> rfl

theorem meets_same {ts : List Tm} (hok : teamsOk ts = true) (r q : Rl) : meetsS ts r q = meets ts q r.kd r.tm r.px := by
  have hup : up (teamAt ts) ts.length = true := by
    unfold teamsOk at hok; simp only [Bool.and_eq_true] at hok; exact hok.2.1
  unfold meetsS meets
  congr 2
  cases hq : q.tm.toList.isEmpty
  · cases hr : r.tm.toList.isEmpty
    · rfl
    · have h0 : r.tm = ByteArray.empty := empty_of_size _ (by rw [isEmpty_of_size] at hr; simpa using hr)
      rw [h0, under_empty hup 4 q.tm (by rw [isEmpty_of_size] at hq; simpa using hq)]
      rfl
  · rfl

theorem covs_same {ts : List Tm} (hok : teamsOk ts = true) (r q : Rl) (v : Int) : covsS ts r q v = covs ts r q v := by
  unfold covsS covs; rw [meets_same hok]

theorem lacks_find {ts : List Tm} (hok : teamsOk ts = true) (rs : List Rl) (r : Rl) : lacksS ts rs r = (r.vs.find? fun v => !(rs.any fun q => covs ts r q v)).getD 0 := by
  unfold lacksS
  have : (fun v => !(rs.any fun q => covsS ts r q v)) = fun v => !(rs.any fun q => covs ts r q v) := by
    funext v; congr 2; funext q; exact covs_same hok r q v
  rw [this]

theorem left_zero_iff {ts : List Tm} (rs : List Rl) {r : Rl} (hv : verbsOk r.vs = true) : (leftBits ts rs r == 0) = true ↔ ∀ v ∈ r.vs, (rs.any fun q => covs ts r q v) = true := by
  unfold leftBits
  rw [bits_zero]
  constructor
  · intro h v hm
    simp only [Bool.not_eq_true', Bool.or_eq_false_iff] at h
    have h5 : 1 ≤ v ∧ v ≤ 5 := by
      obtain ⟨i, hi, rfl⟩ := List.mem_iff_getElem.1 hm
      exact verbsOk_at hv i hi
    have hl : lacksAt ts rs r v = false := by
      obtain ⟨⟨⟨⟨h1, h2⟩, h3⟩, h4⟩, h6⟩ := h
      exact five (fun v => lacksAt ts rs r v = false) h1 h2 h3 h4 h6 v h5
    unfold lacksAt at hl
    have hh : hasVerb r.vs v = true := by unfold hasVerb; rw [List.any_eq_true]; exact ⟨v, hm, by simp⟩
    rw [hh] at hl
    simpa using hl
  · intro h
    have hl : ∀ v, lacksAt ts rs r v = false := by
      intro v
      unfold lacksAt
      cases hh : hasVerb r.vs v
      · rfl
      · unfold hasVerb at hh
        rw [List.any_eq_true] at hh
        obtain ⟨x, hx, he⟩ := hh
        have e : x = v := by simpa using he
        subst e
        rw [h x hx]; rfl
    simp [hl]

theorem lacks_zero_iff {ts : List Tm} (hok : teamsOk ts = true) (rs : List Rl) {r : Rl} (hv : verbsOk r.vs = true) : (lacksS ts rs r == 0) = true ↔ ∀ v ∈ r.vs, (rs.any fun q => covs ts r q v) = true := by
  rw [lacks_find hok]
  constructor
  · intro h v hm
    cases hf : r.vs.find? (fun v => !(rs.any fun q => covs ts r q v)) with
    | none =>
      rw [List.find?_eq_none] at hf
      simpa using hf v hm
    | some x =>
      rw [hf] at h
      have hx := List.mem_of_find?_eq_some hf
      obtain ⟨i, hi, rfl⟩ := List.mem_iff_getElem.1 hx
      have h5 := verbsOk_at hv i hi
      simp at h
      omega
  · intro h
    have hf : r.vs.find? (fun v => !(rs.any fun q => covs ts r q v)) = none := by
      rw [List.find?_eq_none]; intro v hm; rw [h v hm]; simp
    rw [hf]; rfl

theorem covers_same (ts : List Tm) (rs : List Rl) (r : Rl) : covers ts rs r = coversS ts rs r := by
  unfold covers coversS
  cases ha : allOk ts rs r
  · rfl
  · unfold allOk at ha
    simp only [Bool.and_eq_true] at ha
    have hv : verbsOk r.vs = true := by
      have := ha.2.1; unfold ruleOk at this; simp only [Bool.and_eq_true] at this; exact this.2.1
    simp only [Bool.true_and]
    rw [Bool.eq_iff_iff, left_zero_iff rs hv, lacks_zero_iff ha.1 rs hv]

theorem all_take_snoc {α : Type} (p : α → Bool) (l : List α) (k : Nat) (h : k < l.length) : (l.take (k + 1)).all p = ((l.take k).all p && p l[k]) := by
  rw [List.take_succ_eq_append_getElem h, List.all_append]; simp
theorem all_at_no {α : Type} (p : α → Bool) (l : List α) (k : Nat) (h : k < l.length) (hp : p l[k] = false) : l.all p = false := by
  rw [List.all_eq_false]; exact ⟨l[k], List.getElem_mem h, by simp [hp]⟩
theorem not_any_not {α : Type} (p : α → Bool) (l : List α) : (!(l.any fun x => !p x)) = l.all p := by
  rw [Bool.eq_iff_iff]; simp

end Gate
end Go.Proofs.YtoadlpdnpijnbaaDoor
