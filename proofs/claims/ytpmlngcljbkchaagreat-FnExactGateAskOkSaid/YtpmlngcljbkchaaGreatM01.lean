import Derived.WalkKit
import Derived.Laws.NewBlocks
import Derived.Laws.MakeOwn
import Derived.Laws.OwnMore
import Derived.Deep.Draws
import Derived.Deep.OwnRows
import Derived.MapKept
import Derived.Deep.RegionHeld3
namespace Go.Proofs.YtpmlngcljbkchaaGreat.Gate

/-- A byte of a name. -/
def nameByte (c : UInt8) : Bool := decide (97 ≤ c.toNat ∧ c.toNat ≤ 122) || decide (48 ≤ c.toNat ∧ c.toNat ≤ 57) || decide (c.toNat = 45)
def digit (c : UInt8) : Bool := decide (48 ≤ c.toNat ∧ c.toNat ≤ 57)
def plainByte (c : UInt8) : Bool := decide (33 ≤ c.toNat ∧ c.toNat ≤ 126)

def allName (s : ByteArray) : Bool := s.data.toList.all nameByte
def allPlain (s : ByteArray) : Bool := s.data.toList.all plainByte
def allDigit (s : ByteArray) : Bool := s.data.toList.all digit
def nameOk (s : ByteArray) : Bool := decide (1 ≤ s.size) && decide (s.size ≤ 16) && allName s

/-- The number of digits, read from the left. -/
def dec (l : List UInt8) : Int := l.foldl (fun n c => n * 10 + ((c.toNat : Int) - 48)) 0

def decOk (s : ByteArray) : Bool := decide (1 ≤ s.size) && decide (s.size ≤ 7) && (decide (s.size ≤ 1) || decide ((s.data.toList.headD 0).toNat ≠ 48)) && allDigit s

def textFits (ls ms : Int) (s : ByteArray) : Bool := decide (ls ≤ s.size) && decide ((s.size : Int) ≤ ms) && allPlain s
def decS (s : ByteArray) : Int := dec s.data.toList
def numFits (ls ms : Int) (s : ByteArray) : Bool := decOk s && decide (ls ≤ decS s) && decide (decS s ≤ ms)

theorem dec_snoc (l : List UInt8) (c : UInt8) : dec (l ++ [c]) = dec l * 10 + ((c.toNat : Int) - 48) := by simp [dec]

theorem dec_bound_from (l : List UInt8) (h : l.all digit = true) : ∀ a : Int, 0 ≤ a → 0 ≤ l.foldl (fun n c => n * 10 + ((c.toNat : Int) - 48)) a ∧ l.foldl (fun n c => n * 10 + ((c.toNat : Int) - 48)) a < (a + 1) * 10 ^ l.length := by
  induction l with
  | nil => intro a ha; simp; omega
  | cons c l ih =>
    intro a ha
    rw [List.all_cons, Bool.and_eq_true] at h
    have hc : 48 ≤ c.toNat ∧ c.toNat ≤ 57 := by simpa [digit] using h.1
    obtain ⟨h1, h2⟩ := ih h.2 (a * 10 + ((c.toNat : Int) - 48)) (by omega)
    simp only [List.foldl_cons, List.length_cons, Int.pow_succ]
    refine ⟨h1, Int.lt_of_lt_of_le h2 ?_⟩
    have hp : (0 : Int) ≤ 10 ^ l.length := Int.pow_nonneg (by decide)
    have := Int.mul_le_mul_of_nonneg_right (show a * 10 + ((c.toNat : Int) - 48) + 1 ≤ (a + 1) * 10 by omega) hp
    rw [Int.mul_comm (10 ^ l.length) 10, ← Int.mul_assoc]
    exact this

theorem dec_bound (l : List UInt8) (h : l.all digit = true) (n : Nat) (hn : l.length ≤ n) : 0 ≤ dec l ∧ dec l < 10 ^ n := by
  have := dec_bound_from l h 0 (by decide)
  refine ⟨this.1, Int.lt_of_lt_of_le this.2 ?_⟩
  simp only [Int.zero_add, Int.one_mul]
  exact_mod_cast Nat.pow_le_pow_right (by decide) hn

theorem take_snoc (s : ByteArray) (k : Nat) (h : k < s.size) : s.data.toList.take (k + 1) = s.data.toList.take k ++ [s[k]] := by
  rw [List.take_succ_eq_append_getElem (by simpa using h)]; rfl

theorem take_all (s : ByteArray) (k : Nat) (h : s.size ≤ k) : s.data.toList.take k = s.data.toList := List.take_of_length_le (by simpa using h)

theorem all_snoc (p : UInt8 → Bool) (s : ByteArray) (k : Nat) (h : k < s.size) : (s.data.toList.take (k + 1)).all p = ((s.data.toList.take k).all p && p s[k]) := by
  rw [take_snoc s k h, List.all_append]; simp

theorem all_not (p : UInt8 → Bool) (s : ByteArray) (k : Nat) (h : k < s.size) (hp : p s[k] = false) : s.data.toList.all p = false := by
  rw [← List.take_append_drop (k + 1) s.data.toList, List.all_append, all_snoc p s k h, hp]; simp

theorem isEmpty_of_size (s : ByteArray) : s.toList.isEmpty = decide (s.size = 0) := by
  rw [ByteArray.toList_eq, Bool.eq_iff_iff, List.isEmpty_iff, decide_eq_true_eq, ← List.length_eq_zero_iff, Array.length_toList]
  exact Iff.rfl

theorem empty_of_size (s : ByteArray) (h : s.size = 0) : s = ByteArray.empty := by
  apply ByteArray.ext; apply Array.eq_empty_of_size_eq_zero; exact h

theorem beq_toList (a b : ByteArray) : (a.toList == b.toList) = decide (a = b) := by
  rw [ByteArray.toList_eq, ByteArray.toList_eq, Bool.eq_iff_iff]
  simp only [beq_iff_eq, decide_eq_true_eq, Array.toList_inj]
  constructor
  · intro h; exact ByteArray.ext h
  · rintro rfl; rfl

def has (ws : List ByteArray) (v : ByteArray) : Bool := ws.any fun x => decide (x = v)

theorem has_snoc (ws : List ByteArray) (v : ByteArray) (k : Nat) (h : k < ws.length) : has (ws.take (k + 1)) v = (has (ws.take k) v || decide (ws[k] = v)) := by
  unfold has; rw [List.take_succ_eq_append_getElem h, List.any_append]; simp

theorem has_at (ws : List ByteArray) (v : ByteArray) (k : Nat) (h : k < ws.length) (e : ws[k] = v) : has ws v = true := by
  unfold has; rw [List.any_eq_true]; exact ⟨ws[k], List.getElem_mem h, by simpa using e⟩

theorem has_all (ws : List ByteArray) (v : ByteArray) (k : Nat) (h : ws.length ≤ k) : has (ws.take k) v = has ws v := by rw [List.take_of_length_le h]

theorem headD_eq (s : ByteArray) (h : 0 < s.size) : s.data.toList.headD 0 = s[0] := by
  obtain ⟨⟨l⟩⟩ := s
  cases l with
  | nil => simp [ByteArray.size] at h
  | cons a l => rfl

theorem decOk_no_len (s : ByteArray) (h : ¬ (1 ≤ s.size ∧ s.size ≤ 7)) : decOk s = false := by
  unfold decOk
  by_cases h1 : 1 ≤ s.size
  · rw [decide_eq_false (show ¬ s.size ≤ 7 by omega)]; simp
  · rw [decide_eq_false h1]; simp

theorem decOk_no_zero (s : ByteArray) (h : 1 < s.size) (hz : (s[0].toNat : Int) = 48) : decOk s = false := by
  unfold decOk
  rw [headD_eq s (by omega), decide_eq_false (show ¬ s.size ≤ 1 by omega), decide_eq_false (show ¬ s[0].toNat ≠ 48 by omega)]; simp

theorem decOk_all (s : ByteArray) (h1 : 1 ≤ s.size) (h7 : s.size ≤ 7) (hz : s.size ≤ 1 ∨ ¬ (s[0].toNat : Int) = 48) : decOk s = allDigit s := by
  unfold decOk
  rw [headD_eq s (by omega), decide_eq_true h1, decide_eq_true h7]
  rcases hz with h | h
  · rw [decide_eq_true h]; simp
  · rw [decide_eq_true (show s[0].toNat ≠ 48 by omega)]; simp

/-- Whether a value fits a field. -/
def fits (kd ls ms : Int) (ws : List ByteArray) (v : ByteArray) : Bool :=
  if v.size = 0 then false else if kd = 1 then numFits ls ms v else if kd = 2 then has ws v else if kd = 3 then textFits ls ms v else if kd = 4 then nameOk v else false

theorem fits_empty (kd ls ms : Int) (ws : List ByteArray) (v : ByteArray) (h : v.size = 0) : fits kd ls ms ws v = false := by simp [fits, h]
theorem fits_1 (ls ms : Int) (ws : List ByteArray) (v : ByteArray) (h : ¬ v.size = 0) : fits 1 ls ms ws v = numFits ls ms v := by simp [fits, h]
theorem fits_2 (ls ms : Int) (ws : List ByteArray) (v : ByteArray) (h : ¬ v.size = 0) : fits 2 ls ms ws v = has ws v := by simp [fits, h]
theorem fits_3 (ls ms : Int) (ws : List ByteArray) (v : ByteArray) (h : ¬ v.size = 0) : fits 3 ls ms ws v = textFits ls ms v := by simp [fits, h]
theorem fits_4 (ls ms : Int) (ws : List ByteArray) (v : ByteArray) (h : ¬ v.size = 0) : fits 4 ls ms ws v = nameOk v := by simp [fits, h]
theorem fits_other (kd ls ms : Int) (ws : List ByteArray) (v : ByteArray) (h1 : kd ≠ 1) (h2 : kd ≠ 2) (h3 : kd ≠ 3) (h4 : kd ≠ 4) : fits kd ls ms ws v = false := by simp [fits, h1, h2, h3, h4]

theorem decS_nonneg (s : ByteArray) (h : decOk s = true) : 0 ≤ decS s := by
  unfold decOk at h
  rw [Bool.and_eq_true] at h
  exact (dec_bound _ h.2 _ (Nat.le_refl _)).1

theorem numFits_no (ls ms : Int) (s : ByteArray) (h : decOk s = false) : numFits ls ms s = false := by simp [numFits, h]
theorem numFits_yes (ls ms : Int) (s : ByteArray) (h : decOk s = true) : numFits ls ms s = (decide (ls ≤ decS s) && decide (decS s ≤ ms)) := by simp [numFits, h]
theorem decOk_empty (s : ByteArray) (h : s.size = 0) : decOk s = false := decOk_no_len s (by omega)
theorem nameOk_empty (s : ByteArray) (h : s.size = 0) : nameOk s = false := by simp [nameOk, h]
theorem fits_num (ls ms : Int) (ws : List ByteArray) (v : ByteArray) : fits 1 ls ms ws v = numFits ls ms v := by
  by_cases h : v.size = 0
  · rw [fits_empty _ _ _ _ _ h, numFits_no _ _ _ (decOk_empty v h)]
  · exact fits_1 ls ms ws v h
theorem fits_link (ls ms : Int) (ws : List ByteArray) (v : ByteArray) : fits 4 ls ms ws v = nameOk v := by
  by_cases h : v.size = 0
  · rw [fits_empty _ _ _ _ _ h, nameOk_empty v h]
  · exact fits_4 ls ms ws v h
theorem fits_text_not (ls ms : Int) (ws : List ByteArray) (v : ByteArray) (h : allPlain v = false) : fits 3 ls ms ws v = false := by
  by_cases hz : v.size = 0
  · exact fits_empty _ _ _ _ _ hz
  · rw [fits_3 ls ms ws v hz, textFits, h]; simp
theorem fits_text_all (ls ms : Int) (ws : List ByteArray) (v : ByteArray) (h : allPlain v = true) (hz : ¬ v.size = 0) : fits 3 ls ms ws v = (decide (ls ≤ v.size) && decide ((v.size : Int) ≤ ms)) := by
  rw [fits_3 ls ms ws v hz, textFits, h]; simp

end Go.Proofs.YtpmlngcljbkchaaGreat.Gate

namespace Go.Proofs.YtpmlngcljbkchaaGreat
open Go.RowKit

theorem ret_bool {a b : Bool} (h : a = b) : Ending.returned (.bool a) = .returned (.bool b) := by rw [h]
theorem ret_int {k : IntKind} {a b : Int} (h : a = b) : Ending.returned (.int k a) = .returned (.int k b) := by rw [h]

def szRes (t : Nat) (left : Int) : Int := if (t : Int) ≤ left then left - t else -1

theorem szRes_yes {t : Nat} {left : Int} (h : (t : Int) ≤ left) : szRes t left = left - t := by simp [szRes, h]
theorem szRes_no {t : Nat} {left : Int} (h : ¬ (t : Int) ≤ left) : szRes t left = -1 := by simp [szRes, h]

theorem sum_snoc {α : Type} (g : α → Nat) (l : List α) (k : Nat) (h : k < l.length) : ((l.take (k + 1)).map g).sum = ((l.take k).map g).sum + g l[k] := by
  rw [List.take_succ_eq_append_getElem h, List.map_append, List.sum_append]; simp
theorem sum_le {α : Type} (g : α → Nat) (l : List α) (k : Nat) : ((l.take k).map g).sum ≤ (l.map g).sum := by
  conv => rhs; rw [← List.take_append_drop k l]
  rw [List.map_append, List.sum_append]; omega
theorem sum_mem {α : Type} (g : α → Nat) (l : List α) (k : Nat) (h : k < l.length) : g l[k] ≤ (l.map g).sum := by
  have h1 := sum_snoc g l k h
  have h2 := sum_le g l (k + 1)
  omega

theorem run_make_rows {P : Program} (t e : TypeId) (z : Value) (size bytes : Nat) (ht : P.underlying t = some (.slice e)) (hinfo : (P.info? e).map (fun i => (i.zero, i.size, i.bytes)) = some (some z, size, bytes))
    (n : Nat) (hbytes : bytes * n ≤ 281474976710656) (h63 : n ≤ 9223372036854775807) (w : World) :
    (Instr.makeSlice t (.int .i64 (n : Int)) (.int .i64 (n : Int))).run P w = .ok (.slice (some ⟨w.heap.size, 0, none⟩) n n) (w.alloc (.cells (madeCells z.cells (n * size)) e)) := by
  obtain ⟨i, hi, hzz⟩ := Option.map_eq_some_iff.1 hinfo
  simp only [Prod.mk.injEq] at hzz
  obtain ⟨hz, hs, hb⟩ := hzz
  have hb' : (i.bytes : Int) * (n : Int) ≤ 281474976710656 := by
    have h : ((i.bytes * n : Nat) : Int) ≤ 281474976710656 := by rw [hb]; omega
    rwa [Int.natCast_mul] at h
  have hr := run_make (P := P) w t e i z ht hi hz .i64 .i64 n n (by omega) (Int.le_refl _) hb' (by omega)
  simp only [Int.toNat_natCast, hs] at hr
  exact hr

end Go.Proofs.YtpmlngcljbkchaaGreat

namespace Go.Proofs.YtpmlngcljbkchaaGreat
open Go.RowKit

/-- A slice of strings that lies in memory: its address, its strings. -/
structure StrsAt (w : World) (a : Option Addr) (ws : List ByteArray) : Prop where
  len : ws.length ≤ maxLen
  small : ∀ s ∈ ws, s.size ≤ maxLen
  cells : ws ≠ [] → ∃ b off, a = some ⟨b, off, none⟩ ∧ b < w.heap.size ∧ ∀ i (h : i < ws.length), w.cell? ⟨b, off + i, none⟩ = some (.string ws[i])

theorem StrsAt.mono {w w' : World} {a : Option Addr} {ws : List ByteArray} (h : StrsAt w a ws) (hb : Below w.heap.size w w') : StrsAt w' a ws :=
  ⟨h.len, h.small, fun hne => by
    obtain ⟨b, off, ha, hbs, hc⟩ := h.cells hne
    exact ⟨b, off, ha, Nat.lt_of_lt_of_le hbs hb.size, fun i hi => (hb.cell (p := ⟨b, off + i, none⟩) hbs).trans (hc i hi)⟩⟩

theorem bcell {W w1 : World} (hb : Below W.heap.size W w1) : (∀ b o, b < W.heap.size → w1.cell? ⟨b, o, none⟩ = W.cell? ⟨b, o, none⟩) ∧ (∀ b o, b < W.heap.size → w1.frozen? ⟨b, o, none⟩ = W.frozen? ⟨b, o, none⟩) :=
  ⟨fun b o h => hb.cell (p := ⟨b, o, none⟩) h, fun b o h => hb.frozen (p := ⟨b, o, none⟩) h⟩

/-- The cells of a row of strings. -/
def strArr (ws : List ByteArray) : Array Value := (ws.map Value.string).toArray
/-- The same, filled up to k. -/
def strCells (ws : List ByteArray) (k : Nat) : Array Value := ((ws.take k).map Value.string ++ List.replicate (ws.length - k) (Value.string ByteArray.empty)).toArray

theorem strCells_at (ws : List ByteArray) (k : Nat) (h : k < ws.length) : (strCells ws k)[k]? = some (.string ByteArray.empty) := by
  unfold strCells
  have hl : ((ws.take k).map Value.string).length = k := by simp; omega
  rw [List.getElem?_toArray, List.getElem?_append_right (by omega), hl, Nat.sub_self]
  obtain ⟨m, hm⟩ : ∃ m, ws.length - k = m + 1 := ⟨ws.length - k - 1, by omega⟩
  rw [hm, List.replicate_succ]; rfl

theorem strCells_set (ws : List ByteArray) (k : Nat) (h : k < ws.length) : (strCells ws k).setIfInBounds k (.string ws[k]) = strCells ws (k + 1) := by
  unfold strCells
  rw [List.setIfInBounds_toArray, List.set_append_right _ _ (by simp; omega)]
  congr 1
  rw [List.take_succ_eq_append_getElem h, List.map_append, List.append_assoc]
  congr 1
  obtain ⟨m, hm⟩ : ∃ m, ws.length - k = m + 1 := ⟨ws.length - k - 1, by omega⟩
  rw [hm, show ws.length - (k + 1) = m by omega]
  have : k - ((ws.take k).map Value.string).length = 0 := by simp; omega
  rw [this, List.replicate_succ]
  rfl

theorem strCells_all (ws : List ByteArray) (k : Nat) (h : ws.length ≤ k) : strCells ws k = strArr ws := by
  unfold strCells strArr
  rw [List.take_of_length_le h, show ws.length - k = 0 by omega]; simp

theorem strCells_zero (ws : List ByteArray) : madeCells #[Value.string ByteArray.empty] ws.length = strCells ws 0 := by
  apply Array.toList_inj.1
  rw [toList_madeCells_one]
  simp [strCells]

theorem strArr_at (w : World) (ws : List ByteArray) (t : TypeId) (h : ws.length ≤ maxLen) (hs : ∀ s ∈ ws, s.size ≤ maxLen) : StrsAt (w.alloc (.cells (strArr ws) t)) (some ⟨w.heap.size, 0, none⟩) ws :=
  ⟨h, hs, fun _ => ⟨w.heap.size, 0, rfl, by simp, fun i hi => by
    rw [World.cell?_alloc_at (hn := rfl)]
    simp [strArr, hi]⟩⟩

theorem heap_strs {w : World} {bk : Nat} {ws : List ByteArray} {t : TypeId} (h : w.heap[bk]? = some (.cells (strArr ws) t)) (hl : ws.length ≤ maxLen) (hs : ∀ s ∈ ws, s.size ≤ maxLen) : StrsAt w (some ⟨bk, 0, none⟩) ws :=
  ⟨hl, hs, fun _ => ⟨bk, 0, rfl, (Array.getElem?_eq_some_iff.1 h).1, fun i hi => by
    simp [World.cell?, h, strArr, hi]⟩⟩

theorem box_later {wk wl : World} {b : Nat} {X : Array Value} (h : ∀ o, wk.cell? ⟨b, o, none⟩ = X[o]?) (hb : b < wk.heap.size) (hl : Below wk.heap.size wk wl) : ∀ o, wl.cell? ⟨b, o, none⟩ = X[o]? :=
  fun o => (hl.cell (p := ⟨b, o, none⟩) hb).trans (h o)

theorem box_new (w : World) (X : Array Value) (t : TypeId) : ∀ o, (w.alloc (.cells X t)).cell? ⟨w.heap.size, o, none⟩ = X[o]? := fun _ => World.cell?_alloc_at _ _ _ _ rfl

theorem below_drewN {B : Nat} {a w : World} (h : Below B a w) (n : Nat) : Below B a (w.drewN n) := h.trans ⟨rfl, rfl, rfl, Nat.le_refl _, fun _ _ => rfl⟩
theorem below2' (w : World) (o o' : Obj) : Below w.heap.size w ((w.alloc o).alloc o') := ((Below.refl _ _).alloc (Nat.le_refl _) _).alloc (by simp) _
theorem as_bool {P : Program} {f : FuncId} {args : Array Value} {w : World} {b c : Bool} {R : World → Prop} (hb : b = c) (h : Calls P f args w fun e w' => e = .returned (.bool b) ∧ R w') : Calls P f args w fun e w' => e = .returned (.bool c) ∧ R w' := by
  subst hb; exact h

end Go.Proofs.YtpmlngcljbkchaaGreat

namespace Go.Proofs.YtpmlngcljbkchaaGreat
open Go.RowKit

/-- The operation at a place of a written-out row: it unfolds to the operation itself. -/
def nth : List Oper → Nat → Option Oper
  | [], _ => none
  | o :: _, 0 => some o
  | _ :: l, n + 1 => nth l n
theorem nth_eq : ∀ (l : List Oper) (i : Nat), nth l i = l[i]?
  | [], _ => by simp [nth]
  | _ :: _, 0 => by simp [nth]
  | _ :: l, n + 1 => by simp [nth, nth_eq l n]

section
variable {P : Program} {ops : Array Oper} {Q : Exit → Act → World → Prop} {md : Region.Mode} {S : World → Prop}

theorem nth_at {i : Nat} {oi : Oper} (hi : nth ops.toList i = some oi) : ops[i]? = some oi := by
  rw [nth_eq] at hi; simpa using hi

/-- An operation that is wanted, and yields in every world that meets S. -/
theorem takeH {i : Nat} {oi : Oper} {v : Value} {fuel : Nat} {listed : Array Bool} {a : Act} {w : World} (hi : nth ops.toList i = some oi)
    (hs : Region.noSelect ops = true) (hf : Region.free md ops listed i = true) (hr : (Region.ready md ops listed).contains i = true)
    (hQ : ∀ c a w, Q (.panic c) (a.put oi.dst v) w → Q (.panic c) a w) (hw : Region.wanted oi (yielded ops a.tmps) = true) (hS : S w)
    (hy : ∀ w, S w → (execOp a.eval oi).run P w = .ok (.value v) w)
    (h : wpAnyH P md ops Q S fuel (listed.setIfInBounds i true) (a.put oi.dst v) w) : wpAnyH P md ops Q S (fuel + 1) listed a w :=
  wpAnyH_take (nth_at hi) hs hf hr hQ (Or.inl ⟨hw, hy⟩) hS h

/-- An operation whose guard is false. -/
theorem skipH {i : Nat} {oi : Oper} {fuel : Nat} {listed : Array Bool} {a : Act} {w : World} (hi : nth ops.toList i = some oi)
    (hs : Region.noSelect ops = true) (hf : Region.free md ops listed i = true) (hr : (Region.ready md ops listed).contains i = true)
    (hQ : ∀ c a w, Q (.panic c) (a.put oi.dst undef) w → Q (.panic c) a w) (hw : Region.wanted oi (yielded ops a.tmps) = false) (hS : S w)
    (h : wpAnyH P md ops Q S fuel (listed.setIfInBounds i true) (a.put oi.dst undef) w) : wpAnyH P md ops Q S (fuel + 1) listed a w :=
  wpAnyH_take (nth_at hi) hs hf hr hQ (Or.inr ⟨hw, rfl⟩) hS h

/-- The one operation that may come up, carried out. -/
theorem stepH {i : Nat} {oi : Oper} {fuel : Nat} {listed : Array Bool} {a : Act} {w : World} (hi : nth ops.toList i = some oi)
    (hr : Region.ready md ops listed = [i]) (hw : Region.wanted oi (yielded ops a.tmps) = true)
    (h : ∀ K : Act → World → Prop, Shut (∀ a w, S w → (S w → wpAnyH P md ops Q S fuel (listed.setIfInBounds i true) a w) → K a w) → Oper.wp P oi a w K Q) : wpAnyH P md ops Q S (fuel + 1) listed a w :=
  wpAnyH_ready hr (by simp) (AllReadyH.cons (nth_at hi) (fun K hK => by rw [if_pos hw]; exact h K hK) AllReadyH.nil)
end

end Go.Proofs.YtpmlngcljbkchaaGreat

namespace Go.Proofs.YtpmlngcljbkchaaGreat
open Go.RowKit

theorem alloc_set (w : World) (o o' : Obj) : { (w.alloc o) with heap := (w.alloc o).heap.setIfInBounds w.heap.size o' } = w.alloc o' := by
  show ({ w with heap := (w.heap.push o).setIfInBounds w.heap.size o' } : World) = { w with heap := w.heap.push o' }
  congr 1
  apply Array.ext_getElem?
  intro i
  simp only [Array.getElem?_setIfInBounds, Array.getElem?_push, Array.size_push]
  by_cases h : w.heap.size = i
  · subst h; simp
  · rw [if_neg h, if_neg (fun e => h e.symm), if_neg (fun e => h e.symm)]

theorem alloc_at (w : World) (o : Obj) : (w.alloc o).heap[w.heap.size]? = some o := by
  show (w.heap.push o)[w.heap.size]? = some o
  simp

/-- A new key into a map that is the last block. -/
theorem run_update_last {P : Program} {mty kt et : TypeId} {d : TypeDesc} (hm : P.underlying mty = some (.map kt et)) (hd : P.underlying kt = some d) (key val : Value) (hk : MapKept.IsKey d key)
    (es : Array MapEntry) (clock : Nat) (hf : Instr.findNow d key es.toList 0 = some none) (w : World) :
    (Instr.mapUpdate mty (.map (some w.heap.size)) key val).run P (w.alloc (.map es clock)) = .ok () (w.alloc (.map (es.push ⟨key, val, clock⟩) (clock + 1))) := by
  have hb := alloc_at w (.map es clock)
  have hc := MapKept.run_checkKey (P := P) (w := w.alloc (.map es clock)) hd hk false 9999
  simp [Instr.mapUpdate, run_underlying hm, MapKept.run_getObj_map hb, hc, MapKept.run_findKey hd hf, MapKept.run_setObj_map _ hb, Result.andThen, ← alloc_set w (.map es clock) (.map (es.push ⟨key, val, clock⟩) (clock + 1))]

theorem run_lookup_hit {P : Program} {mty kt et : TypeId} {d : TypeDesc} (hm : P.underlying mty = some (.map kt et)) (hd : P.underlying kt = some d) (key val : Value) (hk : MapKept.IsKey d key)
    (es : Array MapEntry) (clock i : Nat) (hf : Instr.findNow d key es.toList 0 = some (some (i, val))) (w : World) (r : Nat) (hb : w.heap[r]? = some (.map es clock)) :
    (Instr.lookup mty (.map (some r)) key true).run P w = .ok (.tuple #[val, .bool true]) w := by
  have hc := MapKept.run_checkKey (P := P) (w := w) hd hk es.isEmpty 9999
  simp [Instr.lookup, run_underlying hm, MapKept.run_getObj_map hb, hc, MapKept.run_findKey hd hf, Result.andThen]

theorem run_lookup_miss {P : Program} {mty kt et : TypeId} {d : TypeDesc} (hm : P.underlying mty = some (.map kt et)) (hd : P.underlying kt = some d) (key z : Value) (hk : MapKept.IsKey d key)
    (es : Array MapEntry) (clock : Nat) (hf : Instr.findNow d key es.toList 0 = some none) (w : World) (hz : (zeroValue et).run P w = .ok z w) (r : Nat) (hb : w.heap[r]? = some (.map es clock)) :
    (Instr.lookup mty (.map (some r)) key true).run P w = .ok (.tuple #[z, .bool false]) w := by
  have hc := MapKept.run_checkKey (P := P) (w := w) hd hk es.isEmpty 9999
  simp [Instr.lookup, run_underlying hm, MapKept.run_getObj_map hb, hc, MapKept.run_findKey hd hf, hz, Result.andThen]

end Go.Proofs.YtpmlngcljbkchaaGreat
