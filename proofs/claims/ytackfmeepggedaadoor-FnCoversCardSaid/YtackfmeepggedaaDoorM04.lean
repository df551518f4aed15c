import Derived.Test.YtackfmeepggedaaDoorM02
import Derived.Test.YtackfmeepggedaaDoorM03
namespace Go.Proofs.YtackfmeepggedaaDoor.Gate

/-- Something holds of all places below n. -/
def up (P : Nat → Bool) (n : Nat) : Bool := (List.range n).all P
theorem up_zero (P : Nat → Bool) : up P 0 = true := rfl
theorem up_succ (P : Nat → Bool) (n : Nat) : up P (n + 1) = (up P n && P n) := by simp [up, List.range_succ, List.all_append]
theorem up_not {P : Nat → Bool} {k n : Nat} (h : k < n) (hk : P k = false) : up P n = false := by
  unfold up; rw [List.all_eq_false]; exact ⟨k, List.mem_range.2 h, by simp [hk]⟩
theorem up_at {P : Nat → Bool} {k n : Nat} (h : k < n) (hu : up P n = true) : P k = true := by
  unfold up at hu; rw [List.all_eq_true] at hu; exact hu k (List.mem_range.2 h)

def less (a b : ByteArray) : Bool := Op.bytesLess a.toList b.toList

def ascAt (ws : List ByteArray) (i : Nat) : Bool := nameOk (ws.getD i ByteArray.empty) && (decide (i = 0) || less (ws.getD (i - 1) ByteArray.empty) (ws.getD i ByteArray.empty))
def asc (ws : List ByteArray) : Bool := up (ascAt ws) ws.length

theorem getD_at {α : Type} (l : List α) (i : Nat) (d : α) (h : i < l.length) : l.getD i d = l[i] := by
  rw [List.getD_eq_getElem?_getD, List.getElem?_eq_getElem h]; rfl

theorem ascAt_name {ws : List ByteArray} {k : Nat} (h : k < ws.length) (hn : nameOk ws[k] = false) : ascAt ws k = false := by
  unfold ascAt; rw [getD_at ws k _ h, hn]; rfl
theorem ascAt_first {ws : List ByteArray} (h : 0 < ws.length) (hn : nameOk ws[0] = true) : ascAt ws 0 = true := by
  unfold ascAt; rw [getD_at ws 0 _ h, hn]; rfl
theorem ascAt_more {ws : List ByteArray} {k : Nat} (h : k + 1 < ws.length) (hn : nameOk ws[k + 1] = true) : ascAt ws (k + 1) = less ws[k] ws[k + 1] := by
  unfold ascAt; rw [getD_at ws (k + 1) _ h, Nat.add_sub_cancel, getD_at ws k _ (by omega), hn]; simp

/-- A field has nothing that its kind does not use. -/
def bareOf (kd ls ms : Int) (n : Nat) (to : ByteArray) (rl : Int) (wg : ByteArray) : Bool :=
  if kd = 1 then decide (n = 0) && to.toList.isEmpty && decide (rl = 0)
  else if kd = 2 then decide (ls = 0) && decide (ms = 0) && to.toList.isEmpty && decide (rl = 0) && wg.toList.isEmpty
  else if kd = 3 then decide (n = 0) && to.toList.isEmpty && decide (rl = 0) && wg.toList.isEmpty
  else if kd = 4 then decide (ls = 0) && decide (ms = 0) && decide (n = 0) && wg.toList.isEmpty
  else false

def rangeOk (ls ms lo hi : Int) : Bool := decide (lo ≤ ls) && decide (ls ≤ ms) && decide (ms ≤ hi)
def hasKind (ss : List Shp) (k : ByteArray) : Bool := ss.any fun s => decide (s.kd = k)

/-- What a field's kind uses is as it must be. -/
def soundOf (ss : List Shp) (f : Fld) : Bool :=
  if f.kd = 1 then rangeOk f.ls f.ms 0 1000000 && (f.wg.toList.isEmpty || nameOk f.wg)
  else if f.kd = 2 then decide (1 ≤ f.ws.length) && decide (f.ws.length ≤ 6) && asc f.ws
  else if f.kd = 3 then rangeOk f.ls f.ms 1 40
  else if f.kd = 4 then hasKind ss f.to && (decide (1 ≤ f.rl) && decide (f.rl ≤ 3)) && f.df.toList.isEmpty && (decide (f.rl ≠ 2) || !f.mu)
  else false

def bare (f : Fld) : Bool := bareOf f.kd f.ls f.ms f.ws.length f.to f.rl f.wg
def fitsF (f : Fld) (v : ByteArray) : Bool := fits f.kd f.ls f.ms f.ws v
def dfOk (f : Fld) : Bool := f.df.toList.isEmpty || fitsF f f.df
def fieldOk (ss : List Shp) (f : Fld) : Bool := bare f && soundOf ss f && dfOk f

def noShape : Shp := ⟨ByteArray.empty, []⟩
/-- The first shape of a kind. -/
def shapeOf (ss : List Shp) (k : ByteArray) : Shp := (ss.find? fun s => decide (s.kd = k)).getD noShape

theorem hasKind_snoc (ss : List Shp) (v : ByteArray) (k : Nat) (h : k < ss.length) : hasKind (ss.take (k + 1)) v = (hasKind (ss.take k) v || decide (ss[k].kd = v)) := by
  unfold hasKind; rw [List.take_succ_eq_append_getElem h, List.any_append]; simp
theorem hasKind_at (ss : List Shp) (v : ByteArray) (k : Nat) (h : k < ss.length) (e : ss[k].kd = v) : hasKind ss v = true := by
  unfold hasKind; rw [List.any_eq_true]; exact ⟨ss[k], List.getElem_mem h, by simpa using e⟩
theorem hasKind_all (ss : List Shp) (v : ByteArray) (k : Nat) (h : ss.length ≤ k) : hasKind (ss.take k) v = hasKind ss v := by rw [List.take_of_length_le h]
theorem shapeOf_at (ss : List Shp) (v : ByteArray) (k : Nat) (h : k < ss.length) (hb : hasKind (ss.take k) v = false) (e : ss[k].kd = v) : shapeOf ss v = ss[k] := by
  unfold shapeOf
  have hn : (ss.take k).find? (fun s => decide (s.kd = v)) = none := by
    rw [List.find?_eq_none]; intro x hx; unfold hasKind at hb; rw [List.any_eq_false] at hb; exact hb x hx
  conv => lhs; rw [← List.take_append_drop k ss]
  rw [List.find?_append, hn, List.drop_eq_getElem_cons h, List.find?_cons_of_pos (by simpa using e)]; rfl
theorem shapeOf_none (ss : List Shp) (v : ByteArray) (hb : hasKind ss v = false) : shapeOf ss v = noShape := by
  unfold shapeOf
  have hn : ss.find? (fun s => decide (s.kd = v)) = none := by
    rw [List.find?_eq_none]; intro x hx; unfold hasKind at hb; rw [List.any_eq_false] at hb; exact hb x hx
  rw [hn]; rfl

def hasName (fs : List Fld) (v : ByteArray) : Bool := fs.any fun f => decide (f.nm = v)
/-- The place of the first field of a name, -1 if there is none. -/
def fieldIx (fs : List Fld) (v : ByteArray) : Int := match fs.findIdx? (fun f => decide (f.nm = v)) with | some i => i | none => -1

theorem hasName_snoc (fs : List Fld) (v : ByteArray) (k : Nat) (h : k < fs.length) : hasName (fs.take (k + 1)) v = (hasName (fs.take k) v || decide (fs[k].nm = v)) := by
  unfold hasName; rw [List.take_succ_eq_append_getElem h, List.any_append]; simp
theorem hasName_all (fs : List Fld) (v : ByteArray) (k : Nat) (h : fs.length ≤ k) : hasName (fs.take k) v = hasName fs v := by rw [List.take_of_length_le h]
theorem fieldIx_at (fs : List Fld) (v : ByteArray) (k : Nat) (h : k < fs.length) (hb : hasName (fs.take k) v = false) (e : fs[k].nm = v) : fieldIx fs v = k := by
  unfold fieldIx
  have hf : fs.findIdx? (fun f => decide (f.nm = v)) = some k := by
    rw [List.findIdx?_eq_some_iff_getElem]
    refine ⟨h, by simpa using e, fun j hj => ?_⟩
    unfold hasName at hb
    rw [List.any_eq_false] at hb
    have hm : fs[j] ∈ fs.take k := by
      rw [List.mem_iff_getElem]
      exact ⟨j, by simp; omega, by simp⟩
    exact hb _ hm
  rw [hf]
theorem fieldIx_none (fs : List Fld) (v : ByteArray) (hb : hasName fs v = false) : fieldIx fs v = -1 := by
  unfold fieldIx
  have hf : fs.findIdx? (fun f => decide (f.nm = v)) = none := by
    rw [List.findIdx?_eq_none_iff]
    intro x hx
    unfold hasName at hb
    rw [List.any_eq_false] at hb
    simpa using hb x hx
  rw [hf]
theorem hasName_first (fs : List Fld) (v : ByteArray) (k : Nat) (h : k < fs.length) (hh : hasName (fs.take k) v = true) : ∃ j, j < k ∧ fieldIx fs v = j := by
  unfold hasName at hh
  rw [List.any_eq_true] at hh
  obtain ⟨x, hx, he⟩ := hh
  obtain ⟨j, hj, rfl⟩ := List.mem_iff_getElem.1 hx
  have hjk : j < k := by simp at hj; omega
  have hjl : j < fs.length := by omega
  have hv : fs[j].nm = v := by simpa using he
  cases hf : fs.findIdx? (fun f => decide (f.nm = v)) with
  | none =>
    rw [List.findIdx?_eq_none_iff] at hf
    have := hf fs[j] (List.getElem_mem hjl)
    simp [hv] at this
  | some i =>
    refine ⟨i, ?_, by unfold fieldIx; rw [hf]⟩
    rw [List.findIdx?_eq_some_iff_getElem] at hf
    obtain ⟨hi, _, hmin⟩ := hf
    rcases Nat.lt_or_ge i k with h1 | h1
    · exact h1
    · exfalso
      have := hmin j (by omega)
      simp [hv] at this

def noField : Fld := ⟨ByteArray.empty, 0, 0, 0, [], ByteArray.empty, 0, false, false, ByteArray.empty, ByteArray.empty⟩
/-- The field at a place is ok: its name, new among the fields ahead of it, and what it says. -/
def okAt (ss : List Shp) (fs : List Fld) (i : Nat) : Bool :=
  nameOk (fs.getD i noField).nm && !hasName (fs.take i) (fs.getD i noField).nm && fieldOk ss (fs.getD i noField)
def fieldsOk (ss : List Shp) (fs : List Fld) : Bool := decide (fs.length ≤ 6) && up (okAt ss fs) fs.length

theorem okAt_eq (ss : List Shp) (fs : List Fld) (i : Nat) (h : i < fs.length) : okAt ss fs i = (nameOk fs[i].nm && !hasName (fs.take i) fs[i].nm && fieldOk ss fs[i]) := by
  unfold okAt; rw [getD_at fs i _ h]

/-- The shape at a place is ok. -/
def shapeAt (ss : List Shp) (i : Nat) : Bool :=
  nameOk (ss.getD i noShape).kd && (decide (i = 0) || less (ss.getD (i - 1) noShape).kd (ss.getD i noShape).kd) && fieldsOk ss (ss.getD i noShape).fs
def shapesOk (ss : List Shp) : Bool := decide (ss.length ≤ 6) && up (shapeAt ss) ss.length

theorem shapeAt_first (ss : List Shp) (h : 0 < ss.length) : shapeAt ss 0 = (nameOk ss[0].kd && fieldsOk ss ss[0].fs) := by
  unfold shapeAt; rw [getD_at ss 0 _ h]; simp
theorem shapeAt_more (ss : List Shp) (k : Nat) (h : k + 1 < ss.length) : shapeAt ss (k + 1) = (nameOk ss[k + 1].kd && less ss[k].kd ss[k + 1].kd && fieldsOk ss ss[k + 1].fs) := by
  unfold shapeAt; rw [getD_at ss (k + 1) _ h, Nat.add_sub_cancel, getD_at ss k _ (by omega)]; simp

theorem bytesLess_irrefl : ∀ x : List UInt8, Op.bytesLess x x = false
  | [] => rfl
  | a :: x => by
    simp only [Op.bytesLess, Bool.or_eq_false_iff, decide_eq_false_iff_not, Bool.and_eq_false_iff]
    exact ⟨fun h => by simp at h, Or.inr (bytesLess_irrefl x)⟩

theorem bytesLess_trans : ∀ x y z : List UInt8, Op.bytesLess x y = true → Op.bytesLess y z = true → Op.bytesLess x z = true
  | _, [], _, h, _ => by simp [Op.bytesLess] at h
  | [], _ :: _, [], _, h => by simp [Op.bytesLess] at h
  | [], _ :: _, _ :: _, _, _ => rfl
  | _ :: _, _ :: _, [], _, h => by simp [Op.bytesLess] at h
  | a :: x, b :: y, c :: z, h, k => by
    simp only [Op.bytesLess, Bool.or_eq_true, decide_eq_true_eq, Bool.and_eq_true, beq_iff_eq] at h k ⊢
    rcases h with h | ⟨rfl, h⟩
    · rcases k with k | ⟨rfl, k⟩
      · exact Or.inl (UInt8.lt_trans h k)
      · exact Or.inl h
    · rcases k with k | ⟨rfl, k⟩
      · exact Or.inl k
      · exact Or.inr ⟨rfl, bytesLess_trans x y z h k⟩

end Go.Proofs.YtackfmeepggedaaDoor.Gate

namespace Go.Proofs.YtackfmeepggedaaDoor
open Go.RowKit

theorem heap_setCell_at {w : World} {b o : Nat} {C : Array Value} {t : TypeId} (h : w.heap[b]? = some (.cells C t)) (v : Value) : (w.setCell ⟨b, o, none⟩ v).heap[b]? = some (.cells (C.setIfInBounds o v) t) := by
  simp [World.setCell, Array.getElem?_modify, h]

theorem cell_of_block {w : World} {b o : Nat} {C : Array Value} {t : TypeId} (h : w.heap[b]? = some (.cells C t)) : w.cell? ⟨b, o, none⟩ = C[o]? := by simp [World.cell?, h]
theorem frozen_of_block {w : World} {b o : Nat} {C : Array Value} {t : TypeId} (h : w.heap[b]? = some (.cells C t)) : w.frozen? ⟨b, o, none⟩ = false := by simp [World.frozen?, h]

/-- Eleven cells stored one behind the other. -/
def put11 (w : World) (b o : Nat) (v0 v1 v2 v3 v4 v5 v6 v7 v8 v9 v10 : Value) : World := ((((((((((w.setCell ⟨b, o, none⟩ v0).setCell ⟨b, o + 1, none⟩ v1).setCell ⟨b, o + 2, none⟩ v2).setCell ⟨b, o + 3, none⟩ v3).setCell ⟨b, o + 4, none⟩ v4).setCell ⟨b, o + 5, none⟩ v5).setCell ⟨b, o + 6, none⟩ v6).setCell ⟨b, o + 7, none⟩ v7).setCell ⟨b, o + 8, none⟩ v8).setCell ⟨b, o + 9, none⟩ v9).setCell ⟨b, o + 10, none⟩ v10
def set11 (C : Array Value) (o : Nat) (v0 v1 v2 v3 v4 v5 v6 v7 v8 v9 v10 : Value) : Array Value := ((((((((((C.setIfInBounds o v0).setIfInBounds (o + 1) v1).setIfInBounds (o + 2) v2).setIfInBounds (o + 3) v3).setIfInBounds (o + 4) v4).setIfInBounds (o + 5) v5).setIfInBounds (o + 6) v6).setIfInBounds (o + 7) v7).setIfInBounds (o + 8) v8).setIfInBounds (o + 9) v9).setIfInBounds (o + 10) v10

theorem put11_block {w : World} {b o : Nat} {C : Array Value} {t : TypeId} (h : w.heap[b]? = some (.cells C t)) (v0 v1 v2 v3 v4 v5 v6 v7 v8 v9 v10 : Value) : (put11 w b o v0 v1 v2 v3 v4 v5 v6 v7 v8 v9 v10).heap[b]? = some (.cells (set11 C o v0 v1 v2 v3 v4 v5 v6 v7 v8 v9 v10) t) :=
  heap_setCell_at (heap_setCell_at (heap_setCell_at (heap_setCell_at (heap_setCell_at (heap_setCell_at (heap_setCell_at (heap_setCell_at (heap_setCell_at (heap_setCell_at (heap_setCell_at h v0) v1) v2) v3) v4) v5) v6) v7) v8) v9) v10

theorem put11_below {B : Nat} {a w : World} (h : Below B a w) {b : Nat} (hb : B ≤ b) (o : Nat) (v0 v1 v2 v3 v4 v5 v6 v7 v8 v9 v10 : Value) : Below B a (put11 w b o v0 v1 v2 v3 v4 v5 v6 v7 v8 v9 v10) :=
  ((((((((((h.setCell hb v0).setCell hb v1).setCell hb v2).setCell hb v3).setCell hb v4).setCell hb v5).setCell hb v6).setCell hb v7).setCell hb v8).setCell hb v9).setCell hb v10

theorem put11_size (w : World) (b o : Nat) (v0 v1 v2 v3 v4 v5 v6 v7 v8 v9 v10 : Value) : (put11 w b o v0 v1 v2 v3 v4 v5 v6 v7 v8 v9 v10).heap.size = w.heap.size := by simp [put11, World.setCell]

theorem put11_other (w : World) (b o b' : Nat) (hb : b' ≠ b) (v0 v1 v2 v3 v4 v5 v6 v7 v8 v9 v10 : Value) : (put11 w b o v0 v1 v2 v3 v4 v5 v6 v7 v8 v9 v10).heap[b']? = w.heap[b']? := by
  unfold put11
  iterate 11 rw [Below.heap_setCell _ _ _ _ hb]

theorem set11_size (C : Array Value) (o : Nat) (v0 v1 v2 v3 v4 v5 v6 v7 v8 v9 v10 : Value) : (set11 C o v0 v1 v2 v3 v4 v5 v6 v7 v8 v9 v10).size = C.size := by simp [set11]

theorem set11_out (C : Array Value) (o i : Nat) (v0 v1 v2 v3 v4 v5 v6 v7 v8 v9 v10 : Value) (h : i < o ∨ o + 11 ≤ i) : (set11 C o v0 v1 v2 v3 v4 v5 v6 v7 v8 v9 v10)[i]? = C[i]? := by
  unfold set11
  iterate 11 rw [Array.getElem?_setIfInBounds, if_neg (by omega)]

theorem set11_in (C : Array Value) (o j : Nat) (v0 v1 v2 v3 v4 v5 v6 v7 v8 v9 v10 : Value) (hj : j < 11) (ho : o + 11 ≤ C.size) : (set11 C o v0 v1 v2 v3 v4 v5 v6 v7 v8 v9 v10)[o + j]? = (#[v0, v1, v2, v3, v4, v5, v6, v7, v8, v9, v10] : Array Value)[j]? := by
  have hc : j = 0 ∨ j = 1 ∨ j = 2 ∨ j = 3 ∨ j = 4 ∨ j = 5 ∨ j = 6 ∨ j = 7 ∨ j = 8 ∨ j = 9 ∨ j = 10 := by omega
  unfold set11
  rcases hc with h | h | h | h | h | h | h | h | h | h | h <;> subst h <;> simp [Array.getElem?_setIfInBounds] <;> omega

end Go.Proofs.YtackfmeepggedaaDoor

namespace Go.Proofs.YtackfmeepggedaaDoor
open Go.RowKit

set_option maxHeartbeats 400000 in
theorem l1Byte_any (c : UInt8) (w : World) :
    Calls Tryd.prog 66 #[.int .u8 c.toNat] w fun e w' => e = .returned (.bool (Gate.nameByte c)) ∧ w' = w := by
  go_enter Tryd.func66, Tryd.ntmps66
  go_wp2
  all_goals
    go_ret
    refine ⟨ret_bool ?_, rfl⟩
    rw [Bool.eq_iff_iff]; simp [Gate.nameByte]; try omega

end Go.Proofs.YtackfmeepggedaaDoor
