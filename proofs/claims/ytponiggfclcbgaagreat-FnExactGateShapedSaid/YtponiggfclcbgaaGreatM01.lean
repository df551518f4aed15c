import Derived.WalkKit
import Derived.Laws.NewBlocks
import Derived.Laws.MakeOwn
import Derived.Laws.OwnMore
import Derived.Deep.Draws
namespace Go.Proofs.YtponiggfclcbgaaGreat
open Go.RowKit

/-- A slice of strings that lies in memory: its address, its strings. -/
structure StrsAt (w : World) (a : Option Addr) (ws : List ByteArray) : Prop where
  len : ws.length ≤ maxLen
  small : ∀ s ∈ ws, s.size ≤ maxLen
  cells : ws ≠ [] → ∃ b off, a = some ⟨b, off, none⟩ ∧ b < w.heap.size ∧ ∀ i (h : i < ws.length), w.cell? ⟨b, off + i, none⟩ = some (.string ws[i])

theorem StrsAt.mono {w w' : World} {a : Option Addr} {ws : List ByteArray} (h : StrsAt w a ws) (hb : Below w.heap.size w w') : StrsAt w' a ws :=
  ⟨h.len, h.small, fun hne => by
    obtain ⟨b, off, ha, hbs, hc⟩ := h.cells hne
    exact ⟨b, off, ha, Nat.lt_of_lt_of_le hbs hb.size, fun i hi => (hb.cell (p := ⟨b, off + i, none⟩) hbs).trans (hc i hi)⟩⟩

theorem bcell {W w1 : World} (hb : Below W.heap.size W w1) : (∀ b o, b < W.heap.size → w1.cell? ⟨b, o, none⟩ = W.cell? ⟨b, o, none⟩) ∧ (∀ b o, b < W.heap.size → w1.frozen? ⟨b, o, none⟩ = W.frozen? ⟨b, o, none⟩) :=
  ⟨fun b o h => hb.cell (p := ⟨b, o, none⟩) h, fun b o h => hb.frozen (p := ⟨b, o, none⟩) h⟩

/-- The cells of a row of strings. -/
def strArr (ws : List ByteArray) : Array Value := (ws.map Value.string).toArray
/-- The same, filled up to k. -/
def strCells (ws : List ByteArray) (k : Nat) : Array Value := ((ws.take k).map Value.string ++ List.replicate (ws.length - k) (Value.string ByteArray.empty)).toArray

theorem strCells_at (ws : List ByteArray) (k : Nat) (h : k < ws.length) : (strCells ws k)[k]? = some (.string ByteArray.empty) := by
  unfold strCells
  have hl : ((ws.take k).map Value.string).length = k := by simp; omega
  rw [List.getElem?_toArray, List.getElem?_append_right (by omega), hl, Nat.sub_self]
  obtain ⟨m, hm⟩ : ∃ m, ws.length - k = m + 1 := ⟨ws.length - k - 1, by omega⟩
  rw [hm, List.replicate_succ]; rfl

theorem strCells_set (ws : List ByteArray) (k : Nat) (h : k < ws.length) : (strCells ws k).setIfInBounds k (.string ws[k]) = strCells ws (k + 1) := by
  unfold strCells
  rw [List.setIfInBounds_toArray, List.set_append_right _ _ (by simp; omega)]
  congr 1
  rw [List.take_succ_eq_append_getElem h, List.map_append, List.append_assoc]
  congr 1
  obtain ⟨m, hm⟩ : ∃ m, ws.length - k = m + 1 := ⟨ws.length - k - 1, by omega⟩
  rw [hm, show ws.length - (k + 1) = m by omega]
  have : k - ((ws.take k).map Value.string).length = 0 := by simp; omega
  rw [this, List.replicate_succ]
  rfl

theorem strCells_all (ws : List ByteArray) (k : Nat) (h : ws.length ≤ k) : strCells ws k = strArr ws := by
  unfold strCells strArr
  rw [List.take_of_length_le h, show ws.length - k = 0 by omega]; simp

theorem strCells_zero (ws : List ByteArray) : madeCells #[Value.string ByteArray.empty] ws.length = strCells ws 0 := by
  apply Array.toList_inj.1
  rw [toList_madeCells_one]
  simp [strCells]

theorem strArr_at (w : World) (ws : List ByteArray) (t : TypeId) (h : ws.length ≤ maxLen) (hs : ∀ s ∈ ws, s.size ≤ maxLen) : StrsAt (w.alloc (.cells (strArr ws) t)) (some ⟨w.heap.size, 0, none⟩) ws :=
  ⟨h, hs, fun _ => ⟨w.heap.size, 0, rfl, by simp, fun i hi => by
    rw [World.cell?_alloc_at (hn := rfl)]
    simp [strArr, hi]⟩⟩

theorem heap_strs {w : World} {bk : Nat} {ws : List ByteArray} {t : TypeId} (h : w.heap[bk]? = some (.cells (strArr ws) t)) (hl : ws.length ≤ maxLen) (hs : ∀ s ∈ ws, s.size ≤ maxLen) : StrsAt w (some ⟨bk, 0, none⟩) ws :=
  ⟨hl, hs, fun _ => ⟨bk, 0, rfl, (Array.getElem?_eq_some_iff.1 h).1, fun i hi => by
    simp [World.cell?, h, strArr, hi]⟩⟩

theorem box_later {wk wl : World} {b : Nat} {X : Array Value} (h : ∀ o, wk.cell? ⟨b, o, none⟩ = X[o]?) (hb : b < wk.heap.size) (hl : Below wk.heap.size wk wl) : ∀ o, wl.cell? ⟨b, o, none⟩ = X[o]? :=
  fun o => (hl.cell (p := ⟨b, o, none⟩) hb).trans (h o)

theorem box_new (w : World) (X : Array Value) (t : TypeId) : ∀ o, (w.alloc (.cells X t)).cell? ⟨w.heap.size, o, none⟩ = X[o]? := fun _ => World.cell?_alloc_at _ _ _ _ rfl

theorem below_drewN {B : Nat} {a w : World} (h : Below B a w) (n : Nat) : Below B a (w.drewN n) := h.trans ⟨rfl, rfl, rfl, Nat.le_refl _, fun _ _ => rfl⟩
theorem below2' (w : World) (o o' : Obj) : Below w.heap.size w ((w.alloc o).alloc o') := ((Below.refl _ _).alloc (Nat.le_refl _) _).alloc (by simp) _
theorem as_bool {P : Program} {f : FuncId} {args : Array Value} {w : World} {b c : Bool} {R : World → Prop} (hb : b = c) (h : Calls P f args w fun e w' => e = .returned (.bool b) ∧ R w') : Calls P f args w fun e w' => e = .returned (.bool c) ∧ R w' := by
  subst hb; exact h

end Go.Proofs.YtponiggfclcbgaaGreat

namespace Go.Proofs.YtponiggfclcbgaaGreat
open Go.RowKit

/-- What a field of a shape holds. -/
structure Fld where
  nm : ByteArray
  kd : Int
  ls : Int
  ms : Int
  ws : List ByteArray
  to : ByteArray
  rl : Int
  mu : Bool
  fx : Bool
  df : ByteArray
  wg : ByteArray

/-- A shape: its kind, its fields. -/
structure Shp where
  kd : ByteArray
  fs : List Fld

/-- The cells of a field whose words lie at a. -/
def Fld.cells (f : Fld) (a : Option Addr) (cap : Nat) : Array Value :=
  #[.string f.nm, .int .i64 f.kd, .int .i64 f.ls, .int .i64 f.ms, .slice a f.ws.length cap, .string f.to, .int .i64 f.rl, .bool f.mu, .bool f.fx, .string f.df, .string f.wg]

structure Fld.Small (f : Fld) : Prop where
  nm : f.nm.size ≤ maxLen
  to : f.to.size ≤ maxLen
  df : f.df.size ≤ maxLen
  wg : f.wg.size ≤ maxLen

/-- A field lies at a place of memory, eleven cells. -/
structure FldIn (w : World) (b off : Nat) (f : Fld) (a : Option Addr) (cap : Nat) : Prop where
  small : f.Small
  strs : StrsAt w a f.ws
  cell : ∀ j, j < 11 → w.cell? ⟨b, off + j, none⟩ = (f.cells a cap)[j]?

/-- A slice of fields that lies in memory. -/
structure FldsAt (w : World) (a : Option Addr) (fs : List Fld) : Prop where
  len : fs.length ≤ maxLen
  rows : fs ≠ [] → ∃ b off, a = some ⟨b, off, none⟩ ∧ b < w.heap.size ∧ ∀ i (h : i < fs.length), ∃ wa wcap, FldIn w b (off + i * 11) fs[i] wa wcap

structure ShpIn (w : World) (b off : Nat) (s : Shp) (a : Option Addr) (cap : Nat) : Prop where
  small : s.kd.size ≤ maxLen
  flds : FldsAt w a s.fs
  kind : w.cell? ⟨b, off, none⟩ = some (.string s.kd)
  list : w.cell? ⟨b, off + 1, none⟩ = some (.slice a s.fs.length cap)

structure ShpsAt (w : World) (a : Option Addr) (ss : List Shp) : Prop where
  len : ss.length ≤ maxLen
  rows : ss ≠ [] → ∃ b off, a = some ⟨b, off, none⟩ ∧ b < w.heap.size ∧ ∀ i (h : i < ss.length), ∃ fa fcap, ShpIn w b (off + i * 2) ss[i] fa fcap

theorem FldIn.mono {w w' : World} {b off : Nat} {f : Fld} {a : Option Addr} {cap : Nat} (h : FldIn w b off f a cap) (hb : b < w.heap.size) (hl : Below w.heap.size w w') : FldIn w' b off f a cap :=
  ⟨h.small, h.strs.mono hl, fun j hj => (hl.cell (p := ⟨b, off + j, none⟩) hb).trans (h.cell j hj)⟩

theorem FldsAt.mono {w w' : World} {a : Option Addr} {fs : List Fld} (h : FldsAt w a fs) (hl : Below w.heap.size w w') : FldsAt w' a fs :=
  ⟨h.len, fun hne => by
    obtain ⟨b, off, ha, hb, hr⟩ := h.rows hne
    refine ⟨b, off, ha, Nat.lt_of_lt_of_le hb hl.size, fun i hi => ?_⟩
    obtain ⟨wa, wcap, hf⟩ := hr i hi
    exact ⟨wa, wcap, hf.mono hb hl⟩⟩

theorem ShpIn.mono {w w' : World} {b off : Nat} {s : Shp} {a : Option Addr} {cap : Nat} (h : ShpIn w b off s a cap) (hb : b < w.heap.size) (hl : Below w.heap.size w w') : ShpIn w' b off s a cap :=
  ⟨h.small, h.flds.mono hl, (hl.cell (p := ⟨b, off, none⟩) hb).trans h.kind, (hl.cell (p := ⟨b, off + 1, none⟩) hb).trans h.list⟩

theorem ShpsAt.mono {w w' : World} {a : Option Addr} {ss : List Shp} (h : ShpsAt w a ss) (hl : Below w.heap.size w w') : ShpsAt w' a ss :=
  ⟨h.len, fun hne => by
    obtain ⟨b, off, ha, hb, hr⟩ := h.rows hne
    refine ⟨b, off, ha, Nat.lt_of_lt_of_le hb hl.size, fun i hi => ?_⟩
    obtain ⟨fa, fcap, hs⟩ := hr i hi
    exact ⟨fa, fcap, hs.mono hb hl⟩⟩

end Go.Proofs.YtponiggfclcbgaaGreat

namespace Go.Proofs.YtponiggfclcbgaaGreat
open Go.RowKit

theorem heap_setCell_at {w : World} {b o : Nat} {C : Array Value} {t : TypeId} (h : w.heap[b]? = some (.cells C t)) (v : Value) : (w.setCell ⟨b, o, none⟩ v).heap[b]? = some (.cells (C.setIfInBounds o v) t) := by
  simp [World.setCell, Array.getElem?_modify, h]

theorem cell_of_block {w : World} {b o : Nat} {C : Array Value} {t : TypeId} (h : w.heap[b]? = some (.cells C t)) : w.cell? ⟨b, o, none⟩ = C[o]? := by simp [World.cell?, h]
theorem frozen_of_block {w : World} {b o : Nat} {C : Array Value} {t : TypeId} (h : w.heap[b]? = some (.cells C t)) : w.frozen? ⟨b, o, none⟩ = false := by simp [World.frozen?, h]

/-- Eleven cells stored one behind the other. -/
def put11 (w : World) (b o : Nat) (v0 v1 v2 v3 v4 v5 v6 v7 v8 v9 v10 : Value) : World := ((((((((((w.setCell ⟨b, o, none⟩ v0).setCell ⟨b, o + 1, none⟩ v1).setCell ⟨b, o + 2, none⟩ v2).setCell ⟨b, o + 3, none⟩ v3).setCell ⟨b, o + 4, none⟩ v4).setCell ⟨b, o + 5, none⟩ v5).setCell ⟨b, o + 6, none⟩ v6).setCell ⟨b, o + 7, none⟩ v7).setCell ⟨b, o + 8, none⟩ v8).setCell ⟨b, o + 9, none⟩ v9).setCell ⟨b, o + 10, none⟩ v10
def set11 (C : Array Value) (o : Nat) (v0 v1 v2 v3 v4 v5 v6 v7 v8 v9 v10 : Value) : Array Value := ((((((((((C.setIfInBounds o v0).setIfInBounds (o + 1) v1).setIfInBounds (o + 2) v2).setIfInBounds (o + 3) v3).setIfInBounds (o + 4) v4).setIfInBounds (o + 5) v5).setIfInBounds (o + 6) v6).setIfInBounds (o + 7) v7).setIfInBounds (o + 8) v8).setIfInBounds (o + 9) v9).setIfInBounds (o + 10) v10

theorem put11_block {w : World} {b o : Nat} {C : Array Value} {t : TypeId} (h : w.heap[b]? = some (.cells C t)) (v0 v1 v2 v3 v4 v5 v6 v7 v8 v9 v10 : Value) : (put11 w b o v0 v1 v2 v3 v4 v5 v6 v7 v8 v9 v10).heap[b]? = some (.cells (set11 C o v0 v1 v2 v3 v4 v5 v6 v7 v8 v9 v10) t) :=
  heap_setCell_at (heap_setCell_at (heap_setCell_at (heap_setCell_at (heap_setCell_at (heap_setCell_at (heap_setCell_at (heap_setCell_at (heap_setCell_at (heap_setCell_at (heap_setCell_at h v0) v1) v2) v3) v4) v5) v6) v7) v8) v9) v10

theorem put11_below {B : Nat} {a w : World} (h : Below B a w) {b : Nat} (hb : B ≤ b) (o : Nat) (v0 v1 v2 v3 v4 v5 v6 v7 v8 v9 v10 : Value) : Below B a (put11 w b o v0 v1 v2 v3 v4 v5 v6 v7 v8 v9 v10) :=
  ((((((((((h.setCell hb v0).setCell hb v1).setCell hb v2).setCell hb v3).setCell hb v4).setCell hb v5).setCell hb v6).setCell hb v7).setCell hb v8).setCell hb v9).setCell hb v10

theorem put11_size (w : World) (b o : Nat) (v0 v1 v2 v3 v4 v5 v6 v7 v8 v9 v10 : Value) : (put11 w b o v0 v1 v2 v3 v4 v5 v6 v7 v8 v9 v10).heap.size = w.heap.size := by simp [put11, World.setCell]

theorem put11_other (w : World) (b o b' : Nat) (hb : b' ≠ b) (v0 v1 v2 v3 v4 v5 v6 v7 v8 v9 v10 : Value) : (put11 w b o v0 v1 v2 v3 v4 v5 v6 v7 v8 v9 v10).heap[b']? = w.heap[b']? := by
  unfold put11
  iterate 11 rw [Below.heap_setCell _ _ _ _ hb]

theorem set11_size (C : Array Value) (o : Nat) (v0 v1 v2 v3 v4 v5 v6 v7 v8 v9 v10 : Value) : (set11 C o v0 v1 v2 v3 v4 v5 v6 v7 v8 v9 v10).size = C.size := by simp [set11]

theorem set11_out (C : Array Value) (o i : Nat) (v0 v1 v2 v3 v4 v5 v6 v7 v8 v9 v10 : Value) (h : i < o ∨ o + 11 ≤ i) : (set11 C o v0 v1 v2 v3 v4 v5 v6 v7 v8 v9 v10)[i]? = C[i]? := by
  unfold set11
  iterate 11 rw [Array.getElem?_setIfInBounds, if_neg (by omega)]

theorem set11_in (C : Array Value) (o j : Nat) (v0 v1 v2 v3 v4 v5 v6 v7 v8 v9 v10 : Value) (hj : j < 11) (ho : o + 11 ≤ C.size) : (set11 C o v0 v1 v2 v3 v4 v5 v6 v7 v8 v9 v10)[o + j]? = (#[v0, v1, v2, v3, v4, v5, v6, v7, v8, v9, v10] : Array Value)[j]? := by
  have hc : j = 0 ∨ j = 1 ∨ j = 2 ∨ j = 3 ∨ j = 4 ∨ j = 5 ∨ j = 6 ∨ j = 7 ∨ j = 8 ∨ j = 9 ∨ j = 10 := by omega
  unfold set11
  rcases hc with h | h | h | h | h | h | h | h | h | h | h <;> subst h <;> simp [Array.getElem?_setIfInBounds] <;> omega

end Go.Proofs.YtponiggfclcbgaaGreat
