import Derived.WalkKit
import Derived.MapKept
import Derived.Laws.NewBlocks
import Derived.Laws.MakeOwn
import Derived.Laws.OwnMore
import Derived.Deep.Draws
import Derived.Test.YtoadlpdnpijnbaaDoorRows
import Derived.Lib.ItoaMem
namespace Go.Proofs.YtoadlpdnpijnbaaDoor
open Go.RowKit

theorem alloc_set (w : World) (o o' : Obj) : { (w.alloc o) with heap := (w.alloc o).heap.setIfInBounds w.heap.size o' } = w.alloc o' := by
  show ({ w with heap := (w.heap.push o).setIfInBounds w.heap.size o' } : World) = { w with heap := w.heap.push o' }
  congr 1
  apply Array.ext_getElem?
  intro i
  simp only [Array.getElem?_setIfInBounds, Array.getElem?_push, Array.size_push]
  by_cases h : w.heap.size = i
  · subst h; simp
  · rw [if_neg h, if_neg (fun e => h e.symm), if_neg (fun e => h e.symm)]

theorem alloc_at (w : World) (o : Obj) : (w.alloc o).heap[w.heap.size]? = some o := by
  show (w.heap.push o)[w.heap.size]? = some o
  simp

/-- A new key into a map that is the last block. -/
theorem run_update_last {P : Program} {mty kt et : TypeId} {d : TypeDesc} (hm : P.underlying mty = some (.map kt et)) (hd : P.underlying kt = some d) (key val : Value) (hk : MapKept.IsKey d key)
    (es : Array MapEntry) (clock : Nat) (hf : Instr.findNow d key es.toList 0 = some none) (w : World) :
    (Instr.mapUpdate mty (.map (some w.heap.size)) key val).run P (w.alloc (.map es clock)) = .ok () (w.alloc (.map (es.push ⟨key, val, clock⟩) (clock + 1))) := by
  have hb := alloc_at w (.map es clock)
  have hc := MapKept.run_checkKey (P := P) (w := w.alloc (.map es clock)) hd hk false 9999
  simp [Instr.mapUpdate, run_underlying hm, MapKept.run_getObj_map hb, hc, MapKept.run_findKey hd hf, MapKept.run_setObj_map _ hb, Result.andThen, ← alloc_set w (.map es clock) (.map (es.push ⟨key, val, clock⟩) (clock + 1))]

theorem run_lookup_hit {P : Program} {mty kt et : TypeId} {d : TypeDesc} (hm : P.underlying mty = some (.map kt et)) (hd : P.underlying kt = some d) (key val : Value) (hk : MapKept.IsKey d key)
    (es : Array MapEntry) (clock i : Nat) (hf : Instr.findNow d key es.toList 0 = some (some (i, val))) (w : World) (r : Nat) (hb : w.heap[r]? = some (.map es clock)) :
    (Instr.lookup mty (.map (some r)) key true).run P w = .ok (.tuple #[val, .bool true]) w := by
  have hc := MapKept.run_checkKey (P := P) (w := w) hd hk es.isEmpty 9999
  simp [Instr.lookup, run_underlying hm, MapKept.run_getObj_map hb, hc, MapKept.run_findKey hd hf, Result.andThen]

theorem run_lookup_miss {P : Program} {mty kt et : TypeId} {d : TypeDesc} (hm : P.underlying mty = some (.map kt et)) (hd : P.underlying kt = some d) (key z : Value) (hk : MapKept.IsKey d key)
    (es : Array MapEntry) (clock : Nat) (hf : Instr.findNow d key es.toList 0 = some none) (w : World) (hz : (zeroValue et).run P w = .ok z w) (r : Nat) (hb : w.heap[r]? = some (.map es clock)) :
    (Instr.lookup mty (.map (some r)) key true).run P w = .ok (.tuple #[z, .bool false]) w := by
  have hc := MapKept.run_checkKey (P := P) (w := w) hd hk es.isEmpty 9999
  simp [Instr.lookup, run_underlying hm, MapKept.run_getObj_map hb, hc, MapKept.run_findKey hd hf, hz, Result.andThen]

end Go.Proofs.YtoadlpdnpijnbaaDoor

namespace Go.Proofs.YtoadlpdnpijnbaaDoor
open Go.RowKit

/-- A slice of strings that lies in memory: its address, its strings. -/
structure StrsAt (w : World) (a : Option Addr) (ws : List ByteArray) : Prop where
  len : ws.length ≤ maxLen
  small : ∀ s ∈ ws, s.size ≤ maxLen
  cells : ws ≠ [] → ∃ b off, a = some ⟨b, off, none⟩ ∧ b < w.heap.size ∧ ∀ i (h : i < ws.length), w.cell? ⟨b, off + i, none⟩ = some (.string ws[i])

theorem StrsAt.mono {w w' : World} {a : Option Addr} {ws : List ByteArray} (h : StrsAt w a ws) (hb : Below w.heap.size w w') : StrsAt w' a ws :=
  ⟨h.len, h.small, fun hne => by
    obtain ⟨b, off, ha, hbs, hc⟩ := h.cells hne
    exact ⟨b, off, ha, Nat.lt_of_lt_of_le hbs hb.size, fun i hi => (hb.cell (p := ⟨b, off + i, none⟩) hbs).trans (hc i hi)⟩⟩

theorem bcell {W w1 : World} (hb : Below W.heap.size W w1) : (∀ b o, b < W.heap.size → w1.cell? ⟨b, o, none⟩ = W.cell? ⟨b, o, none⟩) ∧ (∀ b o, b < W.heap.size → w1.frozen? ⟨b, o, none⟩ = W.frozen? ⟨b, o, none⟩) :=
  ⟨fun b o h => hb.cell (p := ⟨b, o, none⟩) h, fun b o h => hb.frozen (p := ⟨b, o, none⟩) h⟩

/-- The cells of a row of strings. -/
def strArr (ws : List ByteArray) : Array Value := (ws.map Value.string).toArray
/-- The same, filled up to k. -/
def strCells (ws : List ByteArray) (k : Nat) : Array Value := ((ws.take k).map Value.string ++ List.replicate (ws.length - k) (Value.string ByteArray.empty)).toArray

theorem strCells_at (ws : List ByteArray) (k : Nat) (h : k < ws.length) : (strCells ws k)[k]? = some (.string ByteArray.empty) := by
  unfold strCells
  have hl : ((ws.take k).map Value.string).length = k := by simp; omega
  rw [List.getElem?_toArray, List.getElem?_append_right (by omega), hl, Nat.sub_self]
  obtain ⟨m, hm⟩ : ∃ m, ws.length - k = m + 1 := ⟨ws.length - k - 1, by omega⟩
  rw [hm, List.replicate_succ]; rfl

theorem strCells_set (ws : List ByteArray) (k : Nat) (h : k < ws.length) : (strCells ws k).setIfInBounds k (.string ws[k]) = strCells ws (k + 1) := by
  unfold strCells
  rw [List.setIfInBounds_toArray, List.set_append_right _ _ (by simp; omega)]
  congr 1
  rw [List.take_succ_eq_append_getElem h, List.map_append, List.append_assoc]
  congr 1
  obtain ⟨m, hm⟩ : ∃ m, ws.length - k = m + 1 := ⟨ws.length - k - 1, by omega⟩
  rw [hm, show ws.length - (k + 1) = m by omega]
  have : k - ((ws.take k).map Value.string).length = 0 := by simp; omega
  rw [this, List.replicate_succ]
  rfl

theorem strCells_all (ws : List ByteArray) (k : Nat) (h : ws.length ≤ k) : strCells ws k = strArr ws := by
  unfold strCells strArr
  rw [List.take_of_length_le h, show ws.length - k = 0 by omega]; simp

theorem strCells_zero (ws : List ByteArray) : madeCells #[Value.string ByteArray.empty] ws.length = strCells ws 0 := by
  apply Array.toList_inj.1
  rw [toList_madeCells_one]
  simp [strCells]

theorem strArr_at (w : World) (ws : List ByteArray) (t : TypeId) (h : ws.length ≤ maxLen) (hs : ∀ s ∈ ws, s.size ≤ maxLen) : StrsAt (w.alloc (.cells (strArr ws) t)) (some ⟨w.heap.size, 0, none⟩) ws :=
  ⟨h, hs, fun _ => ⟨w.heap.size, 0, rfl, by simp, fun i hi => by
    rw [World.cell?_alloc_at (hn := rfl)]
    simp [strArr, hi]⟩⟩

theorem heap_strs {w : World} {bk : Nat} {ws : List ByteArray} {t : TypeId} (h : w.heap[bk]? = some (.cells (strArr ws) t)) (hl : ws.length ≤ maxLen) (hs : ∀ s ∈ ws, s.size ≤ maxLen) : StrsAt w (some ⟨bk, 0, none⟩) ws :=
  ⟨hl, hs, fun _ => ⟨bk, 0, rfl, (Array.getElem?_eq_some_iff.1 h).1, fun i hi => by
    simp [World.cell?, h, strArr, hi]⟩⟩

theorem box_later {wk wl : World} {b : Nat} {X : Array Value} (h : ∀ o, wk.cell? ⟨b, o, none⟩ = X[o]?) (hb : b < wk.heap.size) (hl : Below wk.heap.size wk wl) : ∀ o, wl.cell? ⟨b, o, none⟩ = X[o]? :=
  fun o => (hl.cell (p := ⟨b, o, none⟩) hb).trans (h o)

theorem box_new (w : World) (X : Array Value) (t : TypeId) : ∀ o, (w.alloc (.cells X t)).cell? ⟨w.heap.size, o, none⟩ = X[o]? := fun _ => World.cell?_alloc_at _ _ _ _ rfl

theorem below_drewN {B : Nat} {a w : World} (h : Below B a w) (n : Nat) : Below B a (w.drewN n) := h.trans ⟨rfl, rfl, rfl, Nat.le_refl _, fun _ _ => rfl⟩
theorem below2' (w : World) (o o' : Obj) : Below w.heap.size w ((w.alloc o).alloc o') := ((Below.refl _ _).alloc (Nat.le_refl _) _).alloc (by simp) _
theorem as_bool {P : Program} {f : FuncId} {args : Array Value} {w : World} {b c : Bool} {R : World → Prop} (hb : b = c) (h : Calls P f args w fun e w' => e = .returned (.bool b) ∧ R w') : Calls P f args w fun e w' => e = .returned (.bool c) ∧ R w' := by
  subst hb; exact h

end Go.Proofs.YtoadlpdnpijnbaaDoor

namespace Go.Proofs.YtoadlpdnpijnbaaDoor
open Go.RowKit

/-- What a field of a shape holds. -/
structure Fld where
  nm : ByteArray
  kd : Int
  ls : Int
  ms : Int
  ws : List ByteArray
  to : ByteArray
  rl : Int
  mu : Bool
  fx : Bool
  df : ByteArray
  wg : ByteArray

/-- A shape: its kind, its fields. -/
structure Shp where
  kd : ByteArray
  fs : List Fld

/-- The cells of a field whose words lie at a. -/
def Fld.cells (f : Fld) (a : Option Addr) (cap : Nat) : Array Value :=
  #[.string f.nm, .int .i64 f.kd, .int .i64 f.ls, .int .i64 f.ms, .slice a f.ws.length cap, .string f.to, .int .i64 f.rl, .bool f.mu, .bool f.fx, .string f.df, .string f.wg]

structure Fld.Small (f : Fld) : Prop where
  nm : f.nm.size ≤ maxLen
  to : f.to.size ≤ maxLen
  df : f.df.size ≤ maxLen
  wg : f.wg.size ≤ maxLen

/-- A field lies at a place of memory, eleven cells. -/
structure FldIn (w : World) (b off : Nat) (f : Fld) (a : Option Addr) (cap : Nat) : Prop where
  small : f.Small
  strs : StrsAt w a f.ws
  cell : ∀ j, j < 11 → w.cell? ⟨b, off + j, none⟩ = (f.cells a cap)[j]?

/-- A slice of fields that lies in memory. -/
structure FldsAt (w : World) (a : Option Addr) (fs : List Fld) : Prop where
  len : fs.length ≤ maxLen
  rows : fs ≠ [] → ∃ b off, a = some ⟨b, off, none⟩ ∧ b < w.heap.size ∧ ∀ i (h : i < fs.length), ∃ wa wcap, FldIn w b (off + i * 11) fs[i] wa wcap

structure ShpIn (w : World) (b off : Nat) (s : Shp) (a : Option Addr) (cap : Nat) : Prop where
  small : s.kd.size ≤ maxLen
  flds : FldsAt w a s.fs
  kind : w.cell? ⟨b, off, none⟩ = some (.string s.kd)
  list : w.cell? ⟨b, off + 1, none⟩ = some (.slice a s.fs.length cap)

structure ShpsAt (w : World) (a : Option Addr) (ss : List Shp) : Prop where
  len : ss.length ≤ maxLen
  rows : ss ≠ [] → ∃ b off, a = some ⟨b, off, none⟩ ∧ b < w.heap.size ∧ ∀ i (h : i < ss.length), ∃ fa fcap, ShpIn w b (off + i * 2) ss[i] fa fcap

theorem FldIn.mono {w w' : World} {b off : Nat} {f : Fld} {a : Option Addr} {cap : Nat} (h : FldIn w b off f a cap) (hb : b < w.heap.size) (hl : Below w.heap.size w w') : FldIn w' b off f a cap :=
  ⟨h.small, h.strs.mono hl, fun j hj => (hl.cell (p := ⟨b, off + j, none⟩) hb).trans (h.cell j hj)⟩

theorem FldsAt.mono {w w' : World} {a : Option Addr} {fs : List Fld} (h : FldsAt w a fs) (hl : Below w.heap.size w w') : FldsAt w' a fs :=
  ⟨h.len, fun hne => by
    obtain ⟨b, off, ha, hb, hr⟩ := h.rows hne
    refine ⟨b, off, ha, Nat.lt_of_lt_of_le hb hl.size, fun i hi => ?_⟩
    obtain ⟨wa, wcap, hf⟩ := hr i hi
    exact ⟨wa, wcap, hf.mono hb hl⟩⟩

theorem ShpIn.mono {w w' : World} {b off : Nat} {s : Shp} {a : Option Addr} {cap : Nat} (h : ShpIn w b off s a cap) (hb : b < w.heap.size) (hl : Below w.heap.size w w') : ShpIn w' b off s a cap :=
  ⟨h.small, h.flds.mono hl, (hl.cell (p := ⟨b, off, none⟩) hb).trans h.kind, (hl.cell (p := ⟨b, off + 1, none⟩) hb).trans h.list⟩

theorem ShpsAt.mono {w w' : World} {a : Option Addr} {ss : List Shp} (h : ShpsAt w a ss) (hl : Below w.heap.size w w') : ShpsAt w' a ss :=
  ⟨h.len, fun hne => by
    obtain ⟨b, off, ha, hb, hr⟩ := h.rows hne
    refine ⟨b, off, ha, Nat.lt_of_lt_of_le hb hl.size, fun i hi => ?_⟩
    obtain ⟨fa, fcap, hs⟩ := hr i hi
    exact ⟨fa, fcap, hs.mono hb hl⟩⟩

end Go.Proofs.YtoadlpdnpijnbaaDoor

namespace Go.Proofs.YtoadlpdnpijnbaaDoor
open Go.RowKit

theorem heap_setCell_at {w : World} {b o : Nat} {C : Array Value} {t : TypeId} (h : w.heap[b]? = some (.cells C t)) (v : Value) : (w.setCell ⟨b, o, none⟩ v).heap[b]? = some (.cells (C.setIfInBounds o v) t) := by
  simp [World.setCell, Array.getElem?_modify, h]

theorem cell_of_block {w : World} {b o : Nat} {C : Array Value} {t : TypeId} (h : w.heap[b]? = some (.cells C t)) : w.cell? ⟨b, o, none⟩ = C[o]? := by simp [World.cell?, h]
theorem frozen_of_block {w : World} {b o : Nat} {C : Array Value} {t : TypeId} (h : w.heap[b]? = some (.cells C t)) : w.frozen? ⟨b, o, none⟩ = false := by simp [World.frozen?, h]

/-- Eleven cells stored one behind the other. -/
def put11 (w : World) (b o : Nat) (v0 v1 v2 v3 v4 v5 v6 v7 v8 v9 v10 : Value) : World := ((((((((((w.setCell ⟨b, o, none⟩ v0).setCell ⟨b, o + 1, none⟩ v1).setCell ⟨b, o + 2, none⟩ v2).setCell ⟨b, o + 3, none⟩ v3).setCell ⟨b, o + 4, none⟩ v4).setCell ⟨b, o + 5, none⟩ v5).setCell ⟨b, o + 6, none⟩ v6).setCell ⟨b, o + 7, none⟩ v7).setCell ⟨b, o + 8, none⟩ v8).setCell ⟨b, o + 9, none⟩ v9).setCell ⟨b, o + 10, none⟩ v10
def set11 (C : Array Value) (o : Nat) (v0 v1 v2 v3 v4 v5 v6 v7 v8 v9 v10 : Value) : Array Value := ((((((((((C.setIfInBounds o v0).setIfInBounds (o + 1) v1).setIfInBounds (o + 2) v2).setIfInBounds (o + 3) v3).setIfInBounds (o + 4) v4).setIfInBounds (o + 5) v5).setIfInBounds (o + 6) v6).setIfInBounds (o + 7) v7).setIfInBounds (o + 8) v8).setIfInBounds (o + 9) v9).setIfInBounds (o + 10) v10

theorem put11_block {w : World} {b o : Nat} {C : Array Value} {t : TypeId} (h : w.heap[b]? = some (.cells C t)) (v0 v1 v2 v3 v4 v5 v6 v7 v8 v9 v10 : Value) : (put11 w b o v0 v1 v2 v3 v4 v5 v6 v7 v8 v9 v10).heap[b]? = some (.cells (set11 C o v0 v1 v2 v3 v4 v5 v6 v7 v8 v9 v10) t) :=
  heap_setCell_at (heap_setCell_at (heap_setCell_at (heap_setCell_at (heap_setCell_at (heap_setCell_at (heap_setCell_at (heap_setCell_at (heap_setCell_at (heap_setCell_at (heap_setCell_at h v0) v1) v2) v3) v4) v5) v6) v7) v8) v9) v10

theorem put11_below {B : Nat} {a w : World} (h : Below B a w) {b : Nat} (hb : B ≤ b) (o : Nat) (v0 v1 v2 v3 v4 v5 v6 v7 v8 v9 v10 : Value) : Below B a (put11 w b o v0 v1 v2 v3 v4 v5 v6 v7 v8 v9 v10) :=
  ((((((((((h.setCell hb v0).setCell hb v1).setCell hb v2).setCell hb v3).setCell hb v4).setCell hb v5).setCell hb v6).setCell hb v7).setCell hb v8).setCell hb v9).setCell hb v10

theorem put11_size (w : World) (b o : Nat) (v0 v1 v2 v3 v4 v5 v6 v7 v8 v9 v10 : Value) : (put11 w b o v0 v1 v2 v3 v4 v5 v6 v7 v8 v9 v10).heap.size = w.heap.size := by simp [put11, World.setCell]

theorem put11_other (w : World) (b o b' : Nat) (hb : b' ≠ b) (v0 v1 v2 v3 v4 v5 v6 v7 v8 v9 v10 : Value) : (put11 w b o v0 v1 v2 v3 v4 v5 v6 v7 v8 v9 v10).heap[b']? = w.heap[b']? := by
  unfold put11
  iterate 11 rw [Below.heap_setCell _ _ _ _ hb]

theorem set11_size (C : Array Value) (o : Nat) (v0 v1 v2 v3 v4 v5 v6 v7 v8 v9 v10 : Value) : (set11 C o v0 v1 v2 v3 v4 v5 v6 v7 v8 v9 v10).size = C.size := by simp [set11]

theorem set11_out (C : Array Value) (o i : Nat) (v0 v1 v2 v3 v4 v5 v6 v7 v8 v9 v10 : Value) (h : i < o ∨ o + 11 ≤ i) : (set11 C o v0 v1 v2 v3 v4 v5 v6 v7 v8 v9 v10)[i]? = C[i]? := by
  unfold set11
  iterate 11 rw [Array.getElem?_setIfInBounds, if_neg (by omega)]

theorem set11_in (C : Array Value) (o j : Nat) (v0 v1 v2 v3 v4 v5 v6 v7 v8 v9 v10 : Value) (hj : j < 11) (ho : o + 11 ≤ C.size) : (set11 C o v0 v1 v2 v3 v4 v5 v6 v7 v8 v9 v10)[o + j]? = (#[v0, v1, v2, v3, v4, v5, v6, v7, v8, v9, v10] : Array Value)[j]? := by
  have hc : j = 0 ∨ j = 1 ∨ j = 2 ∨ j = 3 ∨ j = 4 ∨ j = 5 ∨ j = 6 ∨ j = 7 ∨ j = 8 ∨ j = 9 ∨ j = 10 := by omega
  unfold set11
  rcases hc with h | h | h | h | h | h | h | h | h | h | h <;> subst h <;> simp [Array.getElem?_setIfInBounds] <;> omega

end Go.Proofs.YtoadlpdnpijnbaaDoor

namespace Go.Proofs.YtoadlpdnpijnbaaDoor
open Go.RowKit

/-- A map from strings to ints that lies in a block. -/
structure StrMap (w : World) (r : Nat) (f : ByteArray → Option Int) : Prop where
  ex : ∃ es clock, w.heap[r]? = some (.map es clock) ∧ (∀ x ∈ es.toList, ∃ k v, x.key = .string k ∧ x.val = .int .i64 v ∧ f k = some v) ∧ (∀ k v, f k = some v → ∃ x ∈ es.toList, x.key = .string k) ∧ ∀ (i j : Nat) (x y : MapEntry), es[i]? = some x → es[j]? = some y → x.key = y.key → i = j

theorem StrMap.mono {w w' : World} {r : Nat} {f : ByteArray → Option Int} (h : StrMap w r f) (hb : w'.heap[r]? = w.heap[r]?) : StrMap w' r f := by
  obtain ⟨es, clock, h1, h2⟩ := h.ex
  exact ⟨es, clock, hb.trans h1, h2⟩

theorem StrMap.lt {w : World} {r : Nat} {f : ByteArray → Option Int} (h : StrMap w r f) : r < w.heap.size := by
  obtain ⟨es, clock, h1, _⟩ := h.ex
  exact (Array.getElem?_eq_some_iff.1 h1).1

theorem isKey_str (k : ByteArray) : MapKept.IsKey .string (.string k) := by simp [MapKept.IsKey]

theorem StrMap.keys {es : Array MapEntry} {f : ByteArray → Option Int} (h : ∀ x ∈ es.toList, ∃ k v, x.key = .string k ∧ x.val = .int .i64 v ∧ f k = some v) : ∀ x ∈ es.toList, MapKept.IsKey .string x.key := by
  intro x hx
  obtain ⟨k, v, h1, _⟩ := h x hx
  rw [h1]; exact isKey_str k

theorem run_look1_hit {P : Program} {mty kt et : TypeId} {d : TypeDesc} (hm : P.underlying mty = some (.map kt et)) (hd : P.underlying kt = some d) (key val : Value) (hk : MapKept.IsKey d key)
    (es : Array MapEntry) (clock i : Nat) (hf : Instr.findNow d key es.toList 0 = some (some (i, val))) (w : World) (r : Nat) (hb : w.heap[r]? = some (.map es clock)) :
    (Instr.lookup mty (.map (some r)) key false).run P w = .ok val w := by
  have hc := MapKept.run_checkKey (P := P) (w := w) hd hk es.isEmpty 9999
  simp [Instr.lookup, run_underlying hm, MapKept.run_getObj_map hb, hc, MapKept.run_findKey hd hf, Result.andThen]

theorem run_look1_miss {P : Program} {mty kt et : TypeId} {d : TypeDesc} (hm : P.underlying mty = some (.map kt et)) (hd : P.underlying kt = some d) (key z : Value) (hk : MapKept.IsKey d key)
    (es : Array MapEntry) (clock : Nat) (hf : Instr.findNow d key es.toList 0 = some none) (w : World) (hz : (zeroValue et).run P w = .ok z w) (r : Nat) (hb : w.heap[r]? = some (.map es clock)) :
    (Instr.lookup mty (.map (some r)) key false).run P w = .ok z w := by
  have hc := MapKept.run_checkKey (P := P) (w := w) hd hk es.isEmpty 9999
  simp [Instr.lookup, run_underlying hm, MapKept.run_getObj_map hb, hc, MapKept.run_findKey hd hf, hz, Result.andThen]

theorem StrMap.look {w : World} {r : Nat} {f : ByteArray → Option Int} (h : StrMap w r f) (k : ByteArray) :
    (Instr.lookup 99 (.map (some r)) (.string k) false).run Tryd.prog w = .ok (.int .i64 ((f k).getD 0)) w := by
  obtain ⟨es, clock, hb, h1, h2, h3⟩ := h.ex
  rcases MapKept.findNow_spec (isKey_str k) es.toList 0 (StrMap.keys h1) with ⟨g1, g2⟩ | ⟨j, e, g1, g2, g3⟩
  · have hn : f k = none := by
      cases hf : f k with
      | none => rfl
      | some v =>
        obtain ⟨x, hx, hk⟩ := h2 k v hf
        exact absurd hk (g2 x hx)
    rw [hn]
    exact run_look1_miss Tryd.underlying99 Tryd.underlying9 (.string k) (.int .i64 0) (isKey_str k) es clock g1 w (by kernel_rfl) r hb
  · obtain ⟨k', v', e1, e2, e3⟩ := h1 e (List.mem_of_getElem? g2)
    rw [g3] at e1
    cases e1
    rw [e3]
    rw [e2] at g1
    exact run_look1_hit Tryd.underlying99 Tryd.underlying9 (.string k) (.int .i64 v') (isKey_str k) es clock _ g1 w r hb

/-- What a write into the map leaves: all other blocks. -/
structure StrPut (r : Nat) (w w' : World) : Prop where
  os : w'.os = w.os
  tape : w'.tape = w.tape
  output : w'.output = w.output
  size : w'.heap.size = w.heap.size
  out : ∀ k, k ≠ r → w'.heap[k]? = w.heap[k]?

theorem StrMap.upd {w : World} {r : Nat} {f : ByteArray → Option Int} (h : StrMap w r f) (k : ByteArray) (v : Int) :
    ∃ w', (Instr.mapUpdate 99 (.map (some r)) (.string k) (.int .i64 v)).run Tryd.prog w = .ok () w' ∧ StrMap w' r (fun q => if q = k then some v else f q) ∧ StrPut r w w' := by
  obtain ⟨es, clock, hb, h1, h2, h3⟩ := h.ex
  have hm := Tryd.underlying99
  have hd := Tryd.underlying9
  rcases MapKept.findNow_spec (isKey_str k) es.toList 0 (StrMap.keys h1) with ⟨g1, g2⟩ | ⟨j, e, g1, g2, g3⟩
  · refine ⟨{ w with heap := w.heap.setIfInBounds r (.map (es.push ⟨.string k, .int .i64 v, clock⟩) (clock + 1)) }, ?_, ⟨_, _, (MapKept.heap_set hb).1, ?_, ?_, ?_⟩, rfl, rfl, rfl, by simp, fun q hq => (MapKept.heap_set hb).2 q hq⟩
    · simp [Instr.mapUpdate, run_underlying hm, MapKept.run_getObj_map hb, MapKept.run_checkKey hd (isKey_str k), MapKept.run_findKey hd g1, MapKept.run_setObj_map _ hb, Result.andThen]
    · intro x hx
      rw [Array.toList_push, List.mem_append, List.mem_singleton] at hx
      rcases hx with hx | rfl
      · obtain ⟨k', v', e1, e2, e3⟩ := h1 x hx
        refine ⟨k', v', e1, e2, ?_⟩
        have : k' ≠ k := by rintro rfl; exact g2 x hx e1
        simp only [if_neg this]; exact e3
      · exact ⟨k, v, rfl, rfl, by simp⟩
    · intro q u hq
      by_cases e : q = k
      · subst e
        exact ⟨⟨.string q, .int .i64 v, clock⟩, by simp, rfl⟩
      · rw [if_neg e] at hq
        obtain ⟨x, hx, hk⟩ := h2 q u hq
        exact ⟨x, by simp [Array.toList_push]; exact Or.inl (by simpa using hx), hk⟩
    · intro i j' x y hx hy hxy
      rw [Array.getElem?_push] at hx hy
      by_cases e1 : i = es.size
      · by_cases e2 : j' = es.size
        · omega
        · rw [if_pos e1] at hx
          rw [if_neg e2] at hy
          have hm : y ∈ es.toList := by rw [← Array.mem_def]; exact Array.mem_of_getElem? hy
          cases hx
          exact absurd hxy.symm (g2 y hm)
      · by_cases e2 : j' = es.size
        · rw [if_neg e1] at hx
          rw [if_pos e2] at hy
          have hm : x ∈ es.toList := by rw [← Array.mem_def]; exact Array.mem_of_getElem? hx
          cases hy
          exact absurd hxy (g2 x hm)
        · rw [if_neg e1] at hx
          rw [if_neg e2] at hy
          exact h3 i j' x y hx hy hxy
  · have hj : es[j]? = some e := by simpa using g2
    refine ⟨{ w with heap := w.heap.setIfInBounds r (.map (es.modify j fun x => { x with key := .string k, val := .int .i64 v }) clock) }, ?_, ⟨_, _, (MapKept.heap_set hb).1, ?_, ?_, ?_⟩, rfl, rfl, rfl, by simp, fun q hq => (MapKept.heap_set hb).2 q hq⟩
    · simp [Instr.mapUpdate, run_underlying hm, MapKept.run_getObj_map hb, MapKept.run_checkKey hd (isKey_str k), MapKept.run_findKey hd g1, hj, g3, MapKept.run_keyThatStays (isKey_str k), MapKept.run_setObj_map _ hb, Result.andThen]
    · intro x hx
      obtain ⟨i, hi, rfl⟩ := List.mem_iff_getElem.1 hx
      have hi' : i < es.size := by simpa using hi
      simp only [Array.getElem_toList, Array.getElem_modify]
      by_cases e' : j = i
      · subst e'
        simp only [if_true]
        exact ⟨k, v, rfl, rfl, by simp⟩
      · simp only [if_neg e']
        obtain ⟨k', v', e1, e2, e3⟩ := h1 es[i] (by simp)
        have ek : k' ≠ k := by
          rintro rfl
          exact e' (h3 j i e es[i] hj (Array.getElem?_eq_getElem hi') (g3.trans e1.symm))
        exact ⟨k', v', e1, e2, by rw [if_neg ek]; exact e3⟩
    · intro q u hq
      have hj' : j < es.size := (Array.getElem?_eq_some_iff.1 hj).1
      by_cases e' : q = k
      · subst e'
        refine ⟨(es.modify j fun x => { x with key := .string q, val := .int .i64 v })[j]'(by simpa using hj'), ?_, ?_⟩
        · rw [← Array.mem_def]; exact Array.getElem_mem _
        · rw [Array.getElem_modify]; simp
      · rw [if_neg e'] at hq
        obtain ⟨x, hx, hk⟩ := h2 q u hq
        obtain ⟨i, hi, rfl⟩ := List.mem_iff_getElem.1 hx
        have hi' : i < es.size := by simpa using hi
        have hij : j ≠ i := by
          rintro rfl
          rw [Array.getElem_toList] at hk
          rw [Array.getElem?_eq_getElem hi'] at hj
          cases hj
          rw [g3] at hk
          cases hk
          exact e' rfl
        refine ⟨(es.modify j fun x => { x with key := .string k, val := .int .i64 v })[i]'(by simpa using hi'), ?_, ?_⟩
        · rw [← Array.mem_def]; exact Array.getElem_mem _
        · rw [Array.getElem_modify, if_neg hij]; simpa using hk
    · have hkey : ∀ (i : Nat) (x : MapEntry), (es.modify j fun x => { x with key := .string k, val := .int .i64 v })[i]? = some x → ∃ y, es[i]? = some y ∧ x.key = y.key := by
        intro i x hx
        obtain ⟨hi, rfl⟩ := Array.getElem?_eq_some_iff.1 hx
        have hi' : i < es.size := by simpa using hi
        refine ⟨es[i], Array.getElem?_eq_getElem hi', ?_⟩
        rw [Array.getElem_modify]
        by_cases e' : j = i
        · subst e'
          rw [Array.getElem?_eq_getElem hi'] at hj
          cases hj
          simp [g3]
        · rw [if_neg e']
      intro i j' x y hx hy hxy
      obtain ⟨x', hx', ex⟩ := hkey i x hx
      obtain ⟨y', hy', ey⟩ := hkey j' y hy
      exact h3 i j' x' y' hx' hy' (ex.symm.trans (hxy.trans ey))

end Go.Proofs.YtoadlpdnpijnbaaDoor

namespace Go.Proofs.YtoadlpdnpijnbaaDoor
namespace Gate

/-- A letter and a number in decimals. -/
def numbered (l : ByteArray) (n : Nat) : ByteArray := l ++ ⟨(Lib.decDigits n).toArray⟩

def decVal (l : List UInt8) : Nat := l.foldl (fun a c => 10 * a + (c.toNat - 48)) 0

theorem digit_toNat {u : Nat} (h : u < 10) : (UInt8.ofNat (48 + u)).toNat - 48 = u := by
  rw [UInt8.toNat_ofNat']
  omega

theorem decVal_dec (u : Nat) : decVal (Lib.decDigits u) = u := by
  induction u using Nat.strongRecOn with
  | _ u ih =>
    rw [Lib.decDigits]
    split
    · rename_i h
      show 10 * 0 + ((UInt8.ofNat (48 + u)).toNat - 48) = u
      rw [digit_toNat h]; omega
    · rename_i h
      unfold decVal
      rw [List.foldl_append]
      show 10 * decVal (Lib.decDigits (u / 10)) + ((UInt8.ofNat (48 + u % 10)).toNat - 48) = u
      rw [ih (u / 10) (by omega), digit_toNat (by omega)]
      omega

theorem numbered_inj {l : ByteArray} {n m : Nat} (h : numbered l n = numbered l m) : n = m := by
  have h1 : (numbered l n).data.toList = (numbered l m).data.toList := by rw [h]
  unfold numbered at h1
  rw [ByteArray.data_append, ByteArray.data_append, Array.toList_append, Array.toList_append] at h1
  have h2 := List.append_cancel_left h1
  rw [← decVal_dec n, ← decVal_dec m]
  exact congrArg decVal (by simpa using h2)

/-- As many names of a letter as a list holds it is long. -/
theorem numbered_le {l : ByteArray} : ∀ (k : Nat) (L : List ByteArray), (∀ j, j < k → numbered l j ∈ L) → k ≤ L.length
  | 0, _, _ => Nat.zero_le _
  | k + 1, L, h => by
    have hm := h k (by omega)
    obtain ⟨A, B, rfl⟩ := List.append_of_mem hm
    have ih := numbered_le k (A ++ B) fun j hj => by
      have hj1 := h j (by omega)
      rw [List.mem_append, List.mem_cons] at hj1
      rw [List.mem_append]
      rcases hj1 with h1 | h1 | h1
      · exact Or.inl h1
      · have := numbered_inj h1; omega
      · exact Or.inr h1
    rw [List.length_append] at ih
    rw [List.length_append, List.length_cons]
    omega

/-- The number of the first name that a list lacks. -/
structure IsFree (l : ByteArray) (L : List ByteArray) (k : Nat) : Prop where
  no : numbered l k ∉ L
  ahead : ∀ j, j < k → numbered l j ∈ L

theorem IsFree.one {l : ByteArray} {L L' : List ByteArray} {k k' : Nat} (h : IsFree l L k) (h' : IsFree l L' k') (hL : ∀ s, s ∈ L ↔ s ∈ L') : k = k' := by
  rcases Nat.lt_trichotomy k k' with hlt | e | hlt
  · exact absurd ((hL _).2 (h'.ahead k hlt)) h.no
  · exact e
  · exact absurd ((hL _).1 (h.ahead k' hlt)) h'.no

end Gate
end Go.Proofs.YtoadlpdnpijnbaaDoor
