import Derived.WalkKit
import Derived.MapKept
import Derived.Laws.NewBlocks
import Derived.Laws.MakeOwn
import Derived.Laws.OwnMore
import Derived.Deep.Draws
namespace Go.Proofs.YtimhinpekngceaaDoor
open Go.RowKit

theorem alloc_set (w : World) (o o' : Obj) : { (w.alloc o) with heap := (w.alloc o).heap.setIfInBounds w.heap.size o' } = w.alloc o' := by
  show ({ w with heap := (w.heap.push o).setIfInBounds w.heap.size o' } : World) = { w with heap := w.heap.push o' }
  congr 1
  apply Array.ext_getElem?
  intro i
  simp only [Array.getElem?_setIfInBounds, Array.getElem?_push, Array.size_push]
  by_cases h : w.heap.size = i
  · subst h; simp
  · rw [if_neg h, if_neg (fun e => h e.symm), if_neg (fun e => h e.symm)]

theorem alloc_at (w : World) (o : Obj) : (w.alloc o).heap[w.heap.size]? = some o := by
  show (w.heap.push o)[w.heap.size]? = some o
  simp

/-- A new key into a map that is the last block. -/
theorem run_update_last {P : Program} {mty kt et : TypeId} {d : TypeDesc} (hm : P.underlying mty = some (.map kt et)) (hd : P.underlying kt = some d) (key val : Value) (hk : MapKept.IsKey d key)
    (es : Array MapEntry) (clock : Nat) (hf : Instr.findNow d key es.toList 0 = some none) (w : World) :
    (Instr.mapUpdate mty (.map (some w.heap.size)) key val).run P (w.alloc (.map es clock)) = .ok () (w.alloc (.map (es.push ⟨key, val, clock⟩) (clock + 1))) := by
  have hb := alloc_at w (.map es clock)
  have hc := MapKept.run_checkKey (P := P) (w := w.alloc (.map es clock)) hd hk false 9999
  simp [Instr.mapUpdate, run_underlying hm, MapKept.run_getObj_map hb, hc, MapKept.run_findKey hd hf, MapKept.run_setObj_map _ hb, Result.andThen, ← alloc_set w (.map es clock) (.map (es.push ⟨key, val, clock⟩) (clock + 1))]

theorem run_lookup_hit {P : Program} {mty kt et : TypeId} {d : TypeDesc} (hm : P.underlying mty = some (.map kt et)) (hd : P.underlying kt = some d) (key val : Value) (hk : MapKept.IsKey d key)
    (es : Array MapEntry) (clock i : Nat) (hf : Instr.findNow d key es.toList 0 = some (some (i, val))) (w : World) (r : Nat) (hb : w.heap[r]? = some (.map es clock)) :
    (Instr.lookup mty (.map (some r)) key true).run P w = .ok (.tuple #[val, .bool true]) w := by
  have hc := MapKept.run_checkKey (P := P) (w := w) hd hk es.isEmpty 9999
  simp [Instr.lookup, run_underlying hm, MapKept.run_getObj_map hb, hc, MapKept.run_findKey hd hf, Result.andThen]

theorem run_lookup_miss {P : Program} {mty kt et : TypeId} {d : TypeDesc} (hm : P.underlying mty = some (.map kt et)) (hd : P.underlying kt = some d) (key z : Value) (hk : MapKept.IsKey d key)
    (es : Array MapEntry) (clock : Nat) (hf : Instr.findNow d key es.toList 0 = some none) (w : World) (hz : (zeroValue et).run P w = .ok z w) (r : Nat) (hb : w.heap[r]? = some (.map es clock)) :
    (Instr.lookup mty (.map (some r)) key true).run P w = .ok (.tuple #[z, .bool false]) w := by
  have hc := MapKept.run_checkKey (P := P) (w := w) hd hk es.isEmpty 9999
  simp [Instr.lookup, run_underlying hm, MapKept.run_getObj_map hb, hc, MapKept.run_findKey hd hf, hz, Result.andThen]

end Go.Proofs.YtimhinpekngceaaDoor

namespace Go.Proofs.YtimhinpekngceaaDoor
open Go.RowKit

/-- A slice of strings that lies in memory: its address, its strings. -/
structure StrsAt (w : World) (a : Option Addr) (ws : List ByteArray) : Prop where
  len : ws.length ≤ maxLen
  small : ∀ s ∈ ws, s.size ≤ maxLen
  cells : ws ≠ [] → ∃ b off, a = some ⟨b, off, none⟩ ∧ b < w.heap.size ∧ ∀ i (h : i < ws.length), w.cell? ⟨b, off + i, none⟩ = some (.string ws[i])

theorem StrsAt.mono {w w' : World} {a : Option Addr} {ws : List ByteArray} (h : StrsAt w a ws) (hb : Below w.heap.size w w') : StrsAt w' a ws :=
  ⟨h.len, h.small, fun hne => by
    obtain ⟨b, off, ha, hbs, hc⟩ := h.cells hne
    exact ⟨b, off, ha, Nat.lt_of_lt_of_le hbs hb.size, fun i hi => (hb.cell (p := ⟨b, off + i, none⟩) hbs).trans (hc i hi)⟩⟩

theorem bcell {W w1 : World} (hb : Below W.heap.size W w1) : (∀ b o, b < W.heap.size → w1.cell? ⟨b, o, none⟩ = W.cell? ⟨b, o, none⟩) ∧ (∀ b o, b < W.heap.size → w1.frozen? ⟨b, o, none⟩ = W.frozen? ⟨b, o, none⟩) :=
  ⟨fun b o h => hb.cell (p := ⟨b, o, none⟩) h, fun b o h => hb.frozen (p := ⟨b, o, none⟩) h⟩

/-- The cells of a row of strings. -/
def strArr (ws : List ByteArray) : Array Value := (ws.map Value.string).toArray
/-- The same, filled up to k. -/
def strCells (ws : List ByteArray) (k : Nat) : Array Value := ((ws.take k).map Value.string ++ List.replicate (ws.length - k) (Value.string ByteArray.empty)).toArray

theorem strCells_at (ws : List ByteArray) (k : Nat) (h : k < ws.length) : (strCells ws k)[k]? = some (.string ByteArray.empty) := by
  unfold strCells
  have hl : ((ws.take k).map Value.string).length = k := by simp; omega
  rw [List.getElem?_toArray, List.getElem?_append_right (by omega), hl, Nat.sub_self]
  obtain ⟨m, hm⟩ : ∃ m, ws.length - k = m + 1 := ⟨ws.length - k - 1, by omega⟩
  rw [hm, List.replicate_succ]; rfl

theorem strCells_set (ws : List ByteArray) (k : Nat) (h : k < ws.length) : (strCells ws k).setIfInBounds k (.string ws[k]) = strCells ws (k + 1) := by
  unfold strCells
  rw [List.setIfInBounds_toArray, List.set_append_right _ _ (by simp; omega)]
  congr 1
  rw [List.take_succ_eq_append_getElem h, List.map_append, List.append_assoc]
  congr 1
  obtain ⟨m, hm⟩ : ∃ m, ws.length - k = m + 1 := ⟨ws.length - k - 1, by omega⟩
  rw [hm, show ws.length - (k + 1) = m by omega]
  have : k - ((ws.take k).map Value.string).length = 0 := by simp; omega
  rw [this, List.replicate_succ]
  rfl

theorem strCells_all (ws : List ByteArray) (k : Nat) (h : ws.length ≤ k) : strCells ws k = strArr ws := by
  unfold strCells strArr
  rw [List.take_of_length_le h, show ws.length - k = 0 by omega]; simp

theorem strCells_zero (ws : List ByteArray) : madeCells #[Value.string ByteArray.empty] ws.length = strCells ws 0 := by
  apply Array.toList_inj.1
  rw [toList_madeCells_one]
  simp [strCells]

theorem strArr_at (w : World) (ws : List ByteArray) (t : TypeId) (h : ws.length ≤ maxLen) (hs : ∀ s ∈ ws, s.size ≤ maxLen) : StrsAt (w.alloc (.cells (strArr ws) t)) (some ⟨w.heap.size, 0, none⟩) ws :=
  ⟨h, hs, fun _ => ⟨w.heap.size, 0, rfl, by simp, fun i hi => by
    rw [World.cell?_alloc_at (hn := rfl)]
    simp [strArr, hi]⟩⟩

theorem heap_strs {w : World} {bk : Nat} {ws : List ByteArray} {t : TypeId} (h : w.heap[bk]? = some (.cells (strArr ws) t)) (hl : ws.length ≤ maxLen) (hs : ∀ s ∈ ws, s.size ≤ maxLen) : StrsAt w (some ⟨bk, 0, none⟩) ws :=
  ⟨hl, hs, fun _ => ⟨bk, 0, rfl, (Array.getElem?_eq_some_iff.1 h).1, fun i hi => by
    simp [World.cell?, h, strArr, hi]⟩⟩

theorem box_later {wk wl : World} {b : Nat} {X : Array Value} (h : ∀ o, wk.cell? ⟨b, o, none⟩ = X[o]?) (hb : b < wk.heap.size) (hl : Below wk.heap.size wk wl) : ∀ o, wl.cell? ⟨b, o, none⟩ = X[o]? :=
  fun o => (hl.cell (p := ⟨b, o, none⟩) hb).trans (h o)

theorem box_new (w : World) (X : Array Value) (t : TypeId) : ∀ o, (w.alloc (.cells X t)).cell? ⟨w.heap.size, o, none⟩ = X[o]? := fun _ => World.cell?_alloc_at _ _ _ _ rfl

theorem below_drewN {B : Nat} {a w : World} (h : Below B a w) (n : Nat) : Below B a (w.drewN n) := h.trans ⟨rfl, rfl, rfl, Nat.le_refl _, fun _ _ => rfl⟩
theorem below2' (w : World) (o o' : Obj) : Below w.heap.size w ((w.alloc o).alloc o') := ((Below.refl _ _).alloc (Nat.le_refl _) _).alloc (by simp) _
theorem as_bool {P : Program} {f : FuncId} {args : Array Value} {w : World} {b c : Bool} {R : World → Prop} (hb : b = c) (h : Calls P f args w fun e w' => e = .returned (.bool b) ∧ R w') : Calls P f args w fun e w' => e = .returned (.bool c) ∧ R w' := by
  subst hb; exact h

end Go.Proofs.YtimhinpekngceaaDoor
