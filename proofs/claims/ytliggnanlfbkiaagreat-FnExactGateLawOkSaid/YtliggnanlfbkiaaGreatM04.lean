import Derived.Test.YtliggnanlfbkiaaGreatM02
import Derived.Test.YtliggnanlfbkiaaGreatM01
import Derived.Deep.OwnRows
import Derived.MapKept
import Derived.Test.YtliggnanlfbkiaaGreatM03
namespace Go.Proofs.YtliggnanlfbkiaaGreat
open Go.RowKit

theorem heap_setCell_at {w : World} {b o : Nat} {C : Array Value} {t : TypeId} (h : w.heap[b]? = some (.cells C t)) (v : Value) : (w.setCell ⟨b, o, none⟩ v).heap[b]? = some (.cells (C.setIfInBounds o v) t) := by
  simp [World.setCell, Array.getElem?_modify, h]

theorem cell_of_block {w : World} {b o : Nat} {C : Array Value} {t : TypeId} (h : w.heap[b]? = some (.cells C t)) : w.cell? ⟨b, o, none⟩ = C[o]? := by simp [World.cell?, h]
theorem frozen_of_block {w : World} {b o : Nat} {C : Array Value} {t : TypeId} (h : w.heap[b]? = some (.cells C t)) : w.frozen? ⟨b, o, none⟩ = false := by simp [World.frozen?, h]

/-- Eleven cells stored one behind the other. -/
def put11 (w : World) (b o : Nat) (v0 v1 v2 v3 v4 v5 v6 v7 v8 v9 v10 : Value) : World := ((((((((((w.setCell ⟨b, o, none⟩ v0).setCell ⟨b, o + 1, none⟩ v1).setCell ⟨b, o + 2, none⟩ v2).setCell ⟨b, o + 3, none⟩ v3).setCell ⟨b, o + 4, none⟩ v4).setCell ⟨b, o + 5, none⟩ v5).setCell ⟨b, o + 6, none⟩ v6).setCell ⟨b, o + 7, none⟩ v7).setCell ⟨b, o + 8, none⟩ v8).setCell ⟨b, o + 9, none⟩ v9).setCell ⟨b, o + 10, none⟩ v10
def set11 (C : Array Value) (o : Nat) (v0 v1 v2 v3 v4 v5 v6 v7 v8 v9 v10 : Value) : Array Value := ((((((((((C.setIfInBounds o v0).setIfInBounds (o + 1) v1).setIfInBounds (o + 2) v2).setIfInBounds (o + 3) v3).setIfInBounds (o + 4) v4).setIfInBounds (o + 5) v5).setIfInBounds (o + 6) v6).setIfInBounds (o + 7) v7).setIfInBounds (o + 8) v8).setIfInBounds (o + 9) v9).setIfInBounds (o + 10) v10

theorem put11_block {w : World} {b o : Nat} {C : Array Value} {t : TypeId} (h : w.heap[b]? = some (.cells C t)) (v0 v1 v2 v3 v4 v5 v6 v7 v8 v9 v10 : Value) : (put11 w b o v0 v1 v2 v3 v4 v5 v6 v7 v8 v9 v10).heap[b]? = some (.cells (set11 C o v0 v1 v2 v3 v4 v5 v6 v7 v8 v9 v10) t) :=
  heap_setCell_at (heap_setCell_at (heap_setCell_at (heap_setCell_at (heap_setCell_at (heap_setCell_at (heap_setCell_at (heap_setCell_at (heap_setCell_at (heap_setCell_at (heap_setCell_at h v0) v1) v2) v3) v4) v5) v6) v7) v8) v9) v10

theorem put11_below {B : Nat} {a w : World} (h : Below B a w) {b : Nat} (hb : B ≤ b) (o : Nat) (v0 v1 v2 v3 v4 v5 v6 v7 v8 v9 v10 : Value) : Below B a (put11 w b o v0 v1 v2 v3 v4 v5 v6 v7 v8 v9 v10) :=
  ((((((((((h.setCell hb v0).setCell hb v1).setCell hb v2).setCell hb v3).setCell hb v4).setCell hb v5).setCell hb v6).setCell hb v7).setCell hb v8).setCell hb v9).setCell hb v10

theorem put11_size (w : World) (b o : Nat) (v0 v1 v2 v3 v4 v5 v6 v7 v8 v9 v10 : Value) : (put11 w b o v0 v1 v2 v3 v4 v5 v6 v7 v8 v9 v10).heap.size = w.heap.size := by simp [put11, World.setCell]

theorem put11_other (w : World) (b o b' : Nat) (hb : b' ≠ b) (v0 v1 v2 v3 v4 v5 v6 v7 v8 v9 v10 : Value) : (put11 w b o v0 v1 v2 v3 v4 v5 v6 v7 v8 v9 v10).heap[b']? = w.heap[b']? := by
  unfold put11
  iterate 11 rw [Below.heap_setCell _ _ _ _ hb]

theorem set11_size (C : Array Value) (o : Nat) (v0 v1 v2 v3 v4 v5 v6 v7 v8 v9 v10 : Value) : (set11 C o v0 v1 v2 v3 v4 v5 v6 v7 v8 v9 v10).size = C.size := by simp [set11]

theorem set11_out (C : Array Value) (o i : Nat) (v0 v1 v2 v3 v4 v5 v6 v7 v8 v9 v10 : Value) (h : i < o ∨ o + 11 ≤ i) : (set11 C o v0 v1 v2 v3 v4 v5 v6 v7 v8 v9 v10)[i]? = C[i]? := by
  unfold set11
  iterate 11 rw [Array.getElem?_setIfInBounds, if_neg (by omega)]

theorem set11_in (C : Array Value) (o j : Nat) (v0 v1 v2 v3 v4 v5 v6 v7 v8 v9 v10 : Value) (hj : j < 11) (ho : o + 11 ≤ C.size) : (set11 C o v0 v1 v2 v3 v4 v5 v6 v7 v8 v9 v10)[o + j]? = (#[v0, v1, v2, v3, v4, v5, v6, v7, v8, v9, v10] : Array Value)[j]? := by
  have hc : j = 0 ∨ j = 1 ∨ j = 2 ∨ j = 3 ∨ j = 4 ∨ j = 5 ∨ j = 6 ∨ j = 7 ∨ j = 8 ∨ j = 9 ∨ j = 10 := by omega
  unfold set11
  rcases hc with h | h | h | h | h | h | h | h | h | h | h <;> subst h <;> simp [Array.getElem?_setIfInBounds] <;> omega

end Go.Proofs.YtliggnanlfbkiaaGreat

namespace Go.Proofs.YtliggnanlfbkiaaGreat
open Go.RowKit

set_option maxHeartbeats 400000 in
theorem toStringS_any (a : Option Addr) (cap : Nat) (ws : List ByteArray) (w : World) (hw : StrsAt w a ws) (hl : ws.length ≤ 1048576) :
    Calls Tryz.prog 87 #[.slice a ws.length cap] w fun e w' => e = .returned (.slice (some ⟨w.heap.size, 0, none⟩) ws.length ws.length) ∧ w' = w.alloc (.cells (strArr ws) 9) := by
  have hmk : ∀ w : World, (Instr.makeSlice 61 (.int .i64 ws.length) (.int .i64 ws.length)).run Tryz.prog w = .ok (.slice (some ⟨w.heap.size, 0, none⟩) ws.length ws.length) (w.alloc (.cells (strCells ws 0) 9)) := by
    intro w
    have h := run_make_row' (P := Tryz.prog) 61 9 (.string ByteArray.empty) 16 Tryz.underlying61 (by kernel_rfl) rfl .i64 .i64 ws.length (by omega) (by omega) w
    rw [strCells_zero] at h
    exact h
  go_enter Tryz.func87, Tryz.ntmps87
  go_wp2
  clear hmk
  go_loopw [4] (fun i wr => ∃ k : Nat, k ≤ ws.length ∧ i = .int .i64 k ∧ wr = w.alloc (.cells (strCells ws k) 9)) (fun i _ => ws.length - (intOf i).toNat)
  case atStart => exact ⟨0, Nat.zero_le _, rfl, rfl⟩
  case round =>
    obtain ⟨k, hk, rfl, rfl⟩ := hrel
    by_cases hlt : k < ws.length
    · obtain ⟨b, off, rfl, hb, hc⟩ := hw.cells (by rintro rfl; simp at hlt)
      clear hw
      have hck := hc k hlt
      have hold := strCells_at ws k hlt
      have HS := hid (strCells_set ws k hlt)
      clear hc
      go_wp2
      go_roundw
      case rel => exact ⟨k + 1, by omega, by go_num, by rw [HS.out]⟩
      case measure => simp [intOf]; omega
    · have HA := hid (strCells_all ws k (by omega))
      clear hw
      go_wp2
      go_ret
      exact ⟨rfl, by rw [HA.out]⟩

theorem below4 (w : World) (o1 o2 o3 o4 : Obj) : Below w.heap.size w ((((w.alloc o1).alloc o2).alloc o3).alloc o4) :=
  ((((Below.refl _ _).alloc (Nat.le_refl _) _).alloc (by simp) _).alloc (by simp; omega) _).alloc (by simp; omega) _

theorem at4 (w : World) (o1 o2 o3 o4 : Obj) : ((((w.alloc o1).alloc o2).alloc o3).alloc o4).heap[w.heap.size + 1 + 1 + 1]? = some o4 := by
  have h := MapKept.heap_alloc (((w.alloc o1).alloc o2).alloc o3) o4
  simpa using h.1

set_option maxHeartbeats 1000000 in
theorem toGateField_any (nm : ByteArray) (kd ls ms : Int) (a : Option Addr) (cap : Nat) (ws : List ByteArray) (to : ByteArray) (rl : Int) (mu fx : Bool) (df wg : ByteArray) (w : World) (hw : StrsAt w a ws) (hl : ws.length ≤ 1048576) :
    Calls Tryz.prog 79 #[.agg #[.string nm, .int .i64 kd, .int .i64 ls, .int .i64 ms, .slice a ws.length cap, .string to, .int .i64 rl, .bool mu, .bool fx, .string df, .string wg]] w
      fun e w' => ∃ bk, e = .returned (.agg #[.string nm, .int .i64 kd, .int .i64 ls, .int .i64 ms, .slice (some ⟨bk, 0, none⟩) ws.length ws.length, .string to, .int .i64 rl, .bool mu, .bool fx, .string df, .string wg]) ∧
        w.heap.size ≤ bk ∧ bk < w'.heap.size ∧ w'.heap[bk]? = some (.cells (strArr ws) 9) ∧ Below w.heap.size w w' := by
  go_enter Tryz.func79, Tryz.ntmps79
  go_wp2_with (go_at_call 87; refine (toStringS_any _ _ _ _ (by exact hw.mono ((((Below.refl _ _).alloc (Nat.le_refl _) _).alloc (by simp) _).alloc (by simp; omega) _)) hl).mono ?_; rintro e w' ⟨rfl, rfl⟩)
  refine bodyPost_ret (v := .agg #[.string nm, .int .i64 kd, .int .i64 ls, .int .i64 ms, .slice (some ⟨w.heap.size + 1 + 1 + 1, 0, none⟩) ws.length ws.length, .string to, .int .i64 rl, .bool mu, .bool fx, .string df, .string wg]) (by simp [results, Tryz.results79, go_sem]) rfl ⟨w.heap.size + 1 + 1 + 1, rfl, by omega, by simp, at4 _ _ _ _ _, below4 _ _ _ _ _⟩

end Go.Proofs.YtliggnanlfbkiaaGreat

namespace Go.Proofs.YtliggnanlfbkiaaGreat
open Go.RowKit

structure FldsSmall (fs : List Fld) : Prop where
  small : ∀ i (h : i < fs.length), fs[i].Small ∧ fs[i].ws.length ≤ maxLen ∧ ∀ s ∈ fs[i].ws, s.size ≤ maxLen

theorem FldsAt.smalls {w : World} {a : Option Addr} {fs : List Fld} (h : FldsAt w a fs) : FldsSmall fs :=
  ⟨fun i hi => by
    obtain ⟨b, off, _, _, hr⟩ := h.rows (by rintro rfl; simp at hi)
    obtain ⟨wa, wcap, hf⟩ := hr i hi
    exact ⟨hf.small, hf.strs.len, hf.strs.small⟩⟩

structure ShpsSmall (ss : List Shp) : Prop where
  small : ∀ i (h : i < ss.length), ss[i].kd.size ≤ maxLen ∧ ss[i].fs.length ≤ maxLen ∧ FldsSmall ss[i].fs

theorem ShpsAt.smalls {w : World} {a : Option Addr} {ss : List Shp} (h : ShpsAt w a ss) : ShpsSmall ss :=
  ⟨fun i hi => by
    obtain ⟨b, off, _, _, hr⟩ := h.rows (by rintro rfl; simp at hi)
    obtain ⟨fa, fcap, hs⟩ := hr i hi
    exact ⟨hs.small, hs.flds.len, hs.flds.smalls⟩⟩

end Go.Proofs.YtliggnanlfbkiaaGreat
