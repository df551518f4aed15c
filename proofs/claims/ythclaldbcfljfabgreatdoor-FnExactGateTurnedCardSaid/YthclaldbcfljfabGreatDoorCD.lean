import Derived.Test.YthclaldbcfljfabGreatDoorCC
import Derived.Test.YthclaldbcfljfabGreatDoorAS
import Derived.Test.YthclaldbcfljfabGreatDoorTX
namespace Go.Proofs.YthclaldbcfljfabGreatDoor
open Go.RowKit

/-- The library's variable that the asking needs holds what start-up lays. -/
def Laid (w : World) : Prop := w.cell? ⟨0, 0, none⟩ = some (.iface 117 (.agg #[.pointer (some ⟨1, 55, none⟩)]))

theorem Laid.pos {w : World} (h : Laid w) : 0 < w.heap.size := by
  rcases Nat.eq_zero_or_pos w.heap.size with h0 | h1
  · unfold Laid at h; simp [World.cell?, h0] at h
  · exact h1
theorem Laid.mono {w w' : World} (h : Laid w) (hb : Below w.heap.size w w') : Laid w' := (hb.cell (p := ⟨0, 0, none⟩) h.pos).trans h

set_option maxHeartbeats 1000000 in
theorem toldBy_nil (w : World) : Calls Tryz.prog 19 #[.nilIface] w fun e w' => e = .returned (.tuple #[.int .i64 0, .int .i64 0]) ∧ Below w.heap.size w w' := by
  go_enter Tryz.func19, Tryz.ntmps19
  go_wp2_with fail
  refine (Told.as_nil _ _).mono ?_
  rintro e w1 ⟨rfl, rfl⟩
  go_wp2_with fail
  go_ret2
  exact ⟨rfl, (Below.refl _ _).alloc (Nat.le_refl _) _⟩

set_option maxHeartbeats 1000000 in
theorem toldBy_hit (c p : Int) (w : World) (hL : Laid w) : Calls Tryz.prog 19 #[.iface 68 (.agg #[.int .i64 c, .int .i64 p])] w fun e w' => e = .returned (.tuple #[.int .i64 c, .int .i64 p]) ∧ Below w.heap.size w w' := by
  have HL : Hid (Laid (w.alloc (.cells #[.int .i64 0, .int .i64 0] 68))) := hL.mono ((Below.refl _ _).alloc (Nat.le_refl _) _)
  clear hL
  go_enter Tryz.func19, Tryz.ntmps19
  go_wp2_with fail
  refine (Told.as_hit c p _ (.int .i64 0) (.int .i64 0) _ HL.out (by simp) (by rw [World.cell?_alloc_at _ _ _ _ rfl]; rfl) (by rw [World.cell?_alloc_at _ _ _ _ rfl]; rfl) (by rw [World.frozen?_alloc_at _ _ _ _ rfl]) (by rw [World.frozen?_alloc_at _ _ _ _ rfl])).mono ?_
  rintro e w1 ⟨rfl, hw1⟩
  have hB : Below w.heap.size w w1 := by
    rw [hw1]
    exact ((((((((Below.refl _ _).alloc (Nat.le_refl _) _).alloc (by simp) _).alloc (by simp; omega) _).alloc (by simp; omega) _).alloc (by simp; omega) _)).setCell (Nat.le_refl _) _).setCell (Nat.le_refl _) _
  have hblk : w1.heap[w.heap.size]? = some (.cells ((#[.int .i64 0, .int .i64 0] : Array Value).setIfInBounds 0 (.int .i64 c) |>.setIfInBounds 1 (.int .i64 p)) 68) := by
    rw [hw1]
    refine heap_setCell_at (heap_setCell_at ?_ _) _
    exact ((((Below.refl (w.heap.size + 1) _).alloc (by simp) _).alloc (by simp) _).alloc (by simp) _ |>.alloc (by simp) _).block w.heap.size (by omega) |>.trans (alloc_at _ _)
  have hc0 : w1.cell? ⟨w.heap.size, 0, none⟩ = some (.int .i64 c) := by rw [cell_of_block hblk]; rfl
  have hc1 : w1.cell? ⟨w.heap.size, 1, none⟩ = some (.int .i64 p) := by rw [cell_of_block hblk]; rfl
  clear hblk
  clear hw1
  go_wp2_with fail
  go_quiet (fail)
  go_wp2_with fail
  go_ret2
  exact ⟨rfl, below_drewN hB _⟩

theorem valRes_zero {fs : List Fld} {vs : List ByteArray} (h : (Gate.valRes fs vs).1 = 0) : (Gate.valRes fs vs).2 = 0 := by
  unfold Gate.valRes at h ⊢
  cases hf : (List.range fs.length).find? (fun i => !Gate.valOkAt fs vs i) with
  | none => rfl
  | some i =>
    rw [hf] at h
    have hi := List.find?_some hf
    simp only [Gate.valOkAt, Bool.not_eq_true', decide_eq_false_iff_not] at hi
    exact absurd h hi
theorem checkRes_zero {ss : List Shp} {o : Ob} (h : (Gate.checkRes ss o).1 = 0) : (Gate.checkRes ss o).2 = 0 := by
  unfold Gate.checkRes at h ⊢
  split at h
  · rename_i hh; rw [if_pos hh]; exact valRes_zero h
  · cases h

theorem toldBy_any (ss : List Shp) (o : Ob) (w : World) (hL : Laid w) : Calls Tryz.prog 19 #[errO ss o] w fun e w' => e = .returned (.tuple #[.int .i64 (Gate.checkRes ss o).1, .int .i64 (Gate.checkRes ss o).2]) ∧ Below w.heap.size w w' := by
  by_cases h : (Gate.checkRes ss o).1 = 0
  · have h2 := checkRes_zero h
    unfold errO; rw [h, h2, errV_zero]; exact toldBy_nil w
  · unfold errO; rw [errV_of h]; exact toldBy_hit _ _ w hL

end Go.Proofs.YthclaldbcfljfabGreatDoor
