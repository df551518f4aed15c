import Derived.Test.YtackfmeepggedaaDoorM31
namespace Go.Proofs.YtackfmeepggedaaDoor
open Go.RowKit

theorem calls_world {P : Program} {f : FuncId} {args : Array Value} {w : World} {Q : Ending → World → Prop} (R : World → Prop) (hR : R w) (h : ∀ w', R w' → Calls P f args w' Q) : Calls P f args w Q := h w hR
theorem below_a {w w' : World} {o : Obj} (h : Below (w.alloc o).heap.size (w.alloc o) w') : Below w.heap.size w w' := ((Below.refl _ _).alloc (Nat.le_refl _) _).trans (h.mono (by simp))
theorem below_n {a b c : World} (h : Below a.heap.size a b) (k : Below b.heap.size b c) : Below a.heap.size a c := h.trans (k.mono h.size)
theorem below_2 (w : World) (o p : Obj) : Below w.heap.size w ((w.alloc o).alloc p) := ((Below.refl _ _).alloc (Nat.le_refl _) _).alloc (by simp) _
theorem alloc_atG {w : World} {o : Obj} {n : Nat} (h : n = w.heap.size) : (w.alloc o).heap[n]? = some o := by subst h; exact (MapKept.heap_alloc w o).1
theorem at_2 (w : World) (o p : Obj) : ((w.alloc o).alloc p).heap[w.heap.size + 1]? = some p := by have h := (MapKept.heap_alloc (w.alloc o) p).1; simpa using h

set_option maxRecDepth 10000 in
set_option maxHeartbeats 8000000 in
theorem l11Law_any (w : World) :
    Calls Tryd.prog 54 #[] w fun e w' => ∃ s m g, e = .returned (.agg #[s, m, .slice (some ⟨g, 0, none⟩) 3 3]) ∧ w.heap.size ≤ g ∧ w'.heap[g]? = some (.cells #[.string ⟨#[100, 101, 118]⟩, .string ByteArray.empty, .string ⟨#[108, 97, 98]⟩, .string ⟨#[100, 101, 118]⟩, .string ⟨#[111, 112, 115]⟩, .string ByteArray.empty] 69) ∧ Below w.heap.size w w' := by
  go_enter Tryd.func54, Tryd.ntmps54
  go_wp2_with fail
  refine calls_world (fun W => W.heap[w.heap.size]? = some (.cells #[.slice none 0 0, .slice none 0 0, .slice none 0 0] 90) ∧ w.heap.size < W.heap.size ∧ Below w.heap.size w W) ⟨(MapKept.heap_alloc w _).1, by simp, (Below.refl _ _).alloc (Nat.le_refl _) _⟩ ?_
  rintro W0 ⟨r0, z0, b0⟩
  refine (l11Num_any _ _ _ _ _ _ _).mono ?_
  rintro e w1 ⟨rfl, b1⟩
  go_wp2_with fail
  refine (l11Word_any _ _ _ _ _ _).mono ?_
  rintro e w2 ⟨rfl, b2⟩
  have c2 := below_n b1 (below_a b2)
  clear b1 b2
  go_wp2_with fail
  refine calls_world (fun W => W.heap[w2.heap.size + 1]? = some (.cells #[.string ⟨#[98, 101, 114, 116, 104]⟩, .slice (some ⟨w2.heap.size, 0, none⟩) 2 2] 104) ∧ w2.heap.size + 1 < W.heap.size ∧ Below W0.heap.size W0 W) ⟨at_2 _ _ _, by simp, below_n c2 (below_2 _ _ _)⟩ ?_
  rintro W1 ⟨x1, y1, d1⟩
  have hz2 : W0.heap.size ≤ w2.heap.size := c2.size
  clear c2
  refine (l11Num_any _ _ _ _ _ _ _).mono ?_
  rintro e w3 ⟨rfl, b3⟩
  go_wp2_with fail
  refine (l11Word_any _ _ _ _ _ _).mono ?_
  rintro e w4 ⟨rfl, b4⟩
  go_wp2_with fail
  refine (l11Link_any _ _ _ _).mono ?_
  rintro e w5 ⟨rfl, b5⟩
  go_wp2_with fail
  refine (l11Link_any _ _ _ _).mono ?_
  rintro e w6 ⟨rfl, b6⟩
  go_wp2_with fail
  refine (l11Link_any _ _ _ _).mono ?_
  rintro e w7 ⟨rfl, b7⟩
  have c7 := below_n b3 (below_n (below_a b4) (below_n b5 (below_n b6 b7)))
  clear b3 b4 b5 b6 b7
  go_wp2_with fail
  refine calls_world (fun W => W.heap[w7.heap.size + 1]? = some (.cells #[.string ⟨#[106, 111, 98]⟩, .slice (some ⟨w7.heap.size, 0, none⟩) 5 5] 104) ∧ w7.heap.size + 1 < W.heap.size ∧ Below W1.heap.size W1 W) ⟨at_2 _ _ _, by simp, below_n c7 (below_2 _ _ _)⟩ ?_
  rintro W2 ⟨x2, y2, d2⟩
  have hz7 : W1.heap.size ≤ w7.heap.size := c7.size
  clear c7
  refine (l11Num_any _ _ _ _ _ _ _).mono ?_
  rintro e w8 ⟨rfl, b8⟩
  go_wp2_with fail
  refine (l11Word_any _ _ _ _ _ _).mono ?_
  rintro e w9 ⟨rfl, b9⟩
  have c9 := below_n b8 (below_a b9)
  have X1 := ((below_n d2 c9).block _ y1).trans x1
  have X2 := (c9.block _ y2).trans x2
  have X0 := ((below_n d1 (below_n d2 c9)).block _ z0).trans r0
  have HB : Hid (Below w.heap.size w w9) := below_n b0 (below_n d1 (below_n d2 c9)) |>.mono (by omega)
  have e1 := fun j => cell_of_block (o := j) X1
  have e2 := fun j => cell_of_block (o := j) X2
  have e0 := fun j => cell_of_block (o := j) X0
  have f0 := fun j => frozen_of_block (o := j) X0
  have q1 : w2.heap.size + 1 < w9.heap.size := Nat.lt_of_lt_of_le y1 (below_n d2 c9).size
  have q2 : w7.heap.size + 1 < w9.heap.size := Nat.lt_of_lt_of_le y2 c9.size
  have q0 : w.heap.size < w9.heap.size := Nat.lt_of_lt_of_le z0 (below_n d1 (below_n d2 c9)).size
  have gw20 : w2.heap.size < w9.heap.size := by omega
  have gw21 : w2.heap.size < w9.heap.size + 1 := by omega
  have gw22 : w2.heap.size < w9.heap.size + 1 + 1 := by omega
  have gw23 : w2.heap.size < w9.heap.size + 1 + 1 + 1 := by omega
  have gw24 : w2.heap.size < w9.heap.size + 1 + 1 + 1 + 1 := by omega
  have gw25 : w2.heap.size < w9.heap.size + 1 + 1 + 1 + 1 + 1 := by omega
  have gw70 : w7.heap.size < w9.heap.size := by omega
  have gw71 : w7.heap.size < w9.heap.size + 1 := by omega
  have gw72 : w7.heap.size < w9.heap.size + 1 + 1 := by omega
  have gw73 : w7.heap.size < w9.heap.size + 1 + 1 + 1 := by omega
  have gw74 : w7.heap.size < w9.heap.size + 1 + 1 + 1 + 1 := by omega
  have gw75 : w7.heap.size < w9.heap.size + 1 + 1 + 1 + 1 + 1 := by omega
  have gw0 : w.heap.size < w9.heap.size := by omega
  have gw1 : w.heap.size < w9.heap.size + 1 := by omega
  have gw2 : w.heap.size < w9.heap.size + 1 + 1 := by omega
  have gw3 : w.heap.size < w9.heap.size + 1 + 1 + 1 := by omega
  have gw4 : w.heap.size < w9.heap.size + 1 + 1 + 1 + 1 := by omega
  have gw5 : w.heap.size < w9.heap.size + 1 + 1 + 1 + 1 + 1 := by omega
  clear b8 b9 c9 x1 x2 r0 X0 X1 X2 d1 d2 b0 z0 y1 y2 hz2 hz7
  go_wp2_with fail
  refine bodyPost_ret (v := .agg #[.slice (some ⟨w9.heap.size + 1 + 1 + 1 + 1, 0, none⟩) 3 3, .slice (some ⟨w9.heap.size + 1 + 1, 0, none⟩) 3 3, .slice (some ⟨w9.heap.size + 1 + 1 + 1, 0, none⟩) 3 3]) (by simp [results, Tryd.results54, go_sem, e0, gw0, gw1, gw2, gw3, gw4]) rfl ⟨_, _, _, rfl, by omega, ?_, ?_⟩
  · exact (Below.heap_alloc _ _ _ (by simp)).trans (alloc_atG (by simp))
  · have h3 : w.heap.size ≤ w.heap.size := Nat.le_refl _
    iterate 5 refine Below.alloc ?_ (by first | (simp; omega) | simp) _
    iterate 3 refine Below.setCell ?_ h3 _
    exact HB.out

end Go.Proofs.YtackfmeepggedaaDoor
