import Derived.Test.YtackfmeepggedaaDoorM20
import Derived.Laws.Rows
import Derived.Maps.AppendAt
namespace Go.Proofs.YtackfmeepggedaaDoor
open Go.RowKit

theorem alloc_box (w : World) (C : Array Value) (t : TypeId) {r p : Nat} (hr : RdAt w r p) : ∃ W, W = w.alloc (.cells C t) ∧ W.heap[w.heap.size]? = some (.cells C t) ∧ w.heap.size < W.heap.size ∧ RdAt W r p ∧ Dr r w W :=
  ⟨_, rfl, (MapKept.heap_alloc w _).1, by simp, hr.mono ((Below.refl _ _).alloc (Nat.le_refl _) _), dr_below ((Below.refl _ _).alloc (Nat.le_refl _) _)⟩
theorem calls_eq {P : Program} {f : FuncId} {args : Array Value} {w w' : World} {Q : Ending → World → Prop} (h : w' = w) (hc : Calls P f args w' Q) : Calls P f args w Q := h ▸ hc
theorem dr_set {r k o : Nat} {w w' : World} {v : Value} (h : Dr r w w') (hk : w.heap.size ≤ k) : Dr r w (w'.setCell ⟨k, o, none⟩ v) := Below.trans h (below_clr ((Below.refl w.heap.size w').setCell hk v))
theorem rd_set {r p k o : Nat} {w : World} {v : Value} (h : RdAt w r p) (hk : r < k) : RdAt (w.setCell ⟨k, o, none⟩ v) r p := h.keep (Below.setCell (Below.refl (r + 1) w) (show r + 1 ≤ k from hk) v)

set_option maxRecDepth 10000 in
set_option maxHeartbeats 1000000 in
theorem l4DrawAct_any (r p : Nat) (w : World) (hp : p ≤ 40000) (hr : RdAt w r p) :
    Calls Tryd.prog 28 #[.pointer (some ⟨r, 0, none⟩)] w fun e w' => ∃ x : Ac, e = .returned (.agg x.cells) ∧ x.Small ∧ RdAt w' r (p + 4) ∧ Dr r w w' := by
  have hlt := hr.lt
  go_enter Tryd.func28, Tryd.ntmps28
  go_wp2_with fail
  obtain ⟨W0, hW0, hk0, hz0, hr0, D0⟩ := alloc_box w #[.int .i64 0, .string ByteArray.empty, .string ByteArray.empty, .string ByteArray.empty] 32 hr
  refine calls_eq hW0 ?_
  clear hW0 hr
  refine (pick_any 8 r p W0 (by omega) (by omega) (by omega) hr0).mono ?_
  rintro e w1 ⟨k, rfl, hk, hr1, -, D1⟩
  go_wp2_with fail
  refine (ofLit [⟨#[106, 111, 98]⟩, ⟨#[118, 111, 108]⟩, ⟨#[107]⟩, ⟨#[]⟩, ⟨#[98, 101, 114, 116, 104]⟩] r (p + 1) _ (by simp) (by simp) (by simp +decide) (by omega) hr1).mono ?_
  rintro e w2 ⟨s1, rfl, hs1, hr2, D2⟩
  go_wp2_with fail
  refine (l4DrawTeam_any r (p + 1 + 1) w2 (by omega) hr2).mono ?_
  rintro e w3 ⟨s2, rfl, hs2, hr3, D3⟩
  go_wp2_with fail
  refine (ofLit [⟨#[98]⟩, ⟨#[98, 49]⟩, ⟨#[98, 49, 50]⟩, ⟨#[120]⟩, ⟨#[]⟩, ⟨#[99]⟩] r (p + 1 + 1 + 1) _ (by simp) (by simp) (by simp +decide) (by omega) hr3).mono ?_
  rintro e w4 ⟨s3, rfl, hs3, hr4, D4⟩
  have E := dr_trans D1 (dr_trans D2 (dr_trans D3 D4))
  have hb := (dr_block E hz0 (by omega)).trans hk0
  have cR := fun j => cell_of_block (o := j) hb
  have fR := fun j => frozen_of_block (o := j) hb
  have HF : Hid (RdAt w4 r (p + 4) ∧ Dr r w w4 ∧ w.heap.size < w4.heap.size) := ⟨hr4, dr_trans D0 E, Nat.lt_of_lt_of_le hz0 (dr_le E)⟩
  have hz4 := HF.out.2.2
  clear hb E D0 D1 D2 D3 D4 hr0 hr1 hr2 hr3 hr4 hk0
  go_wp2_with fail
  refine bodyPost_ret (v := .agg #[.int .i64 ((k : Int) - 1), .string s1, .string s2, .string s3]) (by simp [results, Tryd.results28, go_sem, cR]) rfl ⟨⟨(k : Int) - 1, s1, s2, s3⟩, rfl, ⟨by show s1.size ≤ maxLen; unfold maxLen; omega, by show s2.size ≤ maxLen; unfold maxLen; omega, by show s3.size ≤ maxLen; unfold maxLen; omega⟩, ?_, ?_⟩
  · iterate 4 refine rd_set ?_ hlt
    exact HF.out.1
  · iterate 4 refine dr_set ?_ (Nat.le_refl _)
    exact HF.out.2.1

end Go.Proofs.YtackfmeepggedaaDoor
