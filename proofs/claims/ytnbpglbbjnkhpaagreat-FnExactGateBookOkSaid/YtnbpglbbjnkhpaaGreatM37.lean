import Derived.Test.YtnbpglbbjnkhpaaGreatM25
import Derived.Test.YtnbpglbbjnkhpaaGreatM17
import Derived.Test.YtnbpglbbjnkhpaaGreatM14
import Derived.Test.YtnbpglbbjnkhpaaGreatM05
import Derived.Test.YtnbpglbbjnkhpaaGreatM18
import Derived.Deep.QuietTactic
import Derived.BigQuiet
namespace Go.Proofs.YtnbpglbbjnkhpaaGreat
open Go.RowKit

set_option maxHeartbeats 4000000 in
theorem toGateBook_own (b : Bk) (a0 a1 a2 a3 : Option Addr) (c0 c1 c2 c3 : Nat) (w : World) (hl : BkAt w b a0 a1 a2 a3) (hf : b.Few) :
    Calls Tryz.prog 8 #[.agg (b.cells a0 a1 a2 a3 c0 c1 c2 c3)] w fun e w' => ∃ lo g0 g1 g2 g3, e = .returned (.agg (b.cells (some ⟨g0, 0, none⟩) (some ⟨g1, 0, none⟩) (some ⟨g2, 0, none⟩) (some ⟨g3, 0, none⟩) b.os.length b.gs.length b.ls.length b.ps.length)) ∧ w.heap.size ≤ lo ∧ BkOwn lo w' b g0 g1 g2 g3 ∧ Below w.heap.size w w' := by
  have HL : Hid (BkAt w b a0 a1 a2 a3) := hl
  have HF : Hid b.Few := hf
  clear hl hf
  unfold Bk.cells
  go_enter Tryz.func8, Tryz.ntmps8
  go_wp2_with fail
  have k0 := blk3 w (.cells #[.int .i64 b.now, .int .i64 b.tick, .int .i64 b.given, .slice a0 b.os.length c0, .slice a1 b.gs.length c1, .slice a2 b.ls.length c2, .slice a3 b.ps.length c3] 32) (.cells #[.int .i64 0, .int .i64 0, .int .i64 0, .slice none 0 0, .slice none 0 0, .slice none 0 0, .slice none 0 0] 47) (.cells #[.int .i64 b.now, .int .i64 b.tick, .int .i64 b.given, .slice none 0 0, .slice none 0 0, .slice none 0 0, .slice none 0 0] 47)
  have hB0 := below3' w (.cells #[.int .i64 b.now, .int .i64 b.tick, .int .i64 b.given, .slice a0 b.os.length c0, .slice a1 b.gs.length c1, .slice a2 b.ls.length c2, .slice a3 b.ps.length c3] 32) (.cells #[.int .i64 0, .int .i64 0, .int .i64 0, .slice none 0 0, .slice none 0 0, .slice none 0 0, .slice none 0 0] 47) (.cells #[.int .i64 b.now, .int .i64 b.tick, .int .i64 b.given, .slice none 0 0, .slice none 0 0, .slice none 0 0, .slice none 0 0] 47)
  obtain ⟨W0, hW0⟩ : ∃ W0, W0 = ((w.alloc (.cells #[.int .i64 b.now, .int .i64 b.tick, .int .i64 b.given, .slice a0 b.os.length c0, .slice a1 b.gs.length c1, .slice a2 b.ls.length c2, .slice a3 b.ps.length c3] 32)).alloc (.cells #[.int .i64 0, .int .i64 0, .int .i64 0, .slice none 0 0, .slice none 0 0, .slice none 0 0, .slice none 0 0] 47)).alloc (.cells #[.int .i64 b.now, .int .i64 b.tick, .int .i64 b.given, .slice none 0 0, .slice none 0 0, .slice none 0 0, .slice none 0 0] 47) := ⟨_, rfl⟩
  have hz0 : w.heap.size + 1 + 1 < W0.heap.size := by rw [hW0]; simp
  rw [← hW0] at k0 hB0 ⊢
  clear hW0
  have HLO : Hid (w.heap.size + 1 + 1 < W0.heap.size) := hz0
  refine (toGateObjectS_any _ _ b.os _ (HL.out.os.mono hB0) HF.out.os.1 HF.out.os.2).mono ?_
  rintro e w1 ⟨rfl, hown, hb⟩
  obtain ⟨g0, hp'⟩ : ∃ g0, g0 = W0.heap.size := ⟨_, rfl⟩
  have HN1 : Hid (ObsOwn W0.heap.size w1 g0 b.os b.os.length) := by rw [hp']; exact hown
  have hX1 := (hb.block _ (by omega)).trans k0.1
  have hR1 := (hb.block _ (by omega)).trans k0.2.1
  have hO1 := (hb.block _ hz0).trans k0.2.2
  have HZ1 : Hid (W0.heap.size ≤ w1.heap.size) := hb.size
  have HB1 : Hid (Below w.heap.size w w1) := hB0.trans (hb.mono hB0.size)
  rw [← hp']
  clear hown hb k0 hB0 hz0 hp'
  have cO1 := fun j => cell_of_block (o := j) hO1
  have fO1 := fun j => frozen_of_block (o := j) hO1
  have HX1' : Hid ((w1.setCell ⟨w.heap.size + 1 + 1, 3, none⟩ (.slice (some ⟨g0, 0, none⟩) b.os.length b.os.length)).heap[w.heap.size]? = some (.cells #[.int .i64 b.now, .int .i64 b.tick, .int .i64 b.given, .slice a0 b.os.length c0, .slice a1 b.gs.length c1, .slice a2 b.ls.length c2, .slice a3 b.ps.length c3] 32)) := (setCell_other (by omega)).trans hX1
  have HR1' : Hid ((w1.setCell ⟨w.heap.size + 1 + 1, 3, none⟩ (.slice (some ⟨g0, 0, none⟩) b.os.length b.os.length)).heap[w.heap.size + 1]? = some (.cells #[.int .i64 0, .int .i64 0, .int .i64 0, .slice none 0 0, .slice none 0 0, .slice none 0 0, .slice none 0 0] 47)) := (setCell_other (by omega)).trans hR1
  have HO1' : Hid ((w1.setCell ⟨w.heap.size + 1 + 1, 3, none⟩ (.slice (some ⟨g0, 0, none⟩) b.os.length b.os.length)).heap[w.heap.size + 1 + 1]? = some (.cells #[.int .i64 b.now, .int .i64 b.tick, .int .i64 b.given, .slice (some ⟨g0, 0, none⟩) b.os.length b.os.length, .slice none 0 0, .slice none 0 0, .slice none 0 0] 47)) := heap_setCell_at hO1 _
  have HAB1 : Hid (Above W0.heap.size w1 (w1.setCell ⟨w.heap.size + 1 + 1, 3, none⟩ (.slice (some ⟨g0, 0, none⟩) b.os.length b.os.length))) := Above.setCell HLO.out _
  have HBB1 : Hid (Below w.heap.size w (w1.setCell ⟨w.heap.size + 1 + 1, 3, none⟩ (.slice (some ⟨g0, 0, none⟩) b.os.length b.os.length))) := HB1.out.setCell (by show w.heap.size ≤ w.heap.size + 1 + 1; omega) _
  have HZZ1 : Hid (W0.heap.size ≤ (w1.setCell ⟨w.heap.size + 1 + 1, 3, none⟩ (.slice (some ⟨g0, 0, none⟩) b.os.length b.os.length)).heap.size) := by unfold Hid; rw [World.size_setCell]; exact HZ1.out
  clear hX1 hR1 hO1
  have cX1 := fun j => cell_of_block (o := j) HX1'.out
  have cR1 := fun j => cell_of_block (o := j) HR1'.out
  have fR1 := fun j => frozen_of_block (o := j) HR1'.out
  have cOO1 := fun j => cell_of_block (o := j) HO1'.out
  go_wp2_with fail
  refine (toGateGrantS_any _ _ b.gs _ (HL.out.gs.mono HBB1.out) HF.out.gs.1 HF.out.gs.2).mono ?_
  rintro e w2 ⟨rfl, hown, hb⟩
  obtain ⟨g1, hp'⟩ : ∃ g1, g1 = (w1.setCell ⟨w.heap.size + 1 + 1, 3, none⟩ (.slice (some ⟨g0, 0, none⟩) b.os.length b.os.length)).heap.size := ⟨_, rfl⟩
  have HN2 : Hid (GrsOwn W0.heap.size w2 g1 b.gs b.gs.length) := by rw [hp']; exact hown.weaken HZZ1.out
  have HAA2 : Hid (Above W0.heap.size w1 w2) := HAB1.out.trans (Above.below hb)
  have hX2 := (hb.block _ (lt_of_some HX1'.out)).trans HX1'.out
  have hR2 := (hb.block _ (lt_of_some HR1'.out)).trans HR1'.out
  have hO2 := (hb.block _ (lt_of_some HO1'.out)).trans HO1'.out
  have HZ2 : Hid (W0.heap.size ≤ w2.heap.size) := Nat.le_trans HZZ1.out hb.size
  have HB2 : Hid (Below w.heap.size w w2) := HBB1.out.trans (hb.mono HBB1.out.size)
  rw [← hp']
  clear hown hb hp' cX1 cR1 fR1 cOO1
  have cO2 := fun j => cell_of_block (o := j) hO2
  have fO2 := fun j => frozen_of_block (o := j) hO2
  have HX2' : Hid ((w2.setCell ⟨w.heap.size + 1 + 1, 4, none⟩ (.slice (some ⟨g1, 0, none⟩) b.gs.length b.gs.length)).heap[w.heap.size]? = some (.cells #[.int .i64 b.now, .int .i64 b.tick, .int .i64 b.given, .slice a0 b.os.length c0, .slice a1 b.gs.length c1, .slice a2 b.ls.length c2, .slice a3 b.ps.length c3] 32)) := (setCell_other (by omega)).trans hX2
  have HR2' : Hid ((w2.setCell ⟨w.heap.size + 1 + 1, 4, none⟩ (.slice (some ⟨g1, 0, none⟩) b.gs.length b.gs.length)).heap[w.heap.size + 1]? = some (.cells #[.int .i64 0, .int .i64 0, .int .i64 0, .slice none 0 0, .slice none 0 0, .slice none 0 0, .slice none 0 0] 47)) := (setCell_other (by omega)).trans hR2
  have HO2' : Hid ((w2.setCell ⟨w.heap.size + 1 + 1, 4, none⟩ (.slice (some ⟨g1, 0, none⟩) b.gs.length b.gs.length)).heap[w.heap.size + 1 + 1]? = some (.cells #[.int .i64 b.now, .int .i64 b.tick, .int .i64 b.given, .slice (some ⟨g0, 0, none⟩) b.os.length b.os.length, .slice (some ⟨g1, 0, none⟩) b.gs.length b.gs.length, .slice none 0 0, .slice none 0 0] 47)) := heap_setCell_at hO2 _
  have HAB2 : Hid (Above W0.heap.size w2 (w2.setCell ⟨w.heap.size + 1 + 1, 4, none⟩ (.slice (some ⟨g1, 0, none⟩) b.gs.length b.gs.length))) := Above.setCell HLO.out _
  have HBB2 : Hid (Below w.heap.size w (w2.setCell ⟨w.heap.size + 1 + 1, 4, none⟩ (.slice (some ⟨g1, 0, none⟩) b.gs.length b.gs.length))) := HB2.out.setCell (by show w.heap.size ≤ w.heap.size + 1 + 1; omega) _
  have HZZ2 : Hid (W0.heap.size ≤ (w2.setCell ⟨w.heap.size + 1 + 1, 4, none⟩ (.slice (some ⟨g1, 0, none⟩) b.gs.length b.gs.length)).heap.size) := by unfold Hid; rw [World.size_setCell]; exact HZ2.out
  clear hX2 hR2 hO2
  have cX2 := fun j => cell_of_block (o := j) HX2'.out
  have cR2 := fun j => cell_of_block (o := j) HR2'.out
  have fR2 := fun j => frozen_of_block (o := j) HR2'.out
  have cOO2 := fun j => cell_of_block (o := j) HO2'.out
  go_wp2_with fail
  refine (toGateLedgerS_any _ _ b.ls _ (HL.out.ls.mono HBB2.out) HF.out.ls).mono ?_
  rintro e w3 ⟨rfl, hown, hb⟩
  obtain ⟨g2, hp'⟩ : ∃ g2, g2 = (w2.setCell ⟨w.heap.size + 1 + 1, 4, none⟩ (.slice (some ⟨g1, 0, none⟩) b.gs.length b.gs.length)).heap.size := ⟨_, rfl⟩
  have HN3 : Hid (LgsOwn W0.heap.size w3 g2 b.ls b.ls.length) := by rw [hp']; exact hown.weaken HZZ2.out
  have HAA3 : Hid (Above W0.heap.size w2 w3) := HAB2.out.trans (Above.below hb)
  have hX3 := (hb.block _ (lt_of_some HX2'.out)).trans HX2'.out
  have hR3 := (hb.block _ (lt_of_some HR2'.out)).trans HR2'.out
  have hO3 := (hb.block _ (lt_of_some HO2'.out)).trans HO2'.out
  have HZ3 : Hid (W0.heap.size ≤ w3.heap.size) := Nat.le_trans HZZ2.out hb.size
  have HB3 : Hid (Below w.heap.size w w3) := HBB2.out.trans (hb.mono HBB2.out.size)
  rw [← hp']
  clear hown hb hp' cX2 cR2 fR2 cOO2
  have cO3 := fun j => cell_of_block (o := j) hO3
  have fO3 := fun j => frozen_of_block (o := j) hO3
  have HX3' : Hid ((w3.setCell ⟨w.heap.size + 1 + 1, 5, none⟩ (.slice (some ⟨g2, 0, none⟩) b.ls.length b.ls.length)).heap[w.heap.size]? = some (.cells #[.int .i64 b.now, .int .i64 b.tick, .int .i64 b.given, .slice a0 b.os.length c0, .slice a1 b.gs.length c1, .slice a2 b.ls.length c2, .slice a3 b.ps.length c3] 32)) := (setCell_other (by omega)).trans hX3
  have HR3' : Hid ((w3.setCell ⟨w.heap.size + 1 + 1, 5, none⟩ (.slice (some ⟨g2, 0, none⟩) b.ls.length b.ls.length)).heap[w.heap.size + 1]? = some (.cells #[.int .i64 0, .int .i64 0, .int .i64 0, .slice none 0 0, .slice none 0 0, .slice none 0 0, .slice none 0 0] 47)) := (setCell_other (by omega)).trans hR3
  have HO3' : Hid ((w3.setCell ⟨w.heap.size + 1 + 1, 5, none⟩ (.slice (some ⟨g2, 0, none⟩) b.ls.length b.ls.length)).heap[w.heap.size + 1 + 1]? = some (.cells #[.int .i64 b.now, .int .i64 b.tick, .int .i64 b.given, .slice (some ⟨g0, 0, none⟩) b.os.length b.os.length, .slice (some ⟨g1, 0, none⟩) b.gs.length b.gs.length, .slice (some ⟨g2, 0, none⟩) b.ls.length b.ls.length, .slice none 0 0] 47)) := heap_setCell_at hO3 _
  have HAB3 : Hid (Above W0.heap.size w3 (w3.setCell ⟨w.heap.size + 1 + 1, 5, none⟩ (.slice (some ⟨g2, 0, none⟩) b.ls.length b.ls.length))) := Above.setCell HLO.out _
  have HBB3 : Hid (Below w.heap.size w (w3.setCell ⟨w.heap.size + 1 + 1, 5, none⟩ (.slice (some ⟨g2, 0, none⟩) b.ls.length b.ls.length))) := HB3.out.setCell (by show w.heap.size ≤ w.heap.size + 1 + 1; omega) _
  have HZZ3 : Hid (W0.heap.size ≤ (w3.setCell ⟨w.heap.size + 1 + 1, 5, none⟩ (.slice (some ⟨g2, 0, none⟩) b.ls.length b.ls.length)).heap.size) := by unfold Hid; rw [World.size_setCell]; exact HZ3.out
  clear hX3 hR3 hO3
  have cX3 := fun j => cell_of_block (o := j) HX3'.out
  have cR3 := fun j => cell_of_block (o := j) HR3'.out
  have fR3 := fun j => frozen_of_block (o := j) HR3'.out
  have cOO3 := fun j => cell_of_block (o := j) HO3'.out
  go_wp2_with fail
  refine (toGatePurseS_any _ _ b.ps _ (HL.out.ps.mono HBB3.out) HF.out.ps).mono ?_
  rintro e w4 ⟨rfl, hown, hb⟩
  obtain ⟨g3, hp'⟩ : ∃ g3, g3 = (w3.setCell ⟨w.heap.size + 1 + 1, 5, none⟩ (.slice (some ⟨g2, 0, none⟩) b.ls.length b.ls.length)).heap.size := ⟨_, rfl⟩
  have HN4 : Hid (PusOwn W0.heap.size w4 g3 b.ps b.ps.length) := by rw [hp']; exact hown.weaken HZZ3.out
  have HAA4 : Hid (Above W0.heap.size w3 w4) := HAB3.out.trans (Above.below hb)
  have hX4 := (hb.block _ (lt_of_some HX3'.out)).trans HX3'.out
  have hR4 := (hb.block _ (lt_of_some HR3'.out)).trans HR3'.out
  have hO4 := (hb.block _ (lt_of_some HO3'.out)).trans HO3'.out
  have HZ4 : Hid (W0.heap.size ≤ w4.heap.size) := Nat.le_trans HZZ3.out hb.size
  have HB4 : Hid (Below w.heap.size w w4) := HBB3.out.trans (hb.mono HBB3.out.size)
  rw [← hp']
  clear hown hb hp' cX3 cR3 fR3 cOO3
  have cO4 := fun j => cell_of_block (o := j) hO4
  have fO4 := fun j => frozen_of_block (o := j) hO4
  have HX4' : Hid ((w4.setCell ⟨w.heap.size + 1 + 1, 6, none⟩ (.slice (some ⟨g3, 0, none⟩) b.ps.length b.ps.length)).heap[w.heap.size]? = some (.cells #[.int .i64 b.now, .int .i64 b.tick, .int .i64 b.given, .slice a0 b.os.length c0, .slice a1 b.gs.length c1, .slice a2 b.ls.length c2, .slice a3 b.ps.length c3] 32)) := (setCell_other (by omega)).trans hX4
  have HR4' : Hid ((w4.setCell ⟨w.heap.size + 1 + 1, 6, none⟩ (.slice (some ⟨g3, 0, none⟩) b.ps.length b.ps.length)).heap[w.heap.size + 1]? = some (.cells #[.int .i64 0, .int .i64 0, .int .i64 0, .slice none 0 0, .slice none 0 0, .slice none 0 0, .slice none 0 0] 47)) := (setCell_other (by omega)).trans hR4
  have HO4' : Hid ((w4.setCell ⟨w.heap.size + 1 + 1, 6, none⟩ (.slice (some ⟨g3, 0, none⟩) b.ps.length b.ps.length)).heap[w.heap.size + 1 + 1]? = some (.cells #[.int .i64 b.now, .int .i64 b.tick, .int .i64 b.given, .slice (some ⟨g0, 0, none⟩) b.os.length b.os.length, .slice (some ⟨g1, 0, none⟩) b.gs.length b.gs.length, .slice (some ⟨g2, 0, none⟩) b.ls.length b.ls.length, .slice (some ⟨g3, 0, none⟩) b.ps.length b.ps.length] 47)) := heap_setCell_at hO4 _
  have HAB4 : Hid (Above W0.heap.size w4 (w4.setCell ⟨w.heap.size + 1 + 1, 6, none⟩ (.slice (some ⟨g3, 0, none⟩) b.ps.length b.ps.length))) := Above.setCell HLO.out _
  have HBB4 : Hid (Below w.heap.size w (w4.setCell ⟨w.heap.size + 1 + 1, 6, none⟩ (.slice (some ⟨g3, 0, none⟩) b.ps.length b.ps.length))) := HB4.out.setCell (by show w.heap.size ≤ w.heap.size + 1 + 1; omega) _
  have HZZ4 : Hid (W0.heap.size ≤ (w4.setCell ⟨w.heap.size + 1 + 1, 6, none⟩ (.slice (some ⟨g3, 0, none⟩) b.ps.length b.ps.length)).heap.size) := by unfold Hid; rw [World.size_setCell]; exact HZ4.out
  clear hX4 hR4 hO4
  have cX4 := fun j => cell_of_block (o := j) HX4'.out
  have cR4 := fun j => cell_of_block (o := j) HR4'.out
  have fR4 := fun j => frozen_of_block (o := j) HR4'.out
  have cOO4 := fun j => cell_of_block (o := j) HO4'.out
  go_wp2_with fail
  refine bodyPost_ret (v := .agg #[.int .i64 b.now, .int .i64 b.tick, .int .i64 b.given, .slice (some ⟨g0, 0, none⟩) b.os.length b.os.length, .slice (some ⟨g1, 0, none⟩) b.gs.length b.gs.length, .slice (some ⟨g2, 0, none⟩) b.ls.length b.ls.length, .slice (some ⟨g3, 0, none⟩) b.ps.length b.ps.length]) (by simp [results, Tryz.results8, go_sem, cR4]) rfl ⟨W0.heap.size, g0, g1, g2, g3, rfl, by have := HLO.out; omega, ?_, ?_⟩
  · have hlt1 : w.heap.size + 1 < W0.heap.size := by have := HLO.out; omega
    have hA4 : ∀ v0 v1 v2 v3 v4 v5 v6, Above W0.heap.size w4 ((((((((w4.setCell ⟨w.heap.size + 1 + 1, 6, none⟩ (.slice (some ⟨g3, 0, none⟩) b.ps.length b.ps.length)).setCell ⟨w.heap.size + 1, 0, none⟩ v0).setCell ⟨w.heap.size + 1, 1, none⟩ v1).setCell ⟨w.heap.size + 1, 2, none⟩ v2).setCell ⟨w.heap.size + 1, 3, none⟩ v3).setCell ⟨w.heap.size + 1, 4, none⟩ v4).setCell ⟨w.heap.size + 1, 5, none⟩ v5).setCell ⟨w.heap.size + 1, 6, none⟩ v6) := fun v0 v1 v2 v3 v4 v5 v6 => (((((((HAB4.out.trans (Above.setCell (p := ⟨w.heap.size + 1, 0, none⟩) hlt1 v0)).trans (Above.setCell (p := ⟨w.heap.size + 1, 1, none⟩) hlt1 v1)).trans (Above.setCell (p := ⟨w.heap.size + 1, 2, none⟩) hlt1 v2)).trans (Above.setCell (p := ⟨w.heap.size + 1, 3, none⟩) hlt1 v3)).trans (Above.setCell (p := ⟨w.heap.size + 1, 4, none⟩) hlt1 v4)).trans (Above.setCell (p := ⟨w.heap.size + 1, 5, none⟩) hlt1 v5)).trans (Above.setCell (p := ⟨w.heap.size + 1, 6, none⟩) hlt1 v6))
    exact ⟨HN1.out.above (((HAA2.out.trans HAA3.out).trans HAA4.out).trans (hA4 _ _ _ _ _ _ _)), HN2.out.above ((HAA3.out.trans HAA4.out).trans (hA4 _ _ _ _ _ _ _)), HN3.out.above (HAA4.out.trans (hA4 _ _ _ _ _ _ _)), HN4.out.above (hA4 _ _ _ _ _ _ _)⟩
  · exact ((((((HBB4.out.setCell (Nat.le_succ _) _).setCell (Nat.le_succ _) _).setCell (Nat.le_succ _) _).setCell (Nat.le_succ _) _).setCell (Nat.le_succ _) _).setCell (Nat.le_succ _) _).setCell (Nat.le_succ _) _

theorem toGateBook_any (b : Bk) (a0 a1 a2 a3 : Option Addr) (c0 c1 c2 c3 : Nat) (w : World) (hl : BkAt w b a0 a1 a2 a3) (hf : b.Few) :
    Calls Tryz.prog 8 #[.agg (b.cells a0 a1 a2 a3 c0 c1 c2 c3)] w fun e w' => ∃ a0' a1' a2' a3', e = .returned (.agg (b.cells a0' a1' a2' a3' b.os.length b.gs.length b.ls.length b.ps.length)) ∧ BkAt w' b a0' a1' a2' a3' ∧ Below w.heap.size w w' := by
  refine (toGateBook_own b a0 a1 a2 a3 c0 c1 c2 c3 w hl hf).mono ?_
  rintro e w' ⟨lo, g0, g1, g2, g3, he, _, ho, hb⟩
  exact ⟨_, _, _, _, he, ho.at hl.small, hb⟩

end Go.Proofs.YtnbpglbbjnkhpaaGreat

namespace Go.Proofs.YtnbpglbbjnkhpaaGreat
open Go.RowKit

/-- Objects in memory whose lists all lie somewhere. -/
structure ObsHas (w : World) (a : Option Addr) (ms : List Ob) : Prop where
  len : ms.length ≤ maxLen
  rows : ms ≠ [] → ∃ b off, a = some ⟨b, off, none⟩ ∧ b < w.heap.size ∧ ∀ i (h : i < ms.length), ∃ g0 g1 c0 c1, ObIn w b (off + i * 7) ms[i] (some ⟨g0, 0, none⟩) (some ⟨g1, 0, none⟩) c0 c1

theorem ObsHas.at {w : World} {a : Option Addr} {ms : List Ob} (h : ObsHas w a ms) : ObsAt w a ms :=
  ⟨h.len, fun hne => by
    obtain ⟨b, off, ha, hb, hr⟩ := h.rows hne
    refine ⟨b, off, ha, hb, fun i hi => ?_⟩
    obtain ⟨g0, g1, c0, c1, hf⟩ := hr i hi
    exact ⟨_, _, c0, c1, hf⟩⟩

theorem ObsHas.mono {w w' : World} {a : Option Addr} {ms : List Ob} (h : ObsHas w a ms) (hl : Below w.heap.size w w') : ObsHas w' a ms :=
  ⟨h.len, fun hne => by
    obtain ⟨b, off, ha, hb, hr⟩ := h.rows hne
    refine ⟨b, off, ha, Nat.lt_of_lt_of_le hb hl.size, fun i hi => ?_⟩
    obtain ⟨g0, g1, c0, c1, hf⟩ := hr i hi
    exact ⟨g0, g1, c0, c1, hf.mono hb hl⟩⟩

theorem ObsHas.load {w w' : World} {a : Option Addr} {ms : List Ob} (h : ObsHas w a ms) (hl : Below w.heap.size w w') (i : Nat) (hi : i < ms.length) : ∃ b off g0 g1 c0 c1, a = some ⟨b, off, none⟩ ∧ b < w.heap.size ∧ ms[i].Small ∧ StrsAt w' (some ⟨g0, 0, none⟩) ms[i].vs ∧ StrsAt w' (some ⟨g1, 0, none⟩) ms[i].hs ∧
    w'.cell? ⟨b, off + i * 7, none⟩ = some (.string ms[i].kd) ∧ w'.cell? ⟨b, off + i * 7 + 1, none⟩ = some (.string ms[i].nm) ∧ w'.cell? ⟨b, off + i * 7 + 2, none⟩ = some (.string ms[i].tm) ∧ w'.cell? ⟨b, off + i * 7 + 3, none⟩ = some (.slice (some ⟨g0, 0, none⟩) ms[i].vs.length c0) ∧ w'.cell? ⟨b, off + i * 7 + 4, none⟩ = some (.bool ms[i].en) ∧ w'.cell? ⟨b, off + i * 7 + 5, none⟩ = some (.slice (some ⟨g1, 0, none⟩) ms[i].hs.length c1) ∧ w'.cell? ⟨b, off + i * 7 + 6, none⟩ = some (.int .i64 ms[i].vr) := by
  obtain ⟨b, off, ha, hb, hr⟩ := h.rows (by rintro rfl; simp at hi)
  obtain ⟨g0, g1, c0, c1, hf0⟩ := hr i hi
  have hf := hf0.mono hb hl
  exact ⟨b, off, g0, g1, c0, c1, ha, hb, hf.small, hf.l0, hf.l1, hf.cell 0 (by omega), hf.cell 1 (by omega), hf.cell 2 (by omega), hf.cell 3 (by omega), hf.cell 4 (by omega), hf.cell 5 (by omega), hf.cell 6 (by omega)⟩

theorem ObsOwn.has {lo : Nat} {w : World} {bo : Nat} {ms : List Ob} (h : ObsOwn lo w bo ms ms.length) (hs : ObsSmall ms) (hl : ms.length ≤ maxLen) : ObsHas w (some ⟨bo, 0, none⟩) ms := by
  obtain ⟨C, hC, hsz, hr⟩ := h.rows
  refine ⟨hl, fun _ => ⟨bo, 0, rfl, (Array.getElem?_eq_some_iff.1 hC).1, fun i hi => ?_⟩⟩
  obtain ⟨g0, g1, _, _, hk0, _, _, hk1, hc⟩ := hr i hi hi
  obtain ⟨s0, s1, s2⟩ := hs.small i hi
  refine ⟨g0, g1, ms[i].vs.length, ms[i].hs.length, s0, heap_strs hk0 s1.1 s1.2, heap_strs hk1 s2.1 s2.2, fun j hj => ?_⟩
  rw [cell_of_block hC, Nat.zero_add]
  exact hc j hj

/-- A copied book's objects have their lists somewhere. -/
theorem toGateBook_has (b : Bk) (a0 a1 a2 a3 : Option Addr) (c0 c1 c2 c3 : Nat) (w : World) (hl : BkAt w b a0 a1 a2 a3) (hf : b.Few) :
    Calls Tryz.prog 8 #[.agg (b.cells a0 a1 a2 a3 c0 c1 c2 c3)] w fun e w' => ∃ a0' a1' a2' a3', e = .returned (.agg (b.cells a0' a1' a2' a3' b.os.length b.gs.length b.ls.length b.ps.length)) ∧ BkAt w' b a0' a1' a2' a3' ∧ ObsHas w' a0' b.os ∧ Below w.heap.size w w' := by
  refine (toGateBook_own b a0 a1 a2 a3 c0 c1 c2 c3 w hl hf).mono ?_
  rintro e w' ⟨lo, g0, g1, g2, g3, he, _, ho, hb⟩
  exact ⟨_, _, _, _, he, ho.at hl.small, ho.os.has hl.os.smalls hl.os.len, hb⟩

end Go.Proofs.YtnbpglbbjnkhpaaGreat

namespace Go.Proofs.YtnbpglbbjnkhpaaGreat
open Go.RowKit

theorem as_int {P : Program} {f : FuncId} {args : Array Value} {w : World} {b c : Int} {R : World → Prop} (hb : b = c) (h : Calls P f args w fun e w' => e = .returned (.int .i64 b) ∧ R w') : Calls P f args w fun e w' => e = .returned (.int .i64 c) ∧ R w' := by
  subst hb; exact h
theorem ret_str' {a b : ByteArray} (h : a = b) : Ending.returned (.string a) = .returned (.string b) := by rw [h]

theorem Gate.read_in {s : Shp} {ms : List Mnd} {p : Nat} (hrd : ∀ x ∈ Gate.readsI s ms p, 0 ≤ x ∧ x < s.fs.length) {m : Mnd} (hm : m ∈ ms) (ht : Gate.turns m s p = true) {v : ByteArray} (hv : v ∈ Gate.readNames m) : ∃ j : Nat, j < s.fs.length ∧ Gate.fieldIx s.fs v = (j : Int) := by
  have h := hrd (Gate.fieldIx s.fs v) (by
    unfold Gate.readsI; rw [List.mem_flatMap]; refine ⟨m, hm, ?_⟩; rw [if_pos ht]; exact List.mem_map.2 ⟨v, hv, rfl⟩)
  exact ⟨(Gate.fieldIx s.fs v).toNat, by omega, by omega⟩

set_option maxRecDepth 20000 in
set_option maxHeartbeats 8000000 in
theorem l3Decided_any (s : Shp) (ms : List Mnd) (o : Ob) (vs : List ByteArray) (p : Nat) (fa ma va ha : Option Addr) (fcap mcap vcap hcap : Nat) (w : World) (hf : FldsAt w fa s.fs) (hm : MndsAt w ma ms) (hv : StrsAt w va vs) (hc : vs.length = s.fs.length) (hp : p < s.fs.length) (hix : Gate.fieldIx s.fs s.fs[p].nm = (p : Int)) (hkd : o.kd = s.kd) (hrd : ∀ x ∈ Gate.readsI s ms p, 0 ≤ x ∧ x < s.fs.length) :
    Calls Tryz.prog 143 #[.slice fa s.fs.length fcap, .slice ma ms.length mcap, .agg #[.string o.kd, .string o.nm, .string o.tm, .slice va vs.length vcap, .bool o.en, .slice ha o.hs.length hcap, .int .i64 o.vr], .string s.fs[p].nm] w fun e w' => e = .returned (.string (Gate.decided s ms p vs)) ∧ Below w.heap.size w w' := by
  have hpv : p < vs.length := by omega
  have hl := hv.len
  have hml := hm.len
  unfold maxLen at hl hml
  obtain ⟨vb, voff, rfl, hvb, hcell⟩ := hv.cells (by rintro rfl; simp at hpv)
  have HH : Hid (FldsAt w fa s.fs ∧ MndsAt w ma ms ∧ vs.length = s.fs.length ∧ (∀ i (h : i < vs.length), w.cell? ⟨vb, voff + i, none⟩ = some (.string vs[i])) ∧ Gate.fieldIx s.fs s.fs[p].nm = (p : Int) ∧ o.kd = s.kd ∧ (∀ x ∈ Gate.readsI s ms p, 0 ≤ x ∧ x < s.fs.length)) := ⟨hf, hm, hc, hcell, hix, hkd, hrd⟩
  clear hf hm hv hc hcell hix hkd hrd
  go_enter Tryz.func143, Tryz.ntmps143
  go_wp2_with fail
  go_loopw [9] (fun iv wr => ∃ k : Nat, k ≤ ms.length ∧ iv = .int .i64 k ∧ (ms.take k).findSome? (Gate.gives s vs p) = none ∧ Below (w.heap.size + 1) (w.alloc (.cells #[.string o.kd, .string o.nm, .string o.tm, .slice (some ⟨vb, voff, none⟩) vs.length vcap, .bool o.en, .slice ha o.hs.length hcap, .int .i64 o.vr] 104)) wr) (fun iv _ => ms.length - (intOf iv).toNat)
  case atStart => exact ⟨0, Nat.zero_le _, rfl, rfl, Below.refl _ _⟩
  case round =>
    obtain ⟨k, hk, rfl, hnone, hBw⟩ := hrel
    have HB : Hid (Below w.heap.size w wr ∧ Below (w.heap.size + 1) (w.alloc (.cells #[.string o.kd, .string o.nm, .string o.tm, .slice (some ⟨vb, voff, none⟩) vs.length vcap, .bool o.en, .slice ha o.hs.length hcap, .int .i64 o.vr] 104)) wr) := ⟨((Below.refl _ _).alloc (Nat.le_refl _) _).trans (hBw.mono (by omega)), hBw⟩
    have hzr : w.heap.size < wr.heap.size := by have := hBw.size; simp at this; omega
    have hXr : ∀ j, wr.cell? ⟨w.heap.size, j, none⟩ = (#[.string o.kd, .string o.nm, .string o.tm, .slice (some ⟨vb, voff, none⟩) vs.length vcap, .bool o.en, .slice ha o.hs.length hcap, .int .i64 o.vr] : Array Value)[j]? := fun j => cell_of_block ((hBw.block w.heap.size (by omega)).trans (alloc_at _ _))
    have HV : Hid (∀ i (h : i < vs.length), wr.cell? ⟨vb, voff + i, none⟩ = some (.string vs[i])) := fun i h => (HB.out.1.cell (p := ⟨vb, voff + i, none⟩) hvb).trans (HH.out.2.2.2.1 i h)
    have hvz : vb < wr.heap.size := Nat.lt_of_lt_of_le hvb HB.out.1.size
    have HN : Hid ((ms.take k).findSome? (Gate.gives s vs p) = none) := hnone
    have HFm : Hid (∀ ob n, FldsAt ((wr.alloc ob).drewN n) fa s.fs) := fun ob n => (HH.out.1.mono HB.out.1).mono (below_drewN ((Below.refl _ _).alloc (Nat.le_refl _) _) n)
    have HFr : Hid (∀ n, FldsAt (wr.drewN n) fa s.fs) := fun n => (HH.out.1.mono HB.out.1).mono (below_drewN (Below.refl _ _) n)
    clear hnone hBw
    by_cases hlt : k < ms.length
    · obtain ⟨mb, moff, rfl, hmb, c0, c1, c2, c3, c4, c5⟩ := HH.out.2.1.load HB.out.1 k hlt
      have hltI : (k : Int) < (ms.length : Int) := by omega
      have hmz : mb < wr.heap.size := Nat.lt_of_lt_of_le hmb HB.out.1.size
      have HNX : Hid (Gate.gives s vs p ms[k] = none → (ms.take (k + 1)).findSome? (Gate.gives s vs p) = none) := by
        intro h
        rw [List.take_succ_eq_append_getElem hlt, List.findSome?_append, HN.out]
        simp [h]
      have HSX : Hid (∀ x, Gate.gives s vs p ms[k] = some x → Gate.decided s ms p vs = x) := by
        intro x h
        unfold Gate.decided
        have e : ms.findSome? (Gate.gives s vs p) = some x := by
          conv => lhs; rw [← List.take_append_drop k ms, List.drop_eq_getElem_cons hlt]
          rw [List.findSome?_append, HN.out, List.findSome?_cons, h]
          rfl
        rw [e]; rfl
      have HBE : Hid (∀ ob n, Below (w.heap.size + 1) (w.alloc (.cells #[.string o.kd, .string o.nm, .string o.tm, .slice (some ⟨vb, voff, none⟩) vs.length vcap, .bool o.en, .slice ha o.hs.length hcap, .int .i64 o.vr] 104)) ((wr.alloc ob).drewN n)) := fun ob n => HB.out.2.trans ((below_drewN ((Below.refl _ _).alloc (Nat.le_refl _) _) n).mono (by omega))
      have HBR : Hid (∀ ob n, Below w.heap.size w ((wr.alloc ob).drewN n)) := fun ob n => HB.out.1.trans ((below_drewN ((Below.refl _ _).alloc (Nat.le_refl _) _) n).mono (by omega))
      have HTU : Hid (Gate.turns ms[k] s p = ((ms[k].kd.toList == o.kd.toList) && (ms[k].fd.toList == s.fs[p].nm.toList))) := by
        rw [Hid, Gate.beq_toList, Gate.beq_toList, HH.out.2.2.2.2.2.1]; unfold Gate.turns; rw [Gate.getD_at s.fs p _ hp]
      clear HN
      by_cases hkd : (ms[k].kd.toList == o.kd.toList) = true
      rotate_left
      · have hkf : (ms[k].kd.toList == o.kd.toList) = false := by simpa using hkd
        have HG : Hid (Gate.gives s vs p ms[k] = none) := by unfold Hid Gate.gives; rw [if_neg]; rintro ⟨h, _⟩; rw [HTU.out, hkf] at h; simp at h
        clear hkd
        go_wp2_with fail
        go_quiet (fail)
        go_wp2_with fail
        exact ⟨⟨k + 1, by omega, by go_num, HNX.out HG.out, HBE.out _ _⟩, by simp [intOf]; omega⟩
      by_cases hfd : (ms[k].fd.toList == s.fs[p].nm.toList) = true
      rotate_left
      · have hff : (ms[k].fd.toList == s.fs[p].nm.toList) = false := by simpa using hfd
        have HG : Hid (Gate.gives s vs p ms[k] = none) := by unfold Hid Gate.gives; rw [if_neg]; rintro ⟨h, _⟩; rw [HTU.out, hff] at h; simp at h
        clear hfd
        go_wp2_with fail
        go_quiet (fail)
        go_wp2_with fail
        exact ⟨⟨k + 1, by omega, by go_num, HNX.out HG.out, HBE.out _ _⟩, by simp [intOf]; omega⟩
      have HT : Hid (Gate.turns ms[k] s p = true) := by rw [Hid, HTU.out, hkd, hfd]; rfl
      have HRD : Hid (∀ v ∈ Gate.readNames ms[k], ∃ j : Nat, j < s.fs.length ∧ Gate.fieldIx s.fs v = (j : Int)) := fun v hv => Gate.read_in HH.out.2.2.2.2.2.2 (List.getElem_mem hlt) HT.out hv
      by_cases hwh : ms[k].wh.toList.isEmpty = true
      · have HW : Hid (¬ (Gate.isSet ms[k].wh = true ∧ Gate.valAt s.fs vs ms[k].wh ≠ ms[k].wi)) := by rintro ⟨h, _⟩; unfold Gate.isSet at h; rw [hwh] at h; cases h
        by_cases hfr : ms[k].fr.toList.isEmpty = true
        · have HG : Hid (Gate.gives s vs p ms[k] = some ms[k].pt) := by
            unfold Hid Gate.gives; rw [if_pos ⟨HT.out, HW.out⟩, if_neg (by unfold Gate.isSet; rw [hfr]; simp)]
          go_wp2_with fail
          go_quiet (fail)
          go_wp2_with fail
          go_ret
          exact ⟨ret_str' (HSX.out _ HG.out).symm, HBR.out _ _⟩
        · have hfs : ms[k].fr.toList.isEmpty = false := by simpa using hfr
          have his : Gate.isSet ms[k].fr = true := by unfold Gate.isSet; rw [hfs]; rfl
          obtain ⟨jf, hjf, hjx⟩ := HRD.out ms[k].fr (by unfold Gate.readNames; simp [his])
          have HJF : Hid (Gate.fieldIx s.fs ms[k].fr = (jf : Int)) := hjx
          have hjv : jf < vs.length := by have := HH.out.2.2.1; omega
          have HVA : Hid (Gate.valAt s.fs vs ms[k].fr = vs[jf]) := by rw [Hid, Gate.valAt_of hjx, Gate.getD_at vs jf _ hjv]
          have cf := HV.out jf hjv
          have hjI : (jf : Int) < (vs.length : Int) := by omega
          have hj0 : (0 : Int) ≤ (jf : Int) := by omega
          clear hfr hjx
          by_cases hve : vs[jf].toList.isEmpty = true
          · have HG : Hid (Gate.gives s vs p ms[k] = none) := by
              unfold Hid Gate.gives; rw [if_pos ⟨HT.out, HW.out⟩, if_pos his, if_neg (by unfold Gate.isSet; rw [HVA.out, hve]; simp)]
            go_wp2_with fail
            go_quiet (fail)
            go_wp2_with fail
            obtain ⟨W5, hW5⟩ : ∃ W5, W5 = (wr.alloc (.cells #[.string ms[k].kd, .string ms[k].fd, .string ms[k].wh, .string ms[k].wi, .string ms[k].pt, .string ms[k].fr] 129)).drewN nq := ⟨_, rfl⟩
            have hb5 : Below wr.heap.size wr W5 := by rw [hW5]; exact below_drewN ((Below.refl _ _).alloc (Nat.le_refl _) _) _
            have hM5 : ∀ j, W5.cell? ⟨wr.heap.size, j, none⟩ = (#[.string ms[k].kd, .string ms[k].fd, .string ms[k].wh, .string ms[k].wi, .string ms[k].pt, .string ms[k].fr] : Array Value)[j]? := by rw [hW5]; exact box_new wr _ _
            have hm5 : wr.heap.size < W5.heap.size := by rw [hW5]; show wr.heap.size < (wr.alloc _).heap.size; simp
            have hX5 := box_later hXr hzr hb5
            have hz5 : w.heap.size < W5.heap.size := by omega
            have cf5 : W5.cell? ⟨vb, voff + jf, none⟩ = some (.string vs[jf]) := (hb5.cell (p := ⟨vb, voff + jf, none⟩) hvz).trans cf
            have hv5 : vb < W5.heap.size := by omega
            have HF5 : Hid (∀ n, FldsAt (W5.drewN n) fa s.fs) := fun n => ((HH.out.1.mono HB.out.1).mono hb5).mono (below_drewN (Below.refl _ _) n)
            have HE5 : Hid (Below (w.heap.size + 1) (w.alloc (.cells #[.string o.kd, .string o.nm, .string o.tm, .slice (some ⟨vb, voff, none⟩) vs.length vcap, .bool o.en, .slice ha o.hs.length hcap, .int .i64 o.vr] 104)) W5) := HB.out.2.trans (hb5.mono (by omega))
            have HR5 : Hid (Below w.heap.size w W5) := HB.out.1.trans (hb5.mono (by omega))
            rw [← hW5]
            clear hW5
            go_quiet ((go_at_call 138; exact Calls.quiet_of_same (as_int HJF.out (l3Field_any _ _ s.fs _ _ (by exact HF5.out _)))))
            go_wp2_with fail
            exact ⟨⟨k + 1, by omega, by go_num, HNX.out HG.out, below_drewN HE5.out _⟩, by simp [intOf]; omega⟩
          · have hvs : vs[jf].toList.isEmpty = false := by simpa using hve
            have HG : Hid (Gate.gives s vs p ms[k] = some vs[jf]) := by
              unfold Hid Gate.gives; rw [if_pos ⟨HT.out, HW.out⟩, if_pos his, if_pos (by unfold Gate.isSet; rw [HVA.out, hvs]; rfl), HVA.out]
            clear hve
            go_wp2_with fail
            go_quiet (fail)
            go_wp2_with fail
            obtain ⟨W5, hW5⟩ : ∃ W5, W5 = (wr.alloc (.cells #[.string ms[k].kd, .string ms[k].fd, .string ms[k].wh, .string ms[k].wi, .string ms[k].pt, .string ms[k].fr] 129)).drewN nq := ⟨_, rfl⟩
            have hb5 : Below wr.heap.size wr W5 := by rw [hW5]; exact below_drewN ((Below.refl _ _).alloc (Nat.le_refl _) _) _
            have hM5 : ∀ j, W5.cell? ⟨wr.heap.size, j, none⟩ = (#[.string ms[k].kd, .string ms[k].fd, .string ms[k].wh, .string ms[k].wi, .string ms[k].pt, .string ms[k].fr] : Array Value)[j]? := by rw [hW5]; exact box_new wr _ _
            have hm5 : wr.heap.size < W5.heap.size := by rw [hW5]; show wr.heap.size < (wr.alloc _).heap.size; simp
            have hX5 := box_later hXr hzr hb5
            have hz5 : w.heap.size < W5.heap.size := by omega
            have cf5 : W5.cell? ⟨vb, voff + jf, none⟩ = some (.string vs[jf]) := (hb5.cell (p := ⟨vb, voff + jf, none⟩) hvz).trans cf
            have hv5 : vb < W5.heap.size := by omega
            have HF5 : Hid (∀ n, FldsAt (W5.drewN n) fa s.fs) := fun n => ((HH.out.1.mono HB.out.1).mono hb5).mono (below_drewN (Below.refl _ _) n)
            have HE5 : Hid (Below (w.heap.size + 1) (w.alloc (.cells #[.string o.kd, .string o.nm, .string o.tm, .slice (some ⟨vb, voff, none⟩) vs.length vcap, .bool o.en, .slice ha o.hs.length hcap, .int .i64 o.vr] 104)) W5) := HB.out.2.trans (hb5.mono (by omega))
            have HR5 : Hid (Below w.heap.size w W5) := HB.out.1.trans (hb5.mono (by omega))
            rw [← hW5]
            clear hW5
            go_quiet ((go_at_call 138; exact Calls.quiet_of_same (as_int HJF.out (l3Field_any _ _ s.fs _ _ (by exact HF5.out _)))))
            go_wp2_with fail
            go_ret
            exact ⟨ret_str' (HSX.out _ HG.out).symm, below_drewN HR5.out _⟩
      · have hws : ms[k].wh.toList.isEmpty = false := by simpa using hwh
        have hisw : Gate.isSet ms[k].wh = true := by unfold Gate.isSet; rw [hws]; rfl
        obtain ⟨jw, hjw, hjx⟩ := HRD.out ms[k].wh (by unfold Gate.readNames; simp [hisw])
        have HJW : Hid (Gate.fieldIx s.fs ms[k].wh = (jw : Int)) := hjx
        have hjwv : jw < vs.length := by have := HH.out.2.2.1; omega
        have HVW : Hid (Gate.valAt s.fs vs ms[k].wh = vs[jw]) := by rw [Hid, Gate.valAt_of hjx, Gate.getD_at vs jw _ hjwv]
        have cw := HV.out jw hjwv
        have hjwI : (jw : Int) < (vs.length : Int) := by omega
        have hjw0 : (0 : Int) ≤ (jw : Int) := by omega
        clear hwh hjx
        by_cases hwe : (vs[jw].toList == ms[k].wi.toList) = true
        · have HW : Hid (¬ (Gate.isSet ms[k].wh = true ∧ Gate.valAt s.fs vs ms[k].wh ≠ ms[k].wi)) := by
            rintro ⟨_, h⟩; rw [HVW.out] at h; rw [Gate.beq_toList] at hwe; exact h (by simpa using hwe)
          by_cases hfr : ms[k].fr.toList.isEmpty = true
          · have HG : Hid (Gate.gives s vs p ms[k] = some ms[k].pt) := by
              unfold Hid Gate.gives; rw [if_pos ⟨HT.out, HW.out⟩, if_neg (by unfold Gate.isSet; rw [hfr]; simp)]
            go_wp2_with fail
            go_quiet ((go_at_call 138; exact Calls.quiet_of_same (as_int HJW.out (l3Field_any _ _ s.fs _ _ (by exact HFm.out _ _)))))
            go_wp2_with fail
            go_ret
            exact ⟨ret_str' (HSX.out _ HG.out).symm, HBR.out _ _⟩
          · have hfs : ms[k].fr.toList.isEmpty = false := by simpa using hfr
            have his : Gate.isSet ms[k].fr = true := by unfold Gate.isSet; rw [hfs]; rfl
            obtain ⟨jf, hjf, hjx⟩ := HRD.out ms[k].fr (by unfold Gate.readNames; simp [his])
            have HJF : Hid (Gate.fieldIx s.fs ms[k].fr = (jf : Int)) := hjx
            have hjv : jf < vs.length := by have := HH.out.2.2.1; omega
            have HVA : Hid (Gate.valAt s.fs vs ms[k].fr = vs[jf]) := by rw [Hid, Gate.valAt_of hjx, Gate.getD_at vs jf _ hjv]
            have cf := HV.out jf hjv
            have hjI : (jf : Int) < (vs.length : Int) := by omega
            have hj0 : (0 : Int) ≤ (jf : Int) := by omega
            clear hfr hjx
            by_cases hve : vs[jf].toList.isEmpty = true
            · have HG : Hid (Gate.gives s vs p ms[k] = none) := by
                unfold Hid Gate.gives; rw [if_pos ⟨HT.out, HW.out⟩, if_pos his, if_neg (by unfold Gate.isSet; rw [HVA.out, hve]; simp)]
              go_wp2_with fail
              go_quiet ((go_at_call 138; exact Calls.quiet_of_same (as_int HJW.out (l3Field_any _ _ s.fs _ _ (by exact HFm.out _ _)))))
              go_wp2_with fail
              obtain ⟨W5, hW5⟩ : ∃ W5, W5 = (wr.alloc (.cells #[.string ms[k].kd, .string ms[k].fd, .string ms[k].wh, .string ms[k].wi, .string ms[k].pt, .string ms[k].fr] 129)).drewN nq := ⟨_, rfl⟩
              have hb5 : Below wr.heap.size wr W5 := by rw [hW5]; exact below_drewN ((Below.refl _ _).alloc (Nat.le_refl _) _) _
              have hM5 : ∀ j, W5.cell? ⟨wr.heap.size, j, none⟩ = (#[.string ms[k].kd, .string ms[k].fd, .string ms[k].wh, .string ms[k].wi, .string ms[k].pt, .string ms[k].fr] : Array Value)[j]? := by rw [hW5]; exact box_new wr _ _
              have hm5 : wr.heap.size < W5.heap.size := by rw [hW5]; show wr.heap.size < (wr.alloc _).heap.size; simp
              have hX5 := box_later hXr hzr hb5
              have hz5 : w.heap.size < W5.heap.size := by omega
              have cf5 : W5.cell? ⟨vb, voff + jf, none⟩ = some (.string vs[jf]) := (hb5.cell (p := ⟨vb, voff + jf, none⟩) hvz).trans cf
              have hv5 : vb < W5.heap.size := by omega
              have HF5 : Hid (∀ n, FldsAt (W5.drewN n) fa s.fs) := fun n => ((HH.out.1.mono HB.out.1).mono hb5).mono (below_drewN (Below.refl _ _) n)
              have HE5 : Hid (Below (w.heap.size + 1) (w.alloc (.cells #[.string o.kd, .string o.nm, .string o.tm, .slice (some ⟨vb, voff, none⟩) vs.length vcap, .bool o.en, .slice ha o.hs.length hcap, .int .i64 o.vr] 104)) W5) := HB.out.2.trans (hb5.mono (by omega))
              have HR5 : Hid (Below w.heap.size w W5) := HB.out.1.trans (hb5.mono (by omega))
              rw [← hW5]
              clear hW5
              go_quiet ((go_at_call 138; exact Calls.quiet_of_same (as_int HJF.out (l3Field_any _ _ s.fs _ _ (by exact HF5.out _)))))
              go_wp2_with fail
              exact ⟨⟨k + 1, by omega, by go_num, HNX.out HG.out, below_drewN HE5.out _⟩, by simp [intOf]; omega⟩
            · have hvs : vs[jf].toList.isEmpty = false := by simpa using hve
              have HG : Hid (Gate.gives s vs p ms[k] = some vs[jf]) := by
                unfold Hid Gate.gives; rw [if_pos ⟨HT.out, HW.out⟩, if_pos his, if_pos (by unfold Gate.isSet; rw [HVA.out, hvs]; rfl), HVA.out]
              clear hve
              go_wp2_with fail
              go_quiet ((go_at_call 138; exact Calls.quiet_of_same (as_int HJW.out (l3Field_any _ _ s.fs _ _ (by exact HFm.out _ _)))))
              go_wp2_with fail
              obtain ⟨W5, hW5⟩ : ∃ W5, W5 = (wr.alloc (.cells #[.string ms[k].kd, .string ms[k].fd, .string ms[k].wh, .string ms[k].wi, .string ms[k].pt, .string ms[k].fr] 129)).drewN nq := ⟨_, rfl⟩
              have hb5 : Below wr.heap.size wr W5 := by rw [hW5]; exact below_drewN ((Below.refl _ _).alloc (Nat.le_refl _) _) _
              have hM5 : ∀ j, W5.cell? ⟨wr.heap.size, j, none⟩ = (#[.string ms[k].kd, .string ms[k].fd, .string ms[k].wh, .string ms[k].wi, .string ms[k].pt, .string ms[k].fr] : Array Value)[j]? := by rw [hW5]; exact box_new wr _ _
              have hm5 : wr.heap.size < W5.heap.size := by rw [hW5]; show wr.heap.size < (wr.alloc _).heap.size; simp
              have hX5 := box_later hXr hzr hb5
              have hz5 : w.heap.size < W5.heap.size := by omega
              have cf5 : W5.cell? ⟨vb, voff + jf, none⟩ = some (.string vs[jf]) := (hb5.cell (p := ⟨vb, voff + jf, none⟩) hvz).trans cf
              have hv5 : vb < W5.heap.size := by omega
              have HF5 : Hid (∀ n, FldsAt (W5.drewN n) fa s.fs) := fun n => ((HH.out.1.mono HB.out.1).mono hb5).mono (below_drewN (Below.refl _ _) n)
              have HE5 : Hid (Below (w.heap.size + 1) (w.alloc (.cells #[.string o.kd, .string o.nm, .string o.tm, .slice (some ⟨vb, voff, none⟩) vs.length vcap, .bool o.en, .slice ha o.hs.length hcap, .int .i64 o.vr] 104)) W5) := HB.out.2.trans (hb5.mono (by omega))
              have HR5 : Hid (Below w.heap.size w W5) := HB.out.1.trans (hb5.mono (by omega))
              rw [← hW5]
              clear hW5
              go_quiet ((go_at_call 138; exact Calls.quiet_of_same (as_int HJF.out (l3Field_any _ _ s.fs _ _ (by exact HF5.out _)))))
              go_wp2_with fail
              go_ret
              exact ⟨ret_str' (HSX.out _ HG.out).symm, below_drewN HR5.out _⟩
        · have hwf : (vs[jw].toList == ms[k].wi.toList) = false := by simpa using hwe
          have HG : Hid (Gate.gives s vs p ms[k] = none) := by
            unfold Hid Gate.gives; rw [if_neg]; rintro ⟨_, h⟩
            exact h ⟨hisw, by rw [HVW.out]; intro e; rw [Gate.beq_toList] at hwf; simp [e] at hwf⟩
          clear hwe
          go_wp2_with fail
          go_quiet ((go_at_call 138; exact Calls.quiet_of_same (as_int HJW.out (l3Field_any _ _ s.fs _ _ (by exact HFm.out _ _)))))
          go_wp2_with fail
          exact ⟨⟨k + 1, by omega, by go_num, HNX.out HG.out, HBE.out _ _⟩, by simp [intOf]; omega⟩
    · have hnI : ¬ (k : Int) < (ms.length : Int) := by omega
      have HD : Hid (Gate.decided s ms p vs = vs[p]) := by
        have e : ms.findSome? (Gate.gives s vs p) = none := by have := HN.out; rwa [List.take_of_length_le (by omega)] at this
        unfold Hid Gate.decided; rw [e, Gate.getD_at vs p _ hpv]; rfl
      have HJP : Hid (Gate.fieldIx s.fs s.fs[p].nm = (p : Int)) := HH.out.2.2.2.2.1
      have cp := HV.out p hpv
      have hpI : (p : Int) < (vs.length : Int) := by omega
      have hp0 : (0 : Int) ≤ (p : Int) := by omega
      go_wp2_with fail
      go_quiet ((go_at_call 138; exact Calls.quiet_of_same (as_int HJP.out (l3Field_any _ _ s.fs _ _ (by exact HFr.out _)))))
      go_wp2_with fail
      go_ret
      exact ⟨ret_str' HD.out.symm, below_drewN HB.out.1 _⟩

end Go.Proofs.YtnbpglbbjnkhpaaGreat

namespace Go.Proofs.YtnbpglbbjnkhpaaGreat
open Go.RowKit

namespace Gate
/-- The values that GateFill leaves. -/
def fillRes (ss : List Shp) (o : Ob) : List ByteArray := if hasKind ss o.kd = true ∧ shapesOk ss = true ∧ o.vs.length = (shapeOf ss o.kd).fs.length then fillVs (shapeOf ss o.kd).fs o.vs else o.vs
theorem fillRes_length (ss : List Shp) (o : Ob) : (fillRes ss o).length = o.vs.length := by
  unfold fillRes
  split
  · rename_i h; exact fillVs_length h.2.2
  · rfl
end Gate

/-- What an answer of GateFill is: the object with those values, its lists in memory of their own. -/
def FillPost (o : Ob) (vs : List ByteArray) (w : World) (e : Ending) (w' : World) : Prop :=
  ∃ a dap a' dap' m, e = .returned (.agg #[.string o.kd, .string o.nm, .string o.tm, .slice a o.vs.length dap, .bool o.en, .slice a' o.hs.length dap', .int .i64 o.vr]) ∧ TxtsOwn w.heap.size w' a vs ∧ (∀ g, a = some g → g.block < m) ∧ w.heap.size ≤ m ∧ TxtsOwn m w' a' o.hs ∧ Below w.heap.size w w'

end Go.Proofs.YtnbpglbbjnkhpaaGreat
