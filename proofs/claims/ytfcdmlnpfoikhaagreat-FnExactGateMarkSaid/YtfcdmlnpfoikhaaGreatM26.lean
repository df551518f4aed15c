import Derived.Test.YtfcdmlnpfoikhaaGreatM19
import Derived.Test.YtfcdmlnpfoikhaaGreatM03
import Derived.Test.YtfcdmlnpfoikhaaGreatM21
import Derived.Test.YtfcdmlnpfoikhaaGreatM16
import Derived.Test.YtfcdmlnpfoikhaaGreatM18
import Derived.Test.YtfcdmlnpfoikhaaGreatM14
import Derived.Test.YtfcdmlnpfoikhaaGreatM12
namespace Go.Proofs.YtfcdmlnpfoikhaaGreat
open Go.RowKit
def zj6 (c p : Int) : Value := if c = 0 then .nilIface else .iface 273 (.agg #[.int .i64 c, .int .i64 p])
set_option maxHeartbeats 400000 in
theorem zhr (w : World) : Calls Tryz.prog 217 #[.bool true] w fun e w' => e = .returned .nilIface /\ w' = w := by
  go_enter Tryz.func217, Tryz.ntmps217
  go_wp2
  go_ret
  exact ⟨rfl, rfl⟩
set_option maxHeartbeats 400000 in
theorem ziv (w : World) : Calls Tryz.prog 217 #[.bool false] w fun e w' => e = .returned (.iface 273 (.agg #[.int .i64 1, .int .i64 0])) /\ w' = w := by
  go_enter Tryz.func217, Tryz.ntmps217
  go_wp2
  go_ret
  exact ⟨rfl, rfl⟩
def qU (b : Bool) : Value := if b then .nilIface else .iface 273 (.agg #[.int .i64 1, .int .i64 0])
theorem qK (b : Bool) (w : World) : Calls Tryz.prog 217 #[.bool b] w fun e w' => e = .returned (qU b) /\ w' = w := by
  cases b
  · exact ziv w
  · exact zhr w
theorem zcd {a b : Bool} (h : a = b) : Ending.returned (qU a) = .returned (qU b) := by rw [h]
set_option maxHeartbeats 1000000 in
theorem zdY (a0 : Option Addr) (cap0 : Nat) (ss : List Shp) (o : Ob) (a a' : Option Addr) (cap cap' : Nat) (w : World) (ho : qL w o a a') :
    Calls Tryz.prog 205 #[.slice a0 ss.length cap0, .agg (oC o a a' cap cap')] w fun e w' => e = .returned (qU (Gate.yY o)) /\ Below w.heap.size w w' := by
  have h1 := ho.small.nm
  have h2 := ho.small.tm
  by_cases hn : Gate.zy o.nm = true
  · have HN : Hid (Gate.zy o.nm = true) := hn
    clear hn ho
    go_enter Tryz.func205, Tryz.ntmps205
    go_wp2_with fail
    refine (zw HN.out (zN _ _ h1)).mono ?_
    rintro e w1 ⟨rfl, rfl⟩
    go_wp2_with fail
    refine (zN _ _ h2).mono ?_
    rintro e w1 ⟨rfl, rfl⟩
    go_wp2_with fail
    refine (qK _ _).mono ?_
    rintro e w1 ⟨rfl, rfl⟩
    go_wp2_with fail
    go_ret
    exact ⟨zcd (by unfold Gate.yY; rw [HN.out]; rfl), (Below.refl _ _).alloc (Nat.le_refl _) _⟩
  · have HN : Hid (Gate.zy o.nm = false) := by simpa [Hid] using hn
    clear hn ho
    go_enter Tryz.func205, Tryz.ntmps205
    go_wp2_with fail
    refine (zw HN.out (zN _ _ h1)).mono ?_
    rintro e w1 ⟨rfl, rfl⟩
    go_wp2_with fail
    refine (qK _ _).mono ?_
    rintro e w1 ⟨rfl, rfl⟩
    go_wp2_with fail
    go_ret
    exact ⟨zcd (a := false) (b := Gate.yY o) (by unfold Gate.yY; rw [HN.out]; rfl), (Below.refl _ _).alloc (Nat.le_refl _) _⟩
set_option maxHeartbeats 1000000 in
theorem zdX (a0 : Option Addr) (cap0 : Nat) (ss : List Shp) (o : Ob) (a a' : Option Addr) (cap cap' : Nat) (w : World) (ho : qL w o a a') :
    Calls Tryz.prog 206 #[.slice a0 ss.length cap0, .agg (oC o a a' cap cap')] w fun e w' => e = .returned (qU (Gate.qp o)) /\ Below w.heap.size w w' := by
  have hl := ho.holds.len
  unfold maxLen at hl
  by_cases h3 : o.hs.length <= 3
  · go_enter Tryz.func206, Tryz.ntmps206
    go_wp2_with fail
    refine (ziM _ _ _ _ (ho.holds.mono ((Below.refl _ _).alloc (Nat.le_refl _) _))).mono ?_
    rintro e w1 ⟨rfl, rfl⟩
    go_wp2_with fail
    refine (qK _ _).mono ?_
    rintro e w1 ⟨rfl, rfl⟩
    go_wp2_with fail
    go_ret
    exact ⟨zcd (by unfold Gate.qp; rw [decide_eq_true h3]; rfl), (Below.refl _ _).alloc (Nat.le_refl _) _⟩
  · go_enter Tryz.func206, Tryz.ntmps206
    go_wp2_with fail
    refine (qK _ _).mono ?_
    rintro e w1 ⟨rfl, rfl⟩
    go_wp2_with fail
    go_ret
    exact ⟨zcd (a := false) (b := Gate.qp o) (by unfold Gate.qp; rw [decide_eq_false (show ¬ o.hs.length <= 3 by omega)]; rfl), (Below.refl _ _).alloc (Nat.le_refl _) _⟩
set_option maxHeartbeats 1000000 in
theorem zcA (a0 : Option Addr) (cap0 : Nat) (ss : List Shp) (o : Ob) (a a' : Option Addr) (cap cap' : Nat) (w : World) :
    Calls Tryz.prog 207 #[.slice a0 ss.length cap0, .agg (oC o a a' cap cap')] w fun e w' => e = .returned (qU (Gate.yN o)) /\ Below w.heap.size w w' := by
  by_cases h0 : 0 <= o.vr
  · have HV : Hid (Gate.yN o = decide (o.vr <= 1000000)) := by unfold Hid Gate.yN; rw [decide_eq_true h0]; rfl
    go_enter Tryz.func207, Tryz.ntmps207
    go_wp2_with (go_at_call 217; refine (qK _ _).mono ?_; rintro e w1 ⟨rfl, rfl⟩)
    go_ret
    exact ⟨zcd HV.out.symm, (Below.refl _ _).alloc (Nat.le_refl _) _⟩
  · have HV : Hid (Gate.yN o = false) := by unfold Hid Gate.yN; rw [decide_eq_false h0]; rfl
    go_enter Tryz.func207, Tryz.ntmps207
    go_wp2_with (go_at_call 217; refine (qK _ _).mono ?_; rintro e w1 ⟨rfl, rfl⟩)
    go_ret
    exact ⟨zcd HV.out.symm, (Below.refl _ _).alloc (Nat.le_refl _) _⟩
set_option maxHeartbeats 1000000 in
theorem zdW (a0 : Option Addr) (cap0 : Nat) (ss : List Shp) (o : Ob) (a a' : Option Addr) (cap cap' : Nat) (w : World) (hw : yE w a0 ss) (_ho : qL w o a a') :
    Calls Tryz.prog 208 #[.slice a0 ss.length cap0, .agg (oC o a a' cap cap')] w fun e w' => e = .returned (qU (Gate.zu ss o)) /\ Below w.heap.size w w' := by
  by_cases hk : Gate.zD ss o.kd = true
  all_goals
    first
      | (have HK : Hid (Gate.zD ss o.kd = true) := hk)
      | (have HK : Hid (Gate.zD ss o.kd = false) := by simpa [Hid] using hk)
    clear hk
    go_enter Tryz.func208, Tryz.ntmps208
    go_wp2_with fail
    refine (qz _ _ _ _ _ (hw.mono ((Below.refl _ _).alloc (Nat.le_refl _) _))).mono ?_
    rintro e w1 ⟨fa, fcap, rfl, _, hb1⟩
    rw [HK.out]
    have hX1 := za (zH w _ _) (by simp) hb1
    have hz1 : w.heap.size < w1.heap.size := by have := hb1.size; simp at this; omega
    have hB1 : Below w.heap.size w w1 := ((Below.refl _ _).alloc (Nat.le_refl _) _).trans (hb1.mono (by simp))
    clear hb1
    go_wp2_with (go_at_call 217; refine (qK _ _).mono ?_; rintro e w2 ⟨rfl, rfl⟩)
    go_ret
  · refine ⟨zcd ?_, hB1.alloc (by omega) _⟩
    unfold Gate.zu; rw [HK.out]
    rw [Bool.eq_iff_iff]; simp; omega
  · refine ⟨zcd (a := false) (b := Gate.zu ss o) ?_, hB1.alloc (by omega) _⟩
    unfold Gate.zu; rw [HK.out]; rfl
end Go.Proofs.YtfcdmlnpfoikhaaGreat

namespace Go.Proofs.YtfcdmlnpfoikhaaGreat
open Go.RowKit
set_option maxHeartbeats 4000000 in
theorem zb2 (b : Bk) (a0 a1 a2 a3 : Option Addr) (c0 c1 c2 c3 : Nat) (w : World) (hl : qD w b a0 a1 a2 a3) (hf : b.Few) :
    Calls Tryz.prog 8 #[.agg (b.cells a0 a1 a2 a3 c0 c1 c2 c3)] w fun e w' => ∃ lo g0 g1 g2 g3, e = .returned (.agg (b.cells (some ⟨g0, 0, none⟩) (some ⟨g1, 0, none⟩) (some ⟨g2, 0, none⟩) (some ⟨g3, 0, none⟩) b.os.length b.gs.length b.ls.length b.ps.length)) /\ w.heap.size <= lo /\ zgn lo w' b g0 g1 g2 g3 /\ Below w.heap.size w w' := by
  have HL : Hid (qD w b a0 a1 a2 a3) := hl
  have HF : Hid b.Few := hf
  clear hl hf
  unfold Bk.cells
  go_enter Tryz.func8, Tryz.ntmps8
  go_wp2_with fail
  have k0 := zoK w (.cells (bC b a0 a1 a2 a3 c0 c1 c2 c3) 32) (.cells bZ 48) (.cells #[.int .i64 b.now, .int .i64 b.tick, .int .i64 b.given, .slice none 0 0, .slice none 0 0, .slice none 0 0, .slice none 0 0] 48)
  have hB0 := below3' w (.cells (bC b a0 a1 a2 a3 c0 c1 c2 c3) 32) (.cells bZ 48) (.cells #[.int .i64 b.now, .int .i64 b.tick, .int .i64 b.given, .slice none 0 0, .slice none 0 0, .slice none 0 0, .slice none 0 0] 48)
  obtain ⟨W0, hW0⟩ : ∃ W0, W0 = ((w.alloc (.cells (bC b a0 a1 a2 a3 c0 c1 c2 c3) 32)).alloc (.cells bZ 48)).alloc (.cells #[.int .i64 b.now, .int .i64 b.tick, .int .i64 b.given, .slice none 0 0, .slice none 0 0, .slice none 0 0, .slice none 0 0] 48) := ⟨_, rfl⟩
  have hz0 : w.heap.size + 1 + 1 < W0.heap.size := by rw [hW0]; simp
  rw [<- hW0] at k0 hB0 ⊢
  clear hW0
  have HLO : Hid (w.heap.size + 1 + 1 < W0.heap.size) := hz0
  refine (zfB _ _ b.os _ (HL.out.os.mono hB0) HF.out.os.1 HF.out.os.2).mono ?_
  rintro e w1 ⟨rfl, hown, hb⟩
  obtain ⟨g0, hp'⟩ : ∃ g0, g0 = W0.heap.size := ⟨_, rfl⟩
  have HN1 : Hid (qV W0.heap.size w1 g0 b.os b.os.length) := by rw [hp']; exact hown
  have hX1 := (hb.block _ (by omega)).trans k0.1
  have hR1 := (hb.block _ (by omega)).trans k0.2.1
  have hO1 := (hb.block _ hz0).trans k0.2.2
  have HZ1 : Hid (W0.heap.size <= w1.heap.size) := hb.size
  have HB1 : Hid (Below w.heap.size w w1) := hB0.trans (hb.mono hB0.size)
  rw [<- hp']
  clear hown hb k0 hB0 hz0 hp'
  have cO1 := fun j => cell_of_block (o := j) hO1
  have fO1 := fun j => zh (o := j) hO1
  have HX1' : Hid ((w1.setCell ⟨w.heap.size + 1 + 1, 3, none⟩ (.slice (some ⟨g0, 0, none⟩) b.os.length b.os.length)).heap[w.heap.size]? = some (.cells (bC b a0 a1 a2 a3 c0 c1 c2 c3) 32)) := (zA (by omega)).trans hX1
  have HR1' : Hid ((w1.setCell ⟨w.heap.size + 1 + 1, 3, none⟩ (.slice (some ⟨g0, 0, none⟩) b.os.length b.os.length)).heap[w.heap.size + 1]? = some (.cells bZ 48)) := (zA (by omega)).trans hR1
  have HO1' : Hid ((w1.setCell ⟨w.heap.size + 1 + 1, 3, none⟩ (.slice (some ⟨g0, 0, none⟩) b.os.length b.os.length)).heap[w.heap.size + 1 + 1]? = some (.cells #[.int .i64 b.now, .int .i64 b.tick, .int .i64 b.given, .slice (some ⟨g0, 0, none⟩) b.os.length b.os.length, .slice none 0 0, .slice none 0 0, .slice none 0 0] 48)) := zf hO1 _
  have HAB1 : Hid (yt W0.heap.size w1 (w1.setCell ⟨w.heap.size + 1 + 1, 3, none⟩ (.slice (some ⟨g0, 0, none⟩) b.os.length b.os.length))) := yt.setCell HLO.out _
  have HBB1 : Hid (Below w.heap.size w (w1.setCell ⟨w.heap.size + 1 + 1, 3, none⟩ (.slice (some ⟨g0, 0, none⟩) b.os.length b.os.length))) := HB1.out.setCell (by show w.heap.size <= w.heap.size + 1 + 1; omega) _
  have HZZ1 : Hid (W0.heap.size <= (w1.setCell ⟨w.heap.size + 1 + 1, 3, none⟩ (.slice (some ⟨g0, 0, none⟩) b.os.length b.os.length)).heap.size) := by unfold Hid; rw [World.size_setCell]; exact HZ1.out
  clear hX1 hR1 hO1
  have cX1 := fun j => cell_of_block (o := j) HX1'.out
  have cR1 := fun j => cell_of_block (o := j) HR1'.out
  have fR1 := fun j => zh (o := j) HR1'.out
  have cOO1 := fun j => cell_of_block (o := j) HO1'.out
  go_wp2_with fail
  refine (zfD _ _ b.gs _ (HL.out.gs.mono HBB1.out) HF.out.gs.1 HF.out.gs.2).mono ?_
  rintro e w2 ⟨rfl, hown, hb⟩
  obtain ⟨g1, hp'⟩ : ∃ g1, g1 = (w1.setCell ⟨w.heap.size + 1 + 1, 3, none⟩ (.slice (some ⟨g0, 0, none⟩) b.os.length b.os.length)).heap.size := ⟨_, rfl⟩
  have HN2 : Hid (jC W0.heap.size w2 g1 b.gs b.gs.length) := by rw [hp']; exact hown.weaken HZZ1.out
  have HAA2 : Hid (yt W0.heap.size w1 w2) := HAB1.out.trans (yt.below hb)
  have hX2 := (hb.block _ (lt_of_some HX1'.out)).trans HX1'.out
  have hR2 := (hb.block _ (lt_of_some HR1'.out)).trans HR1'.out
  have hO2 := (hb.block _ (lt_of_some HO1'.out)).trans HO1'.out
  have HZ2 : Hid (W0.heap.size <= w2.heap.size) := Nat.le_trans HZZ1.out hb.size
  have HB2 : Hid (Below w.heap.size w w2) := HBB1.out.trans (hb.mono HBB1.out.size)
  rw [<- hp']
  clear hown hb hp' cX1 cR1 fR1 cOO1
  have cO2 := fun j => cell_of_block (o := j) hO2
  have fO2 := fun j => zh (o := j) hO2
  have HX2' : Hid ((w2.setCell ⟨w.heap.size + 1 + 1, 4, none⟩ (.slice (some ⟨g1, 0, none⟩) b.gs.length b.gs.length)).heap[w.heap.size]? = some (.cells (bC b a0 a1 a2 a3 c0 c1 c2 c3) 32)) := (zA (by omega)).trans hX2
  have HR2' : Hid ((w2.setCell ⟨w.heap.size + 1 + 1, 4, none⟩ (.slice (some ⟨g1, 0, none⟩) b.gs.length b.gs.length)).heap[w.heap.size + 1]? = some (.cells bZ 48)) := (zA (by omega)).trans hR2
  have HO2' : Hid ((w2.setCell ⟨w.heap.size + 1 + 1, 4, none⟩ (.slice (some ⟨g1, 0, none⟩) b.gs.length b.gs.length)).heap[w.heap.size + 1 + 1]? = some (.cells #[.int .i64 b.now, .int .i64 b.tick, .int .i64 b.given, .slice (some ⟨g0, 0, none⟩) b.os.length b.os.length, .slice (some ⟨g1, 0, none⟩) b.gs.length b.gs.length, .slice none 0 0, .slice none 0 0] 48)) := zf hO2 _
  have HAB2 : Hid (yt W0.heap.size w2 (w2.setCell ⟨w.heap.size + 1 + 1, 4, none⟩ (.slice (some ⟨g1, 0, none⟩) b.gs.length b.gs.length))) := yt.setCell HLO.out _
  have HBB2 : Hid (Below w.heap.size w (w2.setCell ⟨w.heap.size + 1 + 1, 4, none⟩ (.slice (some ⟨g1, 0, none⟩) b.gs.length b.gs.length))) := HB2.out.setCell (by show w.heap.size <= w.heap.size + 1 + 1; omega) _
  have HZZ2 : Hid (W0.heap.size <= (w2.setCell ⟨w.heap.size + 1 + 1, 4, none⟩ (.slice (some ⟨g1, 0, none⟩) b.gs.length b.gs.length)).heap.size) := by unfold Hid; rw [World.size_setCell]; exact HZ2.out
  clear hX2 hR2 hO2
  have cX2 := fun j => cell_of_block (o := j) HX2'.out
  have cR2 := fun j => cell_of_block (o := j) HR2'.out
  have fR2 := fun j => zh (o := j) HR2'.out
  have cOO2 := fun j => cell_of_block (o := j) HO2'.out
  go_wp2_with fail
  refine (zfp _ _ b.ls _ (HL.out.ls.mono HBB2.out) HF.out.ls).mono ?_
  rintro e w3 ⟨rfl, hown, hb⟩
  obtain ⟨g2, hp'⟩ : ∃ g2, g2 = (w2.setCell ⟨w.heap.size + 1 + 1, 4, none⟩ (.slice (some ⟨g1, 0, none⟩) b.gs.length b.gs.length)).heap.size := ⟨_, rfl⟩
  have HN3 : Hid (jA W0.heap.size w3 g2 b.ls b.ls.length) := by rw [hp']; exact hown.weaken HZZ2.out
  have HAA3 : Hid (yt W0.heap.size w2 w3) := HAB2.out.trans (yt.below hb)
  have hX3 := (hb.block _ (lt_of_some HX2'.out)).trans HX2'.out
  have hR3 := (hb.block _ (lt_of_some HR2'.out)).trans HR2'.out
  have hO3 := (hb.block _ (lt_of_some HO2'.out)).trans HO2'.out
  have HZ3 : Hid (W0.heap.size <= w3.heap.size) := Nat.le_trans HZZ2.out hb.size
  have HB3 : Hid (Below w.heap.size w w3) := HBB2.out.trans (hb.mono HBB2.out.size)
  rw [<- hp']
  clear hown hb hp' cX2 cR2 fR2 cOO2
  have cO3 := fun j => cell_of_block (o := j) hO3
  have fO3 := fun j => zh (o := j) hO3
  have HX3' : Hid ((w3.setCell ⟨w.heap.size + 1 + 1, 5, none⟩ (.slice (some ⟨g2, 0, none⟩) b.ls.length b.ls.length)).heap[w.heap.size]? = some (.cells (bC b a0 a1 a2 a3 c0 c1 c2 c3) 32)) := (zA (by omega)).trans hX3
  have HR3' : Hid ((w3.setCell ⟨w.heap.size + 1 + 1, 5, none⟩ (.slice (some ⟨g2, 0, none⟩) b.ls.length b.ls.length)).heap[w.heap.size + 1]? = some (.cells bZ 48)) := (zA (by omega)).trans hR3
  have HO3' : Hid ((w3.setCell ⟨w.heap.size + 1 + 1, 5, none⟩ (.slice (some ⟨g2, 0, none⟩) b.ls.length b.ls.length)).heap[w.heap.size + 1 + 1]? = some (.cells #[.int .i64 b.now, .int .i64 b.tick, .int .i64 b.given, .slice (some ⟨g0, 0, none⟩) b.os.length b.os.length, .slice (some ⟨g1, 0, none⟩) b.gs.length b.gs.length, .slice (some ⟨g2, 0, none⟩) b.ls.length b.ls.length, .slice none 0 0] 48)) := zf hO3 _
  have HAB3 : Hid (yt W0.heap.size w3 (w3.setCell ⟨w.heap.size + 1 + 1, 5, none⟩ (.slice (some ⟨g2, 0, none⟩) b.ls.length b.ls.length))) := yt.setCell HLO.out _
  have HBB3 : Hid (Below w.heap.size w (w3.setCell ⟨w.heap.size + 1 + 1, 5, none⟩ (.slice (some ⟨g2, 0, none⟩) b.ls.length b.ls.length))) := HB3.out.setCell (by show w.heap.size <= w.heap.size + 1 + 1; omega) _
  have HZZ3 : Hid (W0.heap.size <= (w3.setCell ⟨w.heap.size + 1 + 1, 5, none⟩ (.slice (some ⟨g2, 0, none⟩) b.ls.length b.ls.length)).heap.size) := by unfold Hid; rw [World.size_setCell]; exact HZ3.out
  clear hX3 hR3 hO3
  have cX3 := fun j => cell_of_block (o := j) HX3'.out
  have cR3 := fun j => cell_of_block (o := j) HR3'.out
  have fR3 := fun j => zh (o := j) HR3'.out
  have cOO3 := fun j => cell_of_block (o := j) HO3'.out
  go_wp2_with fail
  refine (zfO _ _ b.ps _ (HL.out.ps.mono HBB3.out) HF.out.ps).mono ?_
  rintro e w4 ⟨rfl, hown, hb⟩
  obtain ⟨g3, hp'⟩ : ∃ g3, g3 = (w3.setCell ⟨w.heap.size + 1 + 1, 5, none⟩ (.slice (some ⟨g2, 0, none⟩) b.ls.length b.ls.length)).heap.size := ⟨_, rfl⟩
  have HN4 : Hid (jr W0.heap.size w4 g3 b.ps b.ps.length) := by rw [hp']; exact hown.weaken HZZ3.out
  have HAA4 : Hid (yt W0.heap.size w3 w4) := HAB3.out.trans (yt.below hb)
  have hX4 := (hb.block _ (lt_of_some HX3'.out)).trans HX3'.out
  have hR4 := (hb.block _ (lt_of_some HR3'.out)).trans HR3'.out
  have hO4 := (hb.block _ (lt_of_some HO3'.out)).trans HO3'.out
  have HZ4 : Hid (W0.heap.size <= w4.heap.size) := Nat.le_trans HZZ3.out hb.size
  have HB4 : Hid (Below w.heap.size w w4) := HBB3.out.trans (hb.mono HBB3.out.size)
  rw [<- hp']
  clear hown hb hp' cX3 cR3 fR3 cOO3
  have cO4 := fun j => cell_of_block (o := j) hO4
  have fO4 := fun j => zh (o := j) hO4
  have HX4' : Hid ((w4.setCell ⟨w.heap.size + 1 + 1, 6, none⟩ (.slice (some ⟨g3, 0, none⟩) b.ps.length b.ps.length)).heap[w.heap.size]? = some (.cells (bC b a0 a1 a2 a3 c0 c1 c2 c3) 32)) := (zA (by omega)).trans hX4
  have HR4' : Hid ((w4.setCell ⟨w.heap.size + 1 + 1, 6, none⟩ (.slice (some ⟨g3, 0, none⟩) b.ps.length b.ps.length)).heap[w.heap.size + 1]? = some (.cells bZ 48)) := (zA (by omega)).trans hR4
  have HO4' : Hid ((w4.setCell ⟨w.heap.size + 1 + 1, 6, none⟩ (.slice (some ⟨g3, 0, none⟩) b.ps.length b.ps.length)).heap[w.heap.size + 1 + 1]? = some (.cells (bC b (some ⟨g0, 0, none⟩) (some ⟨g1, 0, none⟩) (some ⟨g2, 0, none⟩) (some ⟨g3, 0, none⟩) (b.os.length) (b.gs.length) (b.ls.length) (b.ps.length)) 48)) := zf hO4 _
  have HAB4 : Hid (yt W0.heap.size w4 (w4.setCell ⟨w.heap.size + 1 + 1, 6, none⟩ (.slice (some ⟨g3, 0, none⟩) b.ps.length b.ps.length))) := yt.setCell HLO.out _
  have HBB4 : Hid (Below w.heap.size w (w4.setCell ⟨w.heap.size + 1 + 1, 6, none⟩ (.slice (some ⟨g3, 0, none⟩) b.ps.length b.ps.length))) := HB4.out.setCell (by show w.heap.size <= w.heap.size + 1 + 1; omega) _
  have HZZ4 : Hid (W0.heap.size <= (w4.setCell ⟨w.heap.size + 1 + 1, 6, none⟩ (.slice (some ⟨g3, 0, none⟩) b.ps.length b.ps.length)).heap.size) := by unfold Hid; rw [World.size_setCell]; exact HZ4.out
  clear hX4 hR4 hO4
  have cX4 := fun j => cell_of_block (o := j) HX4'.out
  have cR4 := fun j => cell_of_block (o := j) HR4'.out
  have fR4 := fun j => zh (o := j) HR4'.out
  have cOO4 := fun j => cell_of_block (o := j) HO4'.out
  go_wp2_with fail
  refine bodyPost_ret (v := .agg #[.int .i64 b.now, .int .i64 b.tick, .int .i64 b.given, .slice (some ⟨g0, 0, none⟩) b.os.length b.os.length, .slice (some ⟨g1, 0, none⟩) b.gs.length b.gs.length, .slice (some ⟨g2, 0, none⟩) b.ls.length b.ls.length, .slice (some ⟨g3, 0, none⟩) b.ps.length b.ps.length]) (by simp [results, Tryz.results8, go_sem, cR4]) rfl ⟨W0.heap.size, g0, g1, g2, g3, rfl, by have := HLO.out; omega, ?_, ?_⟩
  · have hlt1 : w.heap.size + 1 < W0.heap.size := by have := HLO.out; omega
    have hA4 : ∀ v0 v1 v2 v3 v4 v5 v6, yt W0.heap.size w4 ((((((((w4.setCell ⟨w.heap.size + 1 + 1, 6, none⟩ (.slice (some ⟨g3, 0, none⟩) b.ps.length b.ps.length)).setCell ⟨w.heap.size + 1, 0, none⟩ v0).setCell ⟨w.heap.size + 1, 1, none⟩ v1).setCell ⟨w.heap.size + 1, 2, none⟩ v2).setCell ⟨w.heap.size + 1, 3, none⟩ v3).setCell ⟨w.heap.size + 1, 4, none⟩ v4).setCell ⟨w.heap.size + 1, 5, none⟩ v5).setCell ⟨w.heap.size + 1, 6, none⟩ v6) := fun v0 v1 v2 v3 v4 v5 v6 => (((((((HAB4.out.trans (yt.setCell (p := ⟨w.heap.size + 1, 0, none⟩) hlt1 v0)).trans (yt.setCell (p := ⟨w.heap.size + 1, 1, none⟩) hlt1 v1)).trans (yt.setCell (p := ⟨w.heap.size + 1, 2, none⟩) hlt1 v2)).trans (yt.setCell (p := ⟨w.heap.size + 1, 3, none⟩) hlt1 v3)).trans (yt.setCell (p := ⟨w.heap.size + 1, 4, none⟩) hlt1 v4)).trans (yt.setCell (p := ⟨w.heap.size + 1, 5, none⟩) hlt1 v5)).trans (yt.setCell (p := ⟨w.heap.size + 1, 6, none⟩) hlt1 v6))
    exact ⟨HN1.out.above (((HAA2.out.trans HAA3.out).trans HAA4.out).trans (hA4 _ _ _ _ _ _ _)), HN2.out.above ((HAA3.out.trans HAA4.out).trans (hA4 _ _ _ _ _ _ _)), HN3.out.above (HAA4.out.trans (hA4 _ _ _ _ _ _ _)), HN4.out.above (hA4 _ _ _ _ _ _ _)⟩
  · exact ((((((HBB4.out.setCell (Nat.le_succ _) _).setCell (Nat.le_succ _) _).setCell (Nat.le_succ _) _).setCell (Nat.le_succ _) _).setCell (Nat.le_succ _) _).setCell (Nat.le_succ _) _).setCell (Nat.le_succ _) _
theorem zdG (b : Bk) (a0 a1 a2 a3 : Option Addr) (c0 c1 c2 c3 : Nat) (w : World) (hl : qD w b a0 a1 a2 a3) (hf : b.Few) :
    Calls Tryz.prog 8 #[.agg (b.cells a0 a1 a2 a3 c0 c1 c2 c3)] w fun e w' => ∃ a0' a1' a2' a3', e = .returned (.agg (b.cells a0' a1' a2' a3' b.os.length b.gs.length b.ls.length b.ps.length)) /\ qD w' b a0' a1' a2' a3' /\ Below w.heap.size w w' := by
  refine (zb2 b a0 a1 a2 a3 c0 c1 c2 c3 w hl hf).mono ?_
  rintro e w' ⟨lo, g0, g1, g2, g3, he, _, ho, hb⟩
  exact ⟨_, _, _, _, he, ho.at hl.small, hb⟩
end Go.Proofs.YtfcdmlnpfoikhaaGreat

namespace Go.Proofs.YtfcdmlnpfoikhaaGreat
open Go.RowKit
structure zaa (lo hi : Nat) (w : World) (bo : Nat) (ms : List Pu) : Prop where
  low : lo <= bo
  high : bo < hi
  rows : ∃ C, w.heap[bo]? = some (.cells C 132) /\ C.size = ms.length * 5 /\ ∀ i, i < ms.length -> (∀ j, j < 5 -> zaG C (i * 5 + j))
theorem zaa.mono {lo hi : Nat} {w w' : World} {b : Nat} {ms : List Pu} (h : zaa lo hi w b ms) (hM : Marked lo hi w w') : zaa lo hi w' b ms := by
  obtain ⟨C, hC, hs, hn⟩ := h.rows
  obtain ⟨C', hC', hs', hk⟩ := hM.inn b C _ h.low h.high hC
  refine ⟨h.low, h.high, C', hC', by omega, fun i hi => ?_⟩
  have h0 := hn i hi
  exact fun j hj a m c he => h0 j hj a m c ((hk _ a m c).1 he)
theorem jr.form {lo : Nat} {w : World} {bo : Nat} {ms : List Pu} (h : jr lo w bo ms ms.length) : zaa lo w.heap.size w bo ms := by
  obtain ⟨C, hC, hsz, hr⟩ := h.rows
  refine ⟨h.low, (Array.getElem?_eq_some_iff.1 hC).1, C, hC, hsz, fun i hi j hj a n c he => ?_⟩
  rw [hr i hi hi j hj] at he
  rcases j with _ | _ | _ | _ | _ | j <;> first | omega | (simp [Pu.cells] at he)
theorem zaa.ready {lo hi bo : Nat} {w W : World} {ms : List Pu} (h : zaa lo hi w bo ms) (hM : Marked lo hi w W) (i : Nat) (hi' : i < ms.length) :
    (∀ j, j < 5 -> ∃ v, W.cell? ⟨bo, i * 5 + j, none⟩ = some v) /\ (∀ o, W.frozen? ⟨bo, o, none⟩ = false) := by
  have h' := h.mono hM
  obtain ⟨C, hC, hs, hn⟩ := h'.rows
  exact ⟨fun j hj => ⟨C[i * 5 + j]'(by omega), by rw [cell_of_block hC]; exact Array.getElem?_eq_getElem (by omega)⟩, fun o => zh hC⟩
theorem zaa.put {lo hi bo : Nat} {w W : World} {ms : List Pu} (h : zaa lo hi w bo ms) (hM : Marked lo hi w W) (i j : Nat) (hi' : i < ms.length) (hj : j < 5) (v : Value) (hv : ∀ a n c, v ≠ Value.slice a n c) : Marked lo hi w (W.setCell ⟨bo, i * 5 + j, none⟩ v) := by
  obtain ⟨C, hC, hs, hn⟩ := h.rows
  exact hM.put h.low h.high hC (hn i hi' j hj) v hv
set_option maxRecDepth 20000 in
set_option maxHeartbeats 8000000 in
theorem zeG (lo hi bo cap : Nat) (ms : List Pu) (k : Int) (w : World) (h : zaa lo hi w bo ms) (hl : ms.length <= 1048576) (hk : 0 < k) (hk2 : k < 5000000000000000000) :
    Calls Tryz.prog 48 #[.slice (some ⟨bo, 0, none⟩) ms.length cap, .int .i64 k] w fun e w' => ∃ k', e = .returned (.int .i64 k') /\ k <= k' /\ k' <= k + ms.length * 5 /\ Marked lo hi w w' := by
  have HF : Hid (zaa lo hi w bo ms) := h
  have HL : Hid (ms.length <= 1048576) := hl
  have HK : Hid (0 < k /\ k < 5000000000000000000) := ⟨hk, hk2⟩
  clear h hl hk hk2
  go_enter Tryz.func48, Tryz.ntmps48
  go_wp2_with fail
  go_loopw [1, 5] (fun kv iv wr => ∃ (i : Nat) (kk : Int), i <= ms.length /\ kv = .int .i64 kk /\ iv = .int .i64 i /\ k <= kk /\ kk <= k + i * 5 /\ Marked lo hi w wr) (fun _ iv _ => ms.length - (intOf iv).toNat)
  case atStart => exact ⟨0, k, Nat.zero_le _, rfl, rfl, Int.le_refl _, by simp, Marked.refl _ _ _⟩
  case round =>
    obtain ⟨i, kk, hile, rfl, rfl, h1, h2, hM⟩ := hrel
    by_cases hlt : i < ms.length
    · have hltI : (i : Int) < (ms.length : Int) := by omega
      have HB : Hid (0 < kk /\ kk < 7000000000000000000 /\ kk <= k + i * 5 /\ k <= kk) := by have a := HK.out; have b := HL.out; exact ⟨by omega, by omega, h2, h1⟩
      have HM := hid hM
      clear h1 h2 hM
      go_wp2_with fail
      refine (zI _ _ (by have a0 := HB.out; omega) (by have a0 := HB.out; omega)).mono ?_
      rintro e wm1 ⟨s1, rfl, hb⟩
      have HM1 : Hid (Marked lo hi w wm1) := (HM.out).trans (Marked.of_below hb)
      clear hb
      obtain ⟨hex, hfz1⟩ := HF.out.ready (HM1.out) i hlt
      obtain ⟨v1, hv1⟩ := hex 0 (by omega)
      rw [Nat.add_zero] at hv1
      clear hex
      have HP1_0 : Hid (Marked lo hi w (wm1.setCell ⟨bo, i * 5, none⟩ (.string s1))) := HF.out.put (HM1.out) i 0 hlt (by omega)  (.string s1) (fun _ _ _ h => by cases h)
      have hw1 : wrap64 (kk + 1) = kk + 1 := z8 _ ⟨by have a0 := HB.out; omega, by have a0 := HB.out; omega⟩
      go_wp2_with fail
      clear hfz1 hv1
      refine (zI _ _ (by have a0 := HB.out; omega) (by have a0 := HB.out; omega)).mono ?_
      rintro e wm2 ⟨s2, rfl, hb⟩
      have HM2 : Hid (Marked lo hi w wm2) := (HP1_0.out).trans (Marked.of_below hb)
      clear hb
      obtain ⟨hex, hfz2⟩ := HF.out.ready (HM2.out) i hlt
      obtain ⟨v2, hv2⟩ := hex 1 (by omega)
      clear hex
      have HP2_1 : Hid (Marked lo hi w (wm2.setCell ⟨bo, i * 5 + 1, none⟩ (.string s2))) := HF.out.put (HM2.out) i 1 hlt (by omega)  (.string s2) (fun _ _ _ h => by cases h)
      have hw2 : wrap64 (kk + 1 + 1) = kk + 1 + 1 := z8 _ ⟨by have a0 := HB.out; omega, by have a0 := HB.out; omega⟩
      go_wp2_with fail
      clear hfz2 hv2
      refine (zI _ _ (by have a0 := HB.out; omega) (by have a0 := HB.out; omega)).mono ?_
      rintro e wm3 ⟨s3, rfl, hb⟩
      have HM3 : Hid (Marked lo hi w wm3) := (HP2_1.out).trans (Marked.of_below hb)
      clear hb
      obtain ⟨hex, hfz3⟩ := HF.out.ready (HM3.out) i hlt
      obtain ⟨v3, hv3⟩ := hex 2 (by omega)
      clear hex
      have HP3_2 : Hid (Marked lo hi w (wm3.setCell ⟨bo, i * 5 + 2, none⟩ (.string s3))) := HF.out.put (HM3.out) i 2 hlt (by omega)  (.string s3) (fun _ _ _ h => by cases h)
      have hw3 : wrap64 (kk + 1 + 1 + 1) = kk + 1 + 1 + 1 := z8 _ ⟨by have a0 := HB.out; omega, by have a0 := HB.out; omega⟩
      obtain ⟨hex, hfz4⟩ := HF.out.ready (HP3_2.out) i hlt
      obtain ⟨v4, hv4⟩ := hex 3 (by omega)
      clear hex
      have HP3_3 : Hid (Marked lo hi w ((wm3.setCell ⟨bo, i * 5 + 2, none⟩ (.string s3)).setCell ⟨bo, i * 5 + 3, none⟩ (.int .i64 (kk + 1 + 1 + 1)))) := HF.out.put (HP3_2.out) i 3 hlt (by omega)  (.int .i64 (kk + 1 + 1 + 1)) (fun _ _ _ h => by cases h)
      have hw4 : wrap64 (kk + 1 + 1 + 1 + 1) = kk + 1 + 1 + 1 + 1 := z8 _ ⟨by have a0 := HB.out; omega, by have a0 := HB.out; omega⟩
      obtain ⟨hex, hfz5⟩ := HF.out.ready (HP3_3.out) i hlt
      obtain ⟨v5, hv5⟩ := hex 4 (by omega)
      clear hex
      have HP3_4 : Hid (Marked lo hi w (((wm3.setCell ⟨bo, i * 5 + 2, none⟩ (.string s3)).setCell ⟨bo, i * 5 + 3, none⟩ (.int .i64 (kk + 1 + 1 + 1))).setCell ⟨bo, i * 5 + 4, none⟩ (.int .i64 (kk + 1 + 1 + 1 + 1)))) := HF.out.put (HP3_3.out) i 4 hlt (by omega)  (.int .i64 (kk + 1 + 1 + 1 + 1)) (fun _ _ _ h => by cases h)
      have hw5 : wrap64 (kk + 1 + 1 + 1 + 1 + 1) = kk + 1 + 1 + 1 + 1 + 1 := z8 _ ⟨by have a0 := HB.out; omega, by have a0 := HB.out; omega⟩
      go_wp2_with fail
      go_roundw
      case rel => exact ⟨i + 1, kk + 1 + 1 + 1 + 1 + 1, by omega, by first | rfl | rw [hw5], by rw [wrap_one (by have := HL.out; omega)], by have a0 := HB.out; omega, by have a0 := HB.out; omega, HP3_4.out⟩
      case measure => exact qJ hlt (by have := HL.out; omega)
    · have e : i = ms.length := by omega
      subst e
      go_wp2_with fail
      go_ret
      exact ⟨kk, rfl, h1, h2, hM⟩
end Go.Proofs.YtfcdmlnpfoikhaaGreat

namespace Go.Proofs.YtfcdmlnpfoikhaaGreat
open Go.RowKit
structure jG (lo hi : Nat) (w : World) (bo : Nat) (ms : List Gr) : Prop where
  low : lo <= bo
  high : bo < hi
  rows : ∃ C, w.heap[bo]? = some (.cells C 128) /\ C.size = ms.length * 7 /\ ∀ i (h : i < ms.length), (∀ j, j < 7 -> j ≠ 3 -> zaG C (i * 7 + j)) /\ (∃ bk cap, zay lo hi w bk ms[i].r.vs.length /\ C[i * 7 + 3]? = some (.slice (some ⟨bk, 0, none⟩) ms[i].r.vs.length cap))
theorem jG.mono {lo hi : Nat} {w w' : World} {b : Nat} {ms : List Gr} (h : jG lo hi w b ms) (hM : Marked lo hi w w') : jG lo hi w' b ms := by
  obtain ⟨C, hC, hs, hn⟩ := h.rows
  obtain ⟨C', hC', hs', hk⟩ := hM.inn b C _ h.low h.high hC
  refine ⟨h.low, h.high, C', hC', by omega, fun i hi => ?_⟩
  obtain ⟨h0, ⟨bk3, cap3, f3, g3⟩⟩ := hn i hi
  exact ⟨fun j hj n3 a m c he => h0 j hj n3 a m c ((hk _ a m c).1 he), bk3, cap3, f3.mono hM, (hk _ _ _ _).2 g3⟩
theorem ziO (ws : List Int) (j : Nat) : zaG (zaM ws) j := by
  intro a n c h
  simp [zaM] at h
theorem jC.form {lo : Nat} {w : World} {bo : Nat} {ms : List Gr} (h : jC lo w bo ms ms.length) : jG lo w.heap.size w bo ms := by
  obtain ⟨C, hC, hsz, hr⟩ := h.rows
  refine ⟨h.low, (Array.getElem?_eq_some_iff.1 hC).1, C, hC, hsz, fun i hi => ?_⟩
  obtain ⟨g0, hl0, hn0, hg0, hc⟩ := hr i hi hi
  refine ⟨fun j hj n3 a n c he => ?_, g0, _, ⟨hl0, (Array.getElem?_eq_some_iff.1 hg0).1, _, hg0, by simp [zaM], fun j _ => ziO _ j⟩, hc 3 (by omega)⟩
  rw [hc j hj] at he
  rcases j with _ | _ | _ | _ | _ | _ | _ | j <;> first | omega | (simp [Gr.cells] at he)
theorem jG.ready {lo hi bo : Nat} {w W : World} {ms : List Gr} (h : jG lo hi w bo ms) (hM : Marked lo hi w W) (i : Nat) (hi' : i < ms.length) :
    (∀ j, j < 7 -> ∃ v, W.cell? ⟨bo, i * 7 + j, none⟩ = some v) /\ (∀ o, W.frozen? ⟨bo, o, none⟩ = false) := by
  have h' := h.mono hM
  obtain ⟨C, hC, hs, hn⟩ := h'.rows
  exact ⟨fun j hj => ⟨C[i * 7 + j]'(by omega), by rw [cell_of_block hC]; exact Array.getElem?_eq_getElem (by omega)⟩, fun o => zh hC⟩
theorem jG.put {lo hi bo : Nat} {w W : World} {ms : List Gr} (h : jG lo hi w bo ms) (hM : Marked lo hi w W) (i j : Nat) (hi' : i < ms.length) (hj : j < 7) (n3 : j ≠ 3) (v : Value) (hv : ∀ a n c, v ≠ Value.slice a n c) : Marked lo hi w (W.setCell ⟨bo, i * 7 + j, none⟩ v) := by
  obtain ⟨C, hC, hs, hn⟩ := h.rows
  exact hM.put h.low h.high hC ((hn i hi').1 j hj n3) v hv
theorem jG.zon {lo hi bo : Nat} {w : World} {ms : List Gr} (h : jG lo hi w bo ms) (i : Nat) (hi' : i < ms.length) :
    ∃ bk cap, zay lo hi w bk ms[i].r.vs.length /\ ∀ W, Marked lo hi w W -> W.cell? ⟨bo, i * 7 + 3, none⟩ = some (.slice (some ⟨bk, 0, none⟩) ms[i].r.vs.length cap) := by
  obtain ⟨C, hC, hs, hn⟩ := h.rows
  obtain ⟨bk, cap, h1, h2⟩ := (hn i hi').2
  refine ⟨bk, cap, h1, fun W hM => ?_⟩
  obtain ⟨C', hC', _, hk⟩ := hM.inn bo C _ h.low h.high hC
  rw [cell_of_block hC']
  exact (hk _ _ _ _).2 h2
set_option maxRecDepth 20000 in
set_option maxHeartbeats 8000000 in
theorem zeH (lo hi bo cap : Nat) (ms : List Gr) (k : Int) (w : World) (h : jG lo hi w bo ms) (hl : ms.length <= 1048576) (hls : ∀ i (h : i < ms.length), ms[i].r.vs.length <= 1048576) (hk : 0 < k) (hk2 : k < 5000000000000000000) :
    Calls Tryz.prog 46 #[.slice (some ⟨bo, 0, none⟩) ms.length cap, .int .i64 k] w fun e w' => ∃ k', e = .returned (.int .i64 k') /\ k <= k' /\ k' <= k + ms.length * 1048583 /\ Marked lo hi w w' := by
  have HF : Hid (jG lo hi w bo ms) := h
  have HL : Hid (ms.length <= 1048576 /\ ∀ i (h : i < ms.length), ms[i].r.vs.length <= 1048576) := ⟨hl, hls⟩
  have HK : Hid (0 < k /\ k < 5000000000000000000) := ⟨hk, hk2⟩
  clear h hl hk hk2 hls
  go_enter Tryz.func46, Tryz.ntmps46
  go_wp2_with fail
  go_loopw [1, 5] (fun kv iv wr => ∃ (i : Nat) (kk : Int), i <= ms.length /\ kv = .int .i64 kk /\ iv = .int .i64 i /\ k <= kk /\ kk <= k + i * 1048583 /\ Marked lo hi w wr) (fun _ iv _ => ms.length - (intOf iv).toNat)
  case atStart => exact ⟨0, k, Nat.zero_le _, rfl, rfl, Int.le_refl _, by simp, Marked.refl _ _ _⟩
  case round =>
    obtain ⟨i, kk, hile, rfl, rfl, h1, h2, hM⟩ := hrel
    by_cases hlt : i < ms.length
    · have hltI : (i : Int) < (ms.length : Int) := by omega
      have HB : Hid (0 < kk /\ kk < 7000000000000000000 /\ kk <= k + i * 1048583 /\ k <= kk) := by have a := HK.out; have b := HL.out.1; exact ⟨by omega, by omega, h2, h1⟩
      have HM : Hid (Marked lo hi w wr) := hM
      clear h1 h2 hM
      obtain ⟨bk3, bc3, hT, hsl⟩ := HF.out.zon i hlt
      have HT3 : Hid (zay lo hi w bk3 ms[i].r.vs.length /\ ∀ W, Marked lo hi w W -> W.cell? ⟨bo, i * 7 + 3, none⟩ = some (.slice (some ⟨bk3, 0, none⟩) ms[i].r.vs.length bc3)) := ⟨hT, hsl⟩
      clear hT hsl
      obtain ⟨hex, hfz1⟩ := HF.out.ready (HM.out) i hlt
      obtain ⟨v1, hv1⟩ := hex 0 (by omega)
      rw [Nat.add_zero] at hv1
      clear hex
      have HP0_0 : Hid (Marked lo hi w (wr.setCell ⟨bo, i * 7, none⟩ (.int .i64 (kk)))) := HF.out.put (HM.out) i 0 hlt (by omega) (by omega) (.int .i64 (kk)) (fun _ _ _ h => by cases h)
      have hw1 : wrap64 (kk + 1) = kk + 1 := z8 _ ⟨by have a0 := HB.out; omega, by have a0 := HB.out; omega⟩
      go_wp2_with fail
      clear hfz1 hv1
      refine (zI _ _ (by have a0 := HB.out; omega) (by have a0 := HB.out; omega)).mono ?_
      rintro e wm1 ⟨s1, rfl, hb⟩
      have HM1 : Hid (Marked lo hi w wm1) := (HP0_0.out).trans (Marked.of_below hb)
      clear hb
      obtain ⟨hex, hfz2⟩ := HF.out.ready (HM1.out) i hlt
      obtain ⟨v2, hv2⟩ := hex 1 (by omega)
      clear hex
      have HP1_1 : Hid (Marked lo hi w (wm1.setCell ⟨bo, i * 7 + 1, none⟩ (.string s1))) := HF.out.put (HM1.out) i 1 hlt (by omega) (by omega) (.string s1) (fun _ _ _ h => by cases h)
      have hw2 : wrap64 (kk + 1 + 1) = kk + 1 + 1 := z8 _ ⟨by have a0 := HB.out; omega, by have a0 := HB.out; omega⟩
      go_wp2_with fail
      clear hfz2 hv2
      refine (zI _ _ (by have a0 := HB.out; omega) (by have a0 := HB.out; omega)).mono ?_
      rintro e wm2 ⟨s2, rfl, hb⟩
      have HM2 : Hid (Marked lo hi w wm2) := (HP1_1.out).trans (Marked.of_below hb)
      clear hb
      obtain ⟨hex, hfz3⟩ := HF.out.ready (HM2.out) i hlt
      obtain ⟨v3, hv3⟩ := hex 2 (by omega)
      clear hex
      have HP2_2 : Hid (Marked lo hi w (wm2.setCell ⟨bo, i * 7 + 2, none⟩ (.string s2))) := HF.out.put (HM2.out) i 2 hlt (by omega) (by omega) (.string s2) (fun _ _ _ h => by cases h)
      have hw3 : wrap64 (kk + 1 + 1 + 1) = kk + 1 + 1 + 1 := z8 _ ⟨by have a0 := HB.out; omega, by have a0 := HB.out; omega⟩
      have hsl3 := HT3.out.2 _ (HP2_2.out)
      go_wp2_with fail
      clear hfz3 hv3 hsl3
      refine (ziR lo hi bk3 _ bc3 _ _ (HT3.out.1.mono (HP2_2.out)) ((HL.out.2 i hlt)) (by have a0 := HB.out; omega) (by have a0 := HB.out; omega)).mono ?_
      rintro e wm3 ⟨k3, rfl, hke, hMn⟩
      have HM3 : Hid (Marked lo hi w wm3) := (HP2_2.out).trans hMn
      have HK3 : Hid (k3 = kk + 1 + 1 + 1 + ms[i].r.vs.length /\ ms[i].r.vs.length <= 1048576) := ⟨by omega, (HL.out.2 i hlt)⟩
      clear hMn hke
      go_wp2_with fail
      refine (zI _ _ (by have a0 := HB.out; have a1 := HK3.out; omega) (by have a0 := HB.out; have a1 := HK3.out; omega)).mono ?_
      rintro e wm4 ⟨s4, rfl, hb⟩
      have HM4 : Hid (Marked lo hi w wm4) := (HM3.out).trans (Marked.of_below hb)
      clear hb
      obtain ⟨hex, hfz4⟩ := HF.out.ready (HM4.out) i hlt
      obtain ⟨v4, hv4⟩ := hex 4 (by omega)
      clear hex
      have HP4_4 : Hid (Marked lo hi w (wm4.setCell ⟨bo, i * 7 + 4, none⟩ (.string s4))) := HF.out.put (HM4.out) i 4 hlt (by omega) (by omega) (.string s4) (fun _ _ _ h => by cases h)
      have hw4 : wrap64 (k3 + 1) = k3 + 1 := z8 _ ⟨by have a0 := HB.out; have a1 := HK3.out; omega, by have a0 := HB.out; have a1 := HK3.out; omega⟩
      go_wp2_with fail
      clear hfz4 hv4
      refine (zI _ _ (by have a0 := HB.out; have a1 := HK3.out; omega) (by have a0 := HB.out; have a1 := HK3.out; omega)).mono ?_
      rintro e wm5 ⟨s5, rfl, hb⟩
      have HM5 : Hid (Marked lo hi w wm5) := (HP4_4.out).trans (Marked.of_below hb)
      clear hb
      obtain ⟨hex, hfz5⟩ := HF.out.ready (HM5.out) i hlt
      obtain ⟨v5, hv5⟩ := hex 5 (by omega)
      clear hex
      have HP5_5 : Hid (Marked lo hi w (wm5.setCell ⟨bo, i * 7 + 5, none⟩ (.string s5))) := HF.out.put (HM5.out) i 5 hlt (by omega) (by omega) (.string s5) (fun _ _ _ h => by cases h)
      have hw5 : wrap64 (k3 + 1 + 1) = k3 + 1 + 1 := z8 _ ⟨by have a0 := HB.out; have a1 := HK3.out; omega, by have a0 := HB.out; have a1 := HK3.out; omega⟩
      go_wp2_with fail
      clear hfz5 hv5
      refine (zI _ _ (by have a0 := HB.out; have a1 := HK3.out; omega) (by have a0 := HB.out; have a1 := HK3.out; omega)).mono ?_
      rintro e wm6 ⟨s6, rfl, hb⟩
      have HM6 : Hid (Marked lo hi w wm6) := (HP5_5.out).trans (Marked.of_below hb)
      clear hb
      obtain ⟨hex, hfz6⟩ := HF.out.ready (HM6.out) i hlt
      obtain ⟨v6, hv6⟩ := hex 6 (by omega)
      clear hex
      have HP6_6 : Hid (Marked lo hi w (wm6.setCell ⟨bo, i * 7 + 6, none⟩ (.string s6))) := HF.out.put (HM6.out) i 6 hlt (by omega) (by omega) (.string s6) (fun _ _ _ h => by cases h)
      have hw6 : wrap64 (k3 + 1 + 1 + 1) = k3 + 1 + 1 + 1 := z8 _ ⟨by have a0 := HB.out; have a1 := HK3.out; omega, by have a0 := HB.out; have a1 := HK3.out; omega⟩
      go_wp2_with fail
      go_roundw
      case rel => exact ⟨i + 1, k3 + 1 + 1 + 1, by omega, by first | rfl | rw [hw6], by rw [wrap_one (by have := HL.out.1; omega)], by have a0 := HB.out; have a1 := HK3.out; omega, by have a0 := HB.out; have a1 := HK3.out; omega, HP6_6.out⟩
      case measure => exact qJ hlt (by have := HL.out.1; omega)
    · have e : i = ms.length := by omega
      subst e
      go_wp2_with fail
      go_ret
      exact ⟨kk, rfl, h1, h2, hM⟩
end Go.Proofs.YtfcdmlnpfoikhaaGreat

namespace Go.Proofs.YtfcdmlnpfoikhaaGreat
open Go.RowKit
structure jo (lo hi : Nat) (w : World) (bo : Nat) (ms : List Mnd) : Prop where
  low : lo <= bo
  high : bo < hi
  rows : ∃ C, w.heap[bo]? = some (.cells C 121) /\ C.size = ms.length * 6 /\ ∀ j, j < ms.length * 6 -> zaG C j
theorem jo.mono {lo hi : Nat} {w w' : World} {b : Nat} {ms : List Mnd} (h : jo lo hi w b ms) (hM : Marked lo hi w w') : jo lo hi w' b ms := by
  obtain ⟨C, hC, hs, hn⟩ := h.rows
  obtain ⟨C', hC', hs', hk⟩ := hM.inn b C _ h.low h.high hC
  exact ⟨h.low, h.high, C', hC', by omega, fun j hj a m c he => hn j hj a m c ((hk j a m c).1 he)⟩
theorem qF.form {lo : Nat} {w : World} {bo : Nat} {ms : List Mnd} (h : qF lo w bo ms ms.length) : jo lo w.heap.size w bo ms := by
  obtain ⟨C, hC, hsz, hr⟩ := h.rows
  refine ⟨h.low, (Array.getElem?_eq_some_iff.1 hC).1, C, hC, hsz, fun j hj a n c he => ?_⟩
  have hi : j / 6 < ms.length := by omega
  have e : j = j / 6 * 6 + j % 6 := by omega
  rw [e, hr (j / 6) hi hi (j % 6) (by omega)] at he
  have h6 : j % 6 < 6 := by omega
  revert he
  generalize j % 6 = q at h6
  intro he
  rcases q with _ | _ | _ | _ | _ | _ | q <;> first | omega | (simp [Mnd.cells] at he)
theorem jo.ready {lo hi bo : Nat} {w W : World} {ms : List Mnd} (h : jo lo hi w bo ms) (hM : Marked lo hi w W) (i : Nat) (hi' : i < ms.length) :
    (∀ j, j < 6 -> ∃ v, W.cell? ⟨bo, i * 6 + j, none⟩ = some v) /\ (∀ o, W.frozen? ⟨bo, o, none⟩ = false) := by
  have h' := h.mono hM
  obtain ⟨C, hC, hs, hn⟩ := h'.rows
  exact ⟨fun j hj => ⟨C[i * 6 + j]'(by omega), by rw [cell_of_block hC]; exact Array.getElem?_eq_getElem (by omega)⟩, fun o => zh hC⟩
theorem jo.put {lo hi bo : Nat} {w W : World} {ms : List Mnd} (h : jo lo hi w bo ms) (hM : Marked lo hi w W) (i j : Nat) (hi' : i < ms.length) (hj : j < 6) (v : Value) (hv : ∀ a n c, v ≠ Value.slice a n c) : Marked lo hi w (W.setCell ⟨bo, i * 6 + j, none⟩ v) := by
  obtain ⟨C, hC, hs, hn⟩ := h.rows
  exact hM.put h.low h.high hC (hn (i * 6 + j) (by omega)) v hv
set_option maxRecDepth 20000 in
set_option maxHeartbeats 4000000 in
theorem ze2 (lo hi bo cap : Nat) (ms : List Mnd) (k : Int) (w : World) (h : jo lo hi w bo ms) (hl : ms.length <= 1048576) (hk : 0 < k) (hk2 : k < 6000000000000000000) :
    Calls Tryz.prog 43 #[.slice (some ⟨bo, 0, none⟩) ms.length cap, .int .i64 k] w fun e w' => ∃ k', e = .returned (.int .i64 k') /\ k <= k' /\ k' <= k + ms.length * 6 /\ Marked lo hi w w' := by
  have HF : Hid (jo lo hi w bo ms) := h
  have HL : Hid (ms.length <= 1048576) := hl
  have HK : Hid (0 < k /\ k < 6000000000000000000) := ⟨hk, hk2⟩
  clear h hl hk hk2
  go_enter Tryz.func43, Tryz.ntmps43
  go_wp2_with fail
  go_loopw [1, 5] (fun kv iv wr => ∃ (i : Nat) (kk : Int), i <= ms.length /\ kv = .int .i64 kk /\ iv = .int .i64 i /\ k <= kk /\ kk <= k + i * 6 /\ Marked lo hi w wr) (fun _ iv _ => ms.length - (intOf iv).toNat)
  case atStart => exact ⟨0, k, Nat.zero_le _, rfl, rfl, Int.le_refl _, by simp, Marked.refl _ _ _⟩
  case round =>
    obtain ⟨i, kk, hile, rfl, rfl, h1, h2, hM⟩ := hrel
    by_cases hlt : i < ms.length
    · have hltI : (i : Int) < (ms.length : Int) := by omega
      have HB : Hid (0 < kk /\ kk < 7000000000000000000 /\ kk <= k + i * 6 /\ k <= kk) := by have a := HK.out; have b := HL.out; exact ⟨by omega, by omega, h2, h1⟩
      have HM : Hid (Marked lo hi w wr) := hM
      clear h1 h2 hM
      have hw1 : wrap64 (kk + 1) = kk + 1 := by have := HB.out; exact z8 _ ⟨by omega, by omega⟩
      have hw2 : wrap64 (kk + 1 + 1) = kk + 1 + 1 := by have := HB.out; exact z8 _ ⟨by omega, by omega⟩
      have hw3 : wrap64 (kk + 1 + 1 + 1) = kk + 1 + 1 + 1 := by have := HB.out; exact z8 _ ⟨by omega, by omega⟩
      have hw4 : wrap64 (kk + 1 + 1 + 1 + 1) = kk + 1 + 1 + 1 + 1 := by have := HB.out; exact z8 _ ⟨by omega, by omega⟩
      have hw5 : wrap64 (kk + 1 + 1 + 1 + 1 + 1) = kk + 1 + 1 + 1 + 1 + 1 := by have := HB.out; exact z8 _ ⟨by omega, by omega⟩
      have hw6 : wrap64 (kk + 1 + 1 + 1 + 1 + 1 + 1) = kk + 1 + 1 + 1 + 1 + 1 + 1 := by have := HB.out; exact z8 _ ⟨by omega, by omega⟩
      go_wp2_with fail
      refine (zI _ _ (by have := HB.out; omega) (by have := HB.out; omega)).mono ?_
      rintro e wm0 ⟨s0, rfl, hb⟩
      have HM0 : Hid (Marked lo hi w wm0) := HM.out.trans (Marked.of_below hb)
      clear hb
      obtain ⟨hex, hfz⟩ := HF.out.ready HM0.out i hlt
      obtain ⟨v0, hv0⟩ := hex 0 (by omega)
      rw [Nat.add_zero] at hv0
      have HP0 : Hid (Marked lo hi w (wm0.setCell ⟨bo, i * 6, none⟩ (.string s0))) := HF.out.put HM0.out i 0 hlt (by omega) (.string s0) (fun _ _ _ h => by cases h)
      clear hex
      go_wp2_with fail
      clear hv0 hfz
      refine (zI _ _ (by have := HB.out; omega) (by have := HB.out; omega)).mono ?_
      rintro e wm1 ⟨s1, rfl, hb⟩
      have HM1 : Hid (Marked lo hi w wm1) := HP0.out.trans (Marked.of_below hb)
      clear hb
      obtain ⟨hex, hfz⟩ := HF.out.ready HM1.out i hlt
      obtain ⟨v1, hv1⟩ := hex 1 (by omega)
      have HP1 : Hid (Marked lo hi w (wm1.setCell ⟨bo, i * 6 + 1, none⟩ (.string s1))) := HF.out.put HM1.out i 1 hlt (by omega) (.string s1) (fun _ _ _ h => by cases h)
      clear hex
      go_wp2_with fail
      clear hv1 hfz
      refine (zI _ _ (by have := HB.out; omega) (by have := HB.out; omega)).mono ?_
      rintro e wm2 ⟨s2, rfl, hb⟩
      have HM2 : Hid (Marked lo hi w wm2) := HP1.out.trans (Marked.of_below hb)
      clear hb
      obtain ⟨hex, hfz⟩ := HF.out.ready HM2.out i hlt
      obtain ⟨v2, hv2⟩ := hex 2 (by omega)
      have HP2 : Hid (Marked lo hi w (wm2.setCell ⟨bo, i * 6 + 2, none⟩ (.string s2))) := HF.out.put HM2.out i 2 hlt (by omega) (.string s2) (fun _ _ _ h => by cases h)
      clear hex
      go_wp2_with fail
      clear hv2 hfz
      refine (zI _ _ (by have := HB.out; omega) (by have := HB.out; omega)).mono ?_
      rintro e wm3 ⟨s3, rfl, hb⟩
      have HM3 : Hid (Marked lo hi w wm3) := HP2.out.trans (Marked.of_below hb)
      clear hb
      obtain ⟨hex, hfz⟩ := HF.out.ready HM3.out i hlt
      obtain ⟨v3, hv3⟩ := hex 3 (by omega)
      have HP3 : Hid (Marked lo hi w (wm3.setCell ⟨bo, i * 6 + 3, none⟩ (.string s3))) := HF.out.put HM3.out i 3 hlt (by omega) (.string s3) (fun _ _ _ h => by cases h)
      clear hex
      go_wp2_with fail
      clear hv3 hfz
      refine (zI _ _ (by have := HB.out; omega) (by have := HB.out; omega)).mono ?_
      rintro e wm4 ⟨s4, rfl, hb⟩
      have HM4 : Hid (Marked lo hi w wm4) := HP3.out.trans (Marked.of_below hb)
      clear hb
      obtain ⟨hex, hfz⟩ := HF.out.ready HM4.out i hlt
      obtain ⟨v4, hv4⟩ := hex 4 (by omega)
      have HP4 : Hid (Marked lo hi w (wm4.setCell ⟨bo, i * 6 + 4, none⟩ (.string s4))) := HF.out.put HM4.out i 4 hlt (by omega) (.string s4) (fun _ _ _ h => by cases h)
      clear hex
      go_wp2_with fail
      clear hv4 hfz
      refine (zI _ _ (by have := HB.out; omega) (by have := HB.out; omega)).mono ?_
      rintro e wm5 ⟨s5, rfl, hb⟩
      have HM5 : Hid (Marked lo hi w wm5) := HP4.out.trans (Marked.of_below hb)
      clear hb
      obtain ⟨hex, hfz⟩ := HF.out.ready HM5.out i hlt
      obtain ⟨v5, hv5⟩ := hex 5 (by omega)
      have HP5 : Hid (Marked lo hi w (wm5.setCell ⟨bo, i * 6 + 5, none⟩ (.string s5))) := HF.out.put HM5.out i 5 hlt (by omega) (.string s5) (fun _ _ _ h => by cases h)
      clear hex
      go_wp2_with fail
      go_roundw
      case rel => exact ⟨i + 1, kk + 1 + 1 + 1 + 1 + 1 + 1, by omega, by rw [hw6], by rw [wrap_one (by have := HL.out; omega)], by have a := HB.out; omega, by have a := HB.out; omega, HP5.out⟩
      case measure => exact qJ hlt (by have := HL.out; omega)
    · have e : i = ms.length := by omega
      subst e
      go_wp2_with fail
      go_ret
      exact ⟨kk, rfl, h1, h2, hM⟩
end Go.Proofs.YtfcdmlnpfoikhaaGreat
