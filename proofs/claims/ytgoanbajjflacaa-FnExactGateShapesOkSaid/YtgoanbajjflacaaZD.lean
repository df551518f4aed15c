import Derived.Test.YtgoanbajjflacaaZA
import Derived.Test.YtgoanbajjflacaaZB
import Derived.Test.YtgoanbajjflacaaZC
import Derived.Test.YtgoanbajjflacaaYD
import Derived.Test.YtgoanbajjflacaaXJ
namespace Go.Proofs.Ytgoanbajjflacaa
open Go.RowKit

theorem shps_bounds {ss : List Shp} (h : (shpsSz ss : Int) ≤ 1048576) : ss.length ≤ 1048576 ∧ ∀ i (h : i < ss.length), ss[i].fs.length ≤ 1048576 ∧ ∀ j (h' : j < ss[i].fs.length), ss[i].fs[j].ws.length ≤ 1048576 := by
  unfold shpsSz at h
  refine ⟨by omega, fun i hi => ?_⟩
  have h1 : Shp.sz ss[i] ≤ sumS ss := sum_mem Shp.sz ss i hi
  unfold Shp.sz fldsSz at h1
  refine ⟨by omega, fun j hj => ?_⟩
  have h2 : Fld.sz ss[i].fs[j] ≤ sumF ss[i].fs := sum_mem Fld.sz ss[i].fs j hj
  unfold Fld.sz fldSz strsSz at h2
  omega

set_option maxHeartbeats 2000000 in
theorem lawShapes_any (a : Option Addr) (cap : Nat) (ss : List Shp) (w : World) (hw : ShpsAt w a ss) :
    Calls Try.prog 4 #[.slice a ss.length cap] w fun e w' => e = .returned (.bool true) ∧ Below w.heap.size w w' := by
  by_cases hsz : (shpsSz ss : Int) ≤ 1048576
  rotate_left
  · go_enter Try.func4, Try.ntmps4
    go_wp2_with fail
    refine (szGateShapeS_any _ _ _ _ _ hw (by omega) (by omega)).mono ?_
    rintro e w1 ⟨rfl, hb1⟩
    rw [szRes_no (by omega)]
    go_wp2_with fail
    go_ret
    exact ⟨rfl, hb1⟩
  · have HL : Hid (ss.length ≤ 1048576 ∧ ∀ i (h : i < ss.length), ss[i].fs.length ≤ 1048576 ∧ ∀ j (h' : j < ss[i].fs.length), ss[i].fs[j].ws.length ≤ 1048576) := shps_bounds hsz
    have hneg : decide (1048576 - (shpsSz ss : Int) < 0) = false := by simp; omega
    have hml : ss.length ≤ maxLen := hw.len
    have hsm := hw.smalls
    go_enter Try.func4, Try.ntmps4
    go_wp2_with fail
    refine (szGateShapeS_any _ _ _ _ _ hw (by omega) (by omega)).mono ?_
    rintro e w1 ⟨rfl, hB1⟩
    rw [szRes_yes hsz]
    have hw1 := hw.mono hB1
    go_wp2_with fail
    refine (toGateShapeS_any _ _ _ _ hw1 HL.out.1 HL.out.2).mono ?_
    rintro e w2 ⟨rfl, hown2, hb2⟩
    have hB2 := hB1.trans (hb2.mono hB1.size)
    have hs2 := hown2.at hsm hml
    clear hown2 hb2
    go_wp2_with fail
    refine (specShapesOk_any _ _ _ _ hs2).mono ?_
    rintro e w3 ⟨rfl, hb3⟩
    have hB3 := hB2.trans (hb3.mono hB2.size)
    clear hb3 hs2
    have hw3 := hw.mono hB3
    go_wp2_with fail
    refine (toGateShapeS_any _ _ _ _ hw3 HL.out.1 HL.out.2).mono ?_
    rintro e w4 ⟨rfl, hown4, hb4⟩
    have hB4 := hB3.trans (hb4.mono hB3.size)
    have hs4 := hown4.at hsm hml
    clear hown4 hb4
    go_wp2_with fail
    refine (implShapesOk_any _ _ _ _ hs4).mono ?_
    rintro e w5 ⟨rfl, hb5⟩
    have hB5 := hB4.trans (hb5.mono hB4.size)
    have hs5 := hs4.mono hb5
    have hw5 := hw.mono hB5
    clear hb5 hs4
    go_wp2_with fail
    refine (toGateShapeS_any _ _ _ _ hw5 HL.out.1 HL.out.2).mono ?_
    rintro e w6 ⟨rfl, hown6, hb6⟩
    have hB6 := hB5.trans (hb6.mono hB5.size)
    have hs6 := hown6.at hsm hml
    have hs56 := hs5.mono hb6
    clear hown6 hb6
    go_wp2_with fail
    refine (eqGateShapeS_yes _ _ _ _ _ _ hs56 hs6).mono ?_
    rintro e w7 ⟨rfl, hb7⟩
    have hB7 := hB6.trans (hb7.mono hB6.size)
    clear hb7
    go_wp2_with fail
    go_ret
    exact ⟨rfl, hB7⟩

end Go.Proofs.Ytgoanbajjflacaa
