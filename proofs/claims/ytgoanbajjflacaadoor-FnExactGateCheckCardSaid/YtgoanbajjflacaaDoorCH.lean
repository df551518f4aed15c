import Derived.Test.YtgoanbajjflacaaDoorZA
import Derived.Test.YtgoanbajjflacaaDoorZB
import Derived.Test.YtgoanbajjflacaaDoorZC
import Derived.Test.YtgoanbajjflacaaDoorCD
import Derived.Test.YtgoanbajjflacaaDoorCF
import Derived.Test.YtgoanbajjflacaaDoorCG
namespace Go.Proofs.YtgoanbajjflacaaDoor
open Go.RowKit

theorem shps_few {ss : List Shp} (h : (shpsSz ss : Int) ≤ 1048576) : ss.length ≤ 1048576 ∧ ∀ i (h : i < ss.length), ss[i].fs.length ≤ 1048576 ∧ ∀ j (h' : j < ss[i].fs.length), ss[i].fs[j].ws.length ≤ 1048576 := by
  unfold shpsSz at h
  refine ⟨by omega, fun i hi => ?_⟩
  have h1 : Shp.sz ss[i] ≤ sumS ss := sum_mem Shp.sz ss i hi
  unfold Shp.sz fldsSz at h1
  refine ⟨by omega, fun j hj => ?_⟩
  have h2 : Fld.sz ss[i].fs[j] ≤ sumF ss[i].fs := sum_mem Fld.sz ss[i].fs j hj
  unfold Fld.sz fldSz strsSz at h2
  omega

theorem ob_few {o : Ob} {l : Int} (h : (obSz o : Int) ≤ l) (hl : l ≤ 1048576) : o.vs.length ≤ 1048576 ∧ o.hs.length ≤ 1048576 := by
  unfold obSz strsSz at h
  omega

theorem ob_own {w w' : World} {o : Ob} {a a' : Option Addr} {bv bh : Nat} (ho : ObAt w o a a') (h1 : w'.heap[bv]? = some (.cells (strArr o.vs) 9)) (h2 : w'.heap[bh]? = some (.cells (strArr o.hs) 9)) : ObAt w' o (some ⟨bv, 0, none⟩) (some ⟨bh, 0, none⟩) :=
  ⟨ho.small, heap_strs h1 ho.vals.len ho.vals.small, heap_strs h2 ho.holds.len ho.holds.small⟩

set_option maxHeartbeats 2000000 in
theorem lawCheck_any (a0 : Option Addr) (cap0 : Nat) (ss : List Shp) (o : Ob) (a a' : Option Addr) (cap cap' : Nat) (w : World) (hL : Laid w) (hw : ShpsAt w a0 ss) (ho : ObAt w o a a') :
    Calls Tryd.prog 3 #[.slice a0 ss.length cap0, .agg #[.string o.kd, .string o.nm, .string o.tm, .slice a o.vs.length cap, .bool o.en, .slice a' o.hs.length cap', .int .i64 o.vr]] w fun e w' => e = .returned (.bool true) ∧ Below w.heap.size w w' := by
  have hb0 : Below w.heap.size w (w.alloc (.cells #[.string o.kd, .string o.nm, .string o.tm, .slice a o.vs.length cap, .bool o.en, .slice a' o.hs.length cap', .int .i64 o.vr] 25)) := (Below.refl _ _).alloc (Nat.le_refl _) _
  by_cases hsz : (shpsSz ss : Int) ≤ 1048576
  rotate_left
  · go_enter Tryd.func3, Tryd.ntmps3
    go_wp2_with fail
    refine (szGateShapeS_any _ _ _ _ _ (hw.mono hb0) (by omega) (by omega)).mono ?_
    rintro e w1 ⟨rfl, hb1⟩
    rw [szRes_no (by omega)]
    go_wp2_with fail
    go_ret
    exact ⟨rfl, hb0.trans (hb1.mono (by simp))⟩
  have HLS : Hid (ss.length ≤ 1048576 ∧ ∀ i (h : i < ss.length), ss[i].fs.length ≤ 1048576 ∧ ∀ j (h' : j < ss[i].fs.length), ss[i].fs[j].ws.length ≤ 1048576) := shps_few hsz
  have hneg : decide (1048576 - (shpsSz ss : Int) < 0) = false := by simp; omega
  by_cases hoz : (obSz o : Int) ≤ 1048576 - (shpsSz ss : Int)
  rotate_left
  · go_enter Tryd.func3, Tryd.ntmps3
    go_wp2_with fail
    refine (szGateShapeS_any _ _ _ _ _ (hw.mono hb0) (by omega) (by omega)).mono ?_
    rintro e w1 ⟨rfl, hb1⟩
    rw [szRes_yes hsz]
    have hX1 := box_later (box_new w _ _) (by simp) hb1
    have hB1 := hb0.trans (hb1.mono (by simp))
    clear hb1 hb0
    go_wp2_with fail
    refine (szGateObject_any _ _ _ _ _ _ _ (ho.mono hB1) (by omega) (by omega)).mono ?_
    rintro e w2 ⟨rfl, hb2⟩
    rw [szRes_no (by omega)]
    go_wp2_with fail
    go_ret
    exact ⟨rfl, hB1.trans (hb2.mono hB1.size)⟩
  have HLO : Hid (o.vs.length ≤ 1048576 ∧ o.hs.length ≤ 1048576) := ob_few hoz (by omega)
  have hneg' : decide (1048576 - (shpsSz ss : Int) - (obSz o : Int) < 0) = false := by simp; omega
  have hml : ss.length ≤ maxLen := hw.len
  have hsm := hw.smalls
  go_enter Tryd.func3, Tryd.ntmps3
  go_wp2_with fail
  refine (szGateShapeS_any _ _ _ _ _ (hw.mono hb0) (by omega) (by omega)).mono ?_
  rintro e w1 ⟨rfl, hb1⟩
  rw [szRes_yes hsz]
  have hX1 := box_later (box_new w _ _) (by simp) hb1
  have hz1 : w.heap.size < w1.heap.size := by have := hb1.size; simp at this; omega
  have hB1 := hb0.trans (hb1.mono (by simp))
  clear hb1 hb0
  go_wp2_with fail
  refine (szGateObject_any _ _ _ _ _ _ _ (ho.mono hB1) (by omega) (by omega)).mono ?_
  rintro e w2 ⟨rfl, hb2⟩
  rw [szRes_yes hoz]
  have hX2 := box_later hX1 hz1 hb2
  have hz2 : w.heap.size < w2.heap.size := by have := hb2.size; omega
  have hB2 := hB1.trans (hb2.mono hB1.size)
  clear hX1 hz1 hB1 hb2
  go_wp2_with fail
  have hB := hB2.drew
  have hX := box_later hX2 hz2 (Below.refl w2.heap.size w2).drew
  have hz : w.heap.size < w2.drew.heap.size := hz2
  clear hB2 hX2 hz2
  go_region_with (first
    | (go_at_call 7; refine (toGateShapeS_any _ _ _ _ (by exact hw.mono hB) HLS.out.1 HLS.out.2).mono ?_; rintro e w3 ⟨rfl, hown, hb⟩; have hs := hown.at hsm hml; clear hown; (try have hoo := hoo.mono hb); have hX := box_later hX hz hb; have hB := hB.trans (hb.mono hB.size); have hz := Nat.lt_of_lt_of_le hz hb.size; clear hb)
    | (go_at_call 8; refine (toGateObject_any _ _ _ _ _ _ (by exact ho.mono hB) HLO.out.1 HLO.out.2).mono ?_; rintro e w3 ⟨bv3, bh3, rfl, hlo, hhi, hne, hv3, hh3, hb⟩; have hoo := ob_own ho hv3 hh3; clear hlo hhi hne hv3 hh3; (try have hs := hs.mono hb); have hX := box_later hX hz hb; have hB := hB.trans (hb.mono hB.size); have hz := Nat.lt_of_lt_of_le hz hb.size; clear hb)
    | (go_at_call 6; refine (specCheck_any _ _ _ _ _ _ _ _ _ (by exact hs) (by exact hoo)).mono ?_; rintro e w3 ⟨rfl, hb⟩; clear hs hoo; have hX := box_later hX hz hb; have hB := hB.trans (hb.mono hB.size); have hz := Nat.lt_of_lt_of_le hz hb.size; clear hb))
  all_goals
    go_wp2_with fail
    refine (toGateShapeS_any _ _ _ _ (hw.mono hB) HLS.out.1 HLS.out.2).mono ?_
    rintro e w4 ⟨rfl, hown, hb⟩
    have hs4 := hown.at hsm hml
    have hX4 := box_later hX hz hb
    have hz4 := Nat.lt_of_lt_of_le hz hb.size
    have hB4 := hB.trans (hb.mono hB.size)
    clear hown hb hX hz hB
    go_wp2_with fail
    refine (toGateObject_any _ _ _ _ _ _ (ho.mono hB4) HLO.out.1 HLO.out.2).mono ?_
    rintro e w5 ⟨bv5, bh5, rfl, hlo, hhi, hne, hv, hh, hb⟩
    have ho5 := ob_own ho hv hh
    have hs5 := hs4.mono hb
    have hX5 := box_later hX4 hz4 hb
    have hz5 := Nat.lt_of_lt_of_le hz4 hb.size
    have hB5 := hB4.trans (hb.mono hB4.size)
    clear hlo hhi hne hv hh hb hs4 hX4 hz4 hB4
    go_wp2_with fail
    refine (implCheck_any _ _ _ _ _ _ _ _ _ (hL.mono (hB5.alloc hB5.size _)) (by exact hs5.mono ((Below.refl _ _).alloc (Nat.le_refl _) _)) (by exact ho5.mono ((Below.refl _ _).alloc (Nat.le_refl _) _))).mono ?_
    rintro e w6 ⟨rfl, hb6⟩
    have hY := box_later (box_new w5 _ _) (by simp) hb6
    have hy : w5.heap.size < w6.heap.size := by have := hb6.size; simp at this; omega
    have hb : Below w5.heap.size w5 w6 := ((Below.refl _ _).alloc (Nat.le_refl _) _).trans (hb6.mono (by simp))
    have hX6 := box_later hX5 hz5 hb
    have hz6 := Nat.lt_of_lt_of_le hz5 hb.size
    have hB6 := hB5.trans (hb.mono hB5.size)
    have hs6 := hs5.mono hb
    have ho6 := ho5.mono hb
    clear hb hb6 hX5 hz5 hB5 hs5 ho5
    go_wp2_with fail
    refine (toGateShapeS_any _ _ _ _ (hw.mono hB6) HLS.out.1 HLS.out.2).mono ?_
    rintro e w7 ⟨rfl, hown, hb⟩
    have hs7' := hown.at hsm hml
    have hs7 := hs6.mono hb
    have ho7 := ho6.mono hb
    have hX7 := box_later hX6 hz6 hb
    have hz7 := Nat.lt_of_lt_of_le hz6 hb.size
    have hY7 := box_later hY hy hb
    have hy7 := Nat.lt_of_lt_of_le hy hb.size
    have hB7 := hB6.trans (hb.mono hB6.size)
    clear hb hown hX6 hz6 hB6 hs6 ho6 hY hy
    go_wp2_with fail
    refine (eqGateShapeS_yes _ _ _ _ _ _ hs7 hs7').mono ?_
    rintro e w8 ⟨rfl, hb⟩
    have ho8 := ho7.mono hb
    have hX8 := box_later hX7 hz7 hb
    have hz8 := Nat.lt_of_lt_of_le hz7 hb.size
    have hY8 := box_later hY7 hy7 hb
    have hy8 := Nat.lt_of_lt_of_le hy7 hb.size
    have hB8 := hB7.trans (hb.mono hB7.size)
    clear hb hX7 hz7 hB7 hs7 hs7' ho7 hY7 hy7
    go_wp2_with fail
    go_region_with (first
      | (go_at_call 8; refine (toGateObject_any _ _ _ _ _ _ (by exact ho.mono hB8.drew) HLO.out.1 HLO.out.2).mono ?_; rintro e w9 ⟨bv9, bh9, rfl, hlo, hhi, hne, hv, hh, hb9'⟩; have hb9 := (Below.refl w8.heap.size w8).drew.trans hb9'; have hY9 := box_later hY8 hy8 hb9; have ho9 := ob_own ho hv hh; clear hb9' hlo hhi hne hv hh)
      | (go_at_call 11; refine (eqGateObject_yes _ _ _ _ _ _ _ _ _ _ (by exact ho8.mono hb9) (by exact ho9)).mono ?_; rintro e wA ⟨rfl, hbA⟩))
    all_goals go_wp2_with fail
    all_goals go_ret
    all_goals exact ⟨rfl, (hB8.trans (hb9.mono hB8.size)).trans (hbA.mono (Nat.le_trans hB8.size hb9.size))⟩

end Go.Proofs.YtgoanbajjflacaaDoor
