import Derived.Test.YthclaldbcfljfabGreatDoorZA
import Derived.Test.YthclaldbcfljfabGreatDoorZB
import Derived.Test.YthclaldbcfljfabGreatDoorZC
import Derived.Test.YthclaldbcfljfabGreatDoorCHA
import Derived.Test.YthclaldbcfljfabGreatDoorDD
import Derived.Deep.RegionHeld3
namespace Go.Proofs.YthclaldbcfljfabGreatDoor
open Go.RowKit

set_option maxHeartbeats 4000000 in
theorem lawTurned_any (a0 : Option Addr) (cap0 : Nat) (ss : List Shp) (old o : Ob) (a a' b b' : Option Addr) (cap cap' dap dap' : Nat) (w : World) (hL : Laid w) (hw : ShpsAt w a0 ss) (ho : ObAt w old a a') (hn : ObAt w o b b') :
    Calls Tryz.prog 3 #[.slice a0 ss.length cap0, .agg #[.string old.kd, .string old.nm, .string old.tm, .slice a old.vs.length cap, .bool old.en, .slice a' old.hs.length cap', .int .i64 old.vr], .agg #[.string o.kd, .string o.nm, .string o.tm, .slice b o.vs.length dap, .bool o.en, .slice b' o.hs.length dap', .int .i64 o.vr]] w fun e w' => e = .returned (.bool true) ∧ Below w.heap.size w w' := by
  have hb0 : Below w.heap.size w ((w.alloc (.cells #[.string old.kd, .string old.nm, .string old.tm, .slice a old.vs.length cap, .bool old.en, .slice a' old.hs.length cap', .int .i64 old.vr] 25)).alloc (.cells #[.string o.kd, .string o.nm, .string o.tm, .slice b o.vs.length dap, .bool o.en, .slice b' o.hs.length dap', .int .i64 o.vr] 25)) := below2' _ _ _
  have hX0 : ∀ j, ((w.alloc (.cells #[.string old.kd, .string old.nm, .string old.tm, .slice a old.vs.length cap, .bool old.en, .slice a' old.hs.length cap', .int .i64 old.vr] 25)).alloc (.cells #[.string o.kd, .string o.nm, .string o.tm, .slice b o.vs.length dap, .bool o.en, .slice b' o.hs.length dap', .int .i64 o.vr] 25)).cell? ⟨w.heap.size, j, none⟩ = (#[.string old.kd, .string old.nm, .string old.tm, .slice a old.vs.length cap, .bool old.en, .slice a' old.hs.length cap', .int .i64 old.vr] : Array Value)[j]? := fun j => by
    rw [World.cell?_alloc_lt _ _ ⟨w.heap.size, j, none⟩ (by simp)]; exact box_new w _ _ j
  have hY0 : ∀ j, ((w.alloc (.cells #[.string old.kd, .string old.nm, .string old.tm, .slice a old.vs.length cap, .bool old.en, .slice a' old.hs.length cap', .int .i64 old.vr] 25)).alloc (.cells #[.string o.kd, .string o.nm, .string o.tm, .slice b o.vs.length dap, .bool o.en, .slice b' o.hs.length dap', .int .i64 o.vr] 25)).cell? ⟨w.heap.size + 1, j, none⟩ = (#[.string o.kd, .string o.nm, .string o.tm, .slice b o.vs.length dap, .bool o.en, .slice b' o.hs.length dap', .int .i64 o.vr] : Array Value)[j]? := fun j => by
    simp
  by_cases hsz : (shpsSz ss : Int) ≤ 1048576
  rotate_left
  · clear hX0 hY0
    go_enter Tryz.func3, Tryz.ntmps3
    go_wp2_with fail
    refine (szGateShapeS_any _ _ _ _ _ (hw.mono hb0) (by omega) (by omega)).mono ?_
    rintro e w1 ⟨rfl, hb1⟩
    rw [szRes_no (by omega)]
    go_wp2_with fail
    go_ret
    exact ⟨rfl, hb0.trans (hb1.mono (by simp; omega))⟩
  have HLS : Hid (ss.length ≤ 1048576 ∧ ∀ i (h : i < ss.length), ss[i].fs.length ≤ 1048576 ∧ ∀ j (h' : j < ss[i].fs.length), ss[i].fs[j].ws.length ≤ 1048576) := shps_few hsz
  have hneg : decide (1048576 - (shpsSz ss : Int) < 0) = false := by simp; omega
  by_cases hoz : (obSz old : Int) ≤ 1048576 - (shpsSz ss : Int)
  rotate_left
  · go_enter Tryz.func3, Tryz.ntmps3
    go_wp2_with fail
    refine (szGateShapeS_any _ _ _ _ _ (hw.mono hb0) (by omega) (by omega)).mono ?_
    rintro e w1 ⟨rfl, hb1⟩
    rw [szRes_yes hsz]
    have hX1 := box_later hX0 (by simp; omega) hb1
    have hY1 := box_later hY0 (by simp) hb1
    have hz1 : w.heap.size + 1 < w1.heap.size := by have := hb1.size; simp at this; omega
    have hB1 := hb0.trans (hb1.mono (by simp; omega))
    clear hb1 hb0 hX0 hY0
    go_wp2_with fail
    refine (szGateObject_any _ _ _ _ _ _ _ (ho.mono hB1) (by omega) (by omega)).mono ?_
    rintro e w2 ⟨rfl, hb2⟩
    rw [szRes_no (by omega)]
    go_wp2_with fail
    go_ret
    exact ⟨rfl, hB1.trans (hb2.mono hB1.size)⟩
  have HLO : Hid (old.vs.length ≤ 1048576 ∧ old.hs.length ≤ 1048576) := ob_few hoz (by omega)
  have hneg' : decide (1048576 - (shpsSz ss : Int) - (obSz old : Int) < 0) = false := by simp; omega
  by_cases hnz : (obSz o : Int) ≤ 1048576 - (shpsSz ss : Int) - (obSz old : Int)
  rotate_left
  · go_enter Tryz.func3, Tryz.ntmps3
    go_wp2_with fail
    refine (szGateShapeS_any _ _ _ _ _ (hw.mono hb0) (by omega) (by omega)).mono ?_
    rintro e w1 ⟨rfl, hb1⟩
    rw [szRes_yes hsz]
    have hX1 := box_later hX0 (by simp; omega) hb1
    have hY1 := box_later hY0 (by simp) hb1
    have hz1 : w.heap.size + 1 < w1.heap.size := by have := hb1.size; simp at this; omega
    have hB1 := hb0.trans (hb1.mono (by simp; omega))
    clear hb1 hb0 hX0 hY0
    go_wp2_with fail
    refine (szGateObject_any _ _ _ _ _ _ _ (ho.mono hB1) (by omega) (by omega)).mono ?_
    rintro e w2 ⟨rfl, hb2⟩
    rw [szRes_yes hoz]
    have hX2 := box_later hX1 (by omega) hb2
    have hY2 := box_later hY1 hz1 hb2
    have hz2 := Nat.lt_of_lt_of_le hz1 hb2.size
    have hB2 := hB1.trans (hb2.mono hB1.size)
    clear hX1 hY1 hz1 hB1 hb2
    go_wp2_with fail
    refine (szGateObject_any _ _ _ _ _ _ _ (hn.mono hB2) (by omega) (by omega)).mono ?_
    rintro e w2' ⟨rfl, hb2⟩
    rw [szRes_no (by omega)]
    go_wp2_with fail
    go_ret
    exact ⟨rfl, hB2.trans (hb2.mono hB2.size)⟩
  have HLN : Hid (o.vs.length ≤ 1048576 ∧ o.hs.length ≤ 1048576) := ob_few hnz (by omega)
  have hneg2 : decide (1048576 - (shpsSz ss : Int) - (obSz old : Int) - (obSz o : Int) < 0) = false := by simp; omega
  have hml : ss.length ≤ maxLen := hw.len
  have hsm := hw.smalls
  go_enter Tryz.func3, Tryz.ntmps3
  go_wp2_with fail
  refine (szGateShapeS_any _ _ _ _ _ (hw.mono hb0) (by omega) (by omega)).mono ?_
  rintro e w1 ⟨rfl, hb1⟩
  rw [szRes_yes hsz]
  have hX1 := box_later hX0 (by simp; omega) hb1
  have hY1 := box_later hY0 (by simp) hb1
  have hz1 : w.heap.size + 1 < w1.heap.size := by have := hb1.size; simp at this; omega
  have hB1 := hb0.trans (hb1.mono (by simp; omega))
  clear hb1 hb0 hX0 hY0
  go_wp2_with fail
  refine (szGateObject_any _ _ _ _ _ _ _ (ho.mono hB1) (by omega) (by omega)).mono ?_
  rintro e w2 ⟨rfl, hb2⟩
  rw [szRes_yes hoz]
  have hX2 := box_later hX1 (by omega) hb2
  have hY2 := box_later hY1 hz1 hb2
  have hz2 := Nat.lt_of_lt_of_le hz1 hb2.size
  have hB2 := hB1.trans (hb2.mono hB1.size)
  clear hX1 hY1 hz1 hB1 hb2
  go_wp2_with fail
  refine (szGateObject_any _ _ _ _ _ _ _ (hn.mono hB2) (by omega) (by omega)).mono ?_
  rintro e w2' ⟨rfl, hb2⟩
  rw [szRes_yes hnz]
  have hX3 := box_later hX2 (by omega) hb2
  have hY3 := box_later hY2 hz2 hb2
  have hz3 := Nat.lt_of_lt_of_le hz2 hb2.size
  have hB3 := hB2.trans (hb2.mono hB2.size)
  clear hX2 hY2 hz2 hB2 hb2
  go_wp2_with fail
  have hB := hB3.drew
  have hX := box_later hX3 (by omega) (Below.refl w2'.heap.size w2').drew
  have hY := box_later hY3 hz3 (Below.refl w2'.heap.size w2').drew
  have hz : w.heap.size + 1 < w2'.drew.heap.size := hz3
  clear hB3 hX3 hY3 hz3
  go_region_held3 (fun w' => (∀ j, w'.cell? ⟨w.heap.size, j, none⟩ = (#[.string old.kd, .string old.nm, .string old.tm, .slice a old.vs.length cap, .bool old.en, .slice a' old.hs.length cap', .int .i64 old.vr] : Array Value)[j]?) ∧ ∀ j, w'.cell? ⟨w.heap.size + 1, j, none⟩ = (#[.string o.kd, .string o.nm, .string o.tm, .slice b o.vs.length dap, .bool o.en, .slice b' o.hs.length dap', .int .i64 o.vr] : Array Value)[j]?) (exact ⟨hX, hY⟩) (first
    | (go_at_call 7; refine (toGateShapeS_any _ _ _ _ (by exact hw.mono hB) HLS.out.1 HLS.out.2).mono ?_; rintro e w3 ⟨rfl, hown, hb⟩; have hs := hown.at hsm hml; clear hown; (try have hoo := hoo.mono hb); (try have hnn := hnn.mono hb); have hX := box_later hX (Nat.lt_of_succ_lt hz) hb; have hY := box_later hY hz hb; have hB := hB.trans (hb.mono hB.size); have hz := Nat.lt_of_lt_of_le hz hb.size; clear hb)
    | (go_at_call 8; have hready := hoo; clear hready; refine (toGateObject_any o _ _ _ _ _ (by exact hn.mono hB) HLN.out.1 HLN.out.2).mono ?_; rintro e w3 ⟨bv3, bh3, rfl, hlo, hhi, hne, hv3, hh3, hb⟩; have hnn := ob_own hn hv3 hh3; clear hlo hhi hne hv3 hh3; (try have hs := hs.mono hb); (try have hoo := hoo.mono hb); have hX := box_later hX (Nat.lt_of_succ_lt hz) hb; have hY := box_later hY hz hb; have hB := hB.trans (hb.mono hB.size); have hz := Nat.lt_of_lt_of_le hz hb.size; clear hb)
    | (go_at_call 8; refine (toGateObject_any old _ _ _ _ _ (by exact ho.mono hB) HLO.out.1 HLO.out.2).mono ?_; rintro e w3 ⟨bv3, bh3, rfl, hlo, hhi, hne, hv3, hh3, hb⟩; have hoo := ob_own ho hv3 hh3; clear hlo hhi hne hv3 hh3; (try have hs := hs.mono hb); (try have hnn := hnn.mono hb); have hX := box_later hX (Nat.lt_of_succ_lt hz) hb; have hY := box_later hY hz hb; have hB := hB.trans (hb.mono hB.size); have hz := Nat.lt_of_lt_of_le hz hb.size; clear hb)
    | (go_at_call 6; refine (specTurned_any _ _ _ _ _ _ _ _ _ _ _ _ _ _ (by exact hs) (by exact hoo) (by exact hnn)).mono ?_; rintro e w3 ⟨rfl, hb⟩; clear hs hoo hnn; have hX := box_later hX (Nat.lt_of_succ_lt hz) hb; have hY := box_later hY hz hb; have hB := hB.trans (hb.mono hB.size); have hz := Nat.lt_of_lt_of_le hz hb.size; clear hb))
  go_wp2_with fail
  refine (toGateShapeS_any _ _ _ _ (hw.mono hB) HLS.out.1 HLS.out.2).mono ?_
  rintro e w4 ⟨rfl, hown, hb⟩
  have hs4 := hown.at hsm hml
  have hX4 := box_later hX (Nat.lt_of_succ_lt hz) hb
  have hY4 := box_later hY hz hb
  have hz4 := Nat.lt_of_lt_of_le hz hb.size
  have hB4 := hB.trans (hb.mono hB.size)
  clear hown hb hX hY hz hB
  go_wp2_with fail
  refine (toGateObject_any old _ _ _ _ _ (ho.mono hB4) HLO.out.1 HLO.out.2).mono ?_
  rintro e w5 ⟨bv5, bh5, rfl, hlo, hhi, hne, hv, hh, hb⟩
  have hb' : Below w4.heap.size w4 (w5.alloc (.cells #[.string old.kd, .string old.nm, .string old.tm, .slice (some ⟨bv5, 0, none⟩) old.vs.length old.vs.length, .bool old.en, .slice (some ⟨bh5, 0, none⟩) old.hs.length old.hs.length, .int .i64 old.vr] 32)) := hb.alloc hb.size _
  have ho5 := (ob_own ho hv hh).mono ((Below.refl _ _).alloc (Nat.le_refl _) (.cells #[.string old.kd, .string old.nm, .string old.tm, .slice (some ⟨bv5, 0, none⟩) old.vs.length old.vs.length, .bool old.en, .slice (some ⟨bh5, 0, none⟩) old.hs.length old.hs.length, .int .i64 old.vr] 32))
  have hs5 := hs4.mono hb'
  have hX5 := box_later hX4 (Nat.lt_of_succ_lt hz4) hb'
  have hY5 := box_later hY4 hz4 hb'
  have hU5 := box_new w5 #[.string old.kd, .string old.nm, .string old.tm, .slice (some ⟨bv5, 0, none⟩) old.vs.length old.vs.length, .bool old.en, .slice (some ⟨bh5, 0, none⟩) old.hs.length old.hs.length, .int .i64 old.vr] 32
  have hz5 := Nat.lt_of_lt_of_le hz4 hb'.size
  have hB5 := hB4.trans (hb'.mono hB4.size)
  clear hlo hhi hne hv hh hb hb' hs4 hX4 hY4 hz4 hB4
  go_wp2_with fail
  have hu5 : w5.heap.size < (w5.alloc (.cells #[.string old.kd, .string old.nm, .string old.tm, .slice (some ⟨bv5, 0, none⟩) old.vs.length old.vs.length, .bool old.en, .slice (some ⟨bh5, 0, none⟩) old.hs.length old.hs.length, .int .i64 old.vr] 32)).heap.size := by simp
  refine (toGateObject_any o _ _ _ _ _ (hn.mono hB5) HLN.out.1 HLN.out.2).mono ?_
  rintro e w6 ⟨bv6, bh6, rfl, hlo, hhi, hne, hv, hh, hb'⟩
  have hb : Below (w5.alloc (.cells #[.string old.kd, .string old.nm, .string old.tm, .slice (some ⟨bv5, 0, none⟩) old.vs.length old.vs.length, .bool old.en, .slice (some ⟨bh5, 0, none⟩) old.hs.length old.hs.length, .int .i64 old.vr] 32)).heap.size (w5.alloc (.cells #[.string old.kd, .string old.nm, .string old.tm, .slice (some ⟨bv5, 0, none⟩) old.vs.length old.vs.length, .bool old.en, .slice (some ⟨bh5, 0, none⟩) old.hs.length old.hs.length, .int .i64 old.vr] 32)) (w6.alloc (.cells #[.string o.kd, .string o.nm, .string o.tm, .slice (some ⟨bv6, 0, none⟩) o.vs.length o.vs.length, .bool o.en, .slice (some ⟨bh6, 0, none⟩) o.hs.length o.hs.length, .int .i64 o.vr] 32)) := hb'.alloc hb'.size _
  have hn6 := (ob_own hn hv hh).mono ((Below.refl _ _).alloc (Nat.le_refl _) (.cells #[.string o.kd, .string o.nm, .string o.tm, .slice (some ⟨bv6, 0, none⟩) o.vs.length o.vs.length, .bool o.en, .slice (some ⟨bh6, 0, none⟩) o.hs.length o.hs.length, .int .i64 o.vr] 32))
  have hV6 := box_new w6 #[.string o.kd, .string o.nm, .string o.tm, .slice (some ⟨bv6, 0, none⟩) o.vs.length o.vs.length, .bool o.en, .slice (some ⟨bh6, 0, none⟩) o.hs.length o.hs.length, .int .i64 o.vr] 32
  have hv6 : w6.heap.size < (w6.alloc (.cells #[.string o.kd, .string o.nm, .string o.tm, .slice (some ⟨bv6, 0, none⟩) o.vs.length o.vs.length, .bool o.en, .slice (some ⟨bh6, 0, none⟩) o.hs.length o.hs.length, .int .i64 o.vr] 32)).heap.size := by simp
  have hs6 := hs5.mono hb
  have ho6 := ho5.mono hb
  have hX6 := box_later hX5 (Nat.lt_of_succ_lt hz5) hb
  have hY6 := box_later hY5 hz5 hb
  have hU6 := box_later hU5 hu5 hb
  have hu6 := Nat.lt_of_lt_of_le hu5 hb.size
  have hB6 := hB5.trans (hb.mono hB5.size)
  have hz6 := Nat.lt_of_lt_of_le hz5 hb.size
  clear hb hs5 ho5 hX5 hY5 hU5 hu5 hB5 hz5
  clear hlo hhi hne hv hh hb'
  go_wp2_with fail
  refine (implTurned_any _ _ _ _ _ _ _ _ _ _ _ _ _ _ (hL.mono hB6) (by exact hs6) (by exact ho6) (by exact hn6)).mono ?_
  rintro e w7 ⟨rfl, hb⟩
  have hs7 := hs6.mono hb
  have ho7 := ho6.mono hb
  have hn7 := hn6.mono hb
  have hX7 := box_later hX6 (Nat.lt_of_succ_lt hz6) hb
  have hY7 := box_later hY6 hz6 hb
  have hU7 := box_later hU6 hu6 hb
  have hV7 := box_later hV6 hv6 hb
  have hu7 := Nat.lt_of_lt_of_le hu6 hb.size
  have hv7 := Nat.lt_of_lt_of_le hv6 hb.size
  have hB7 := hB6.trans (hb.mono hB6.size)
  have hz7 := Nat.lt_of_lt_of_le hz6 hb.size
  clear hb hs6 ho6 hn6 hX6 hY6 hU6 hV6 hu6 hv6 hB6 hz6
  go_wp2_with fail
  refine (toGateShapeS_any _ _ _ _ (hw.mono hB7) HLS.out.1 HLS.out.2).mono ?_
  rintro e w8 ⟨rfl, hown, hb⟩
  have hs8' := hown.at hsm hml
  clear hown
  have hs8 := hs7.mono hb
  have ho8 := ho7.mono hb
  have hn8 := hn7.mono hb
  have hX8 := box_later hX7 (Nat.lt_of_succ_lt hz7) hb
  have hY8 := box_later hY7 hz7 hb
  have hU8 := box_later hU7 hu7 hb
  have hV8 := box_later hV7 hv7 hb
  have hu8 := Nat.lt_of_lt_of_le hu7 hb.size
  have hv8 := Nat.lt_of_lt_of_le hv7 hb.size
  have hB8 := hB7.trans (hb.mono hB7.size)
  have hz8 := Nat.lt_of_lt_of_le hz7 hb.size
  clear hb hs7 ho7 hn7 hX7 hY7 hU7 hV7 hu7 hv7 hB7 hz7
  go_wp2_with fail
  refine (eqGateShapeS_yes _ _ _ _ _ _ hs8 hs8').mono ?_
  rintro e w9 ⟨rfl, hb⟩
  clear hs8'
  have ho9 := ho8.mono hb
  have hn9 := hn8.mono hb
  have hX9 := box_later hX8 (Nat.lt_of_succ_lt hz8) hb
  have hY9 := box_later hY8 hz8 hb
  have hU9 := box_later hU8 hu8 hb
  have hV9 := box_later hV8 hv8 hb
  have hu9 := Nat.lt_of_lt_of_le hu8 hb.size
  have hv9 := Nat.lt_of_lt_of_le hv8 hb.size
  have hB9 := hB8.trans (hb.mono hB8.size)
  have hz9 := Nat.lt_of_lt_of_le hz8 hb.size
  clear hb ho8 hn8 hX8 hY8 hU8 hV8 hu8 hv8 hB8 hz8
  clear hs8
  go_wp2_with fail
  have hb0 : Below w9.heap.size w9 w9.drew := (Below.refl w9.heap.size w9).drew
  have hX := box_later hX9 (Nat.lt_of_succ_lt hz9) hb0
  have hY := box_later hY9 hz9 hb0
  have hU := box_later hU9 hu9 hb0
  have hV := box_later hV9 hv9 hb0
  have hu := Nat.lt_of_lt_of_le hu9 hb0.size
  have hv := Nat.lt_of_lt_of_le hv9 hb0.size
  have hz := Nat.lt_of_lt_of_le hz9 hb0.size
  have hB := hB9.trans (hb0.mono hB9.size)
  have hoo := ho9.mono hb0
  have hnn := hn9.mono hb0
  clear hb0 hX9 hY9 hU9 hV9 hz9 hu9 hv9 hB9 ho9 hn9
  go_region_held3 (fun w' => (∀ j, w'.cell? ⟨w.heap.size, j, none⟩ = (#[.string old.kd, .string old.nm, .string old.tm, .slice a old.vs.length cap, .bool old.en, .slice a' old.hs.length cap', .int .i64 old.vr] : Array Value)[j]?) ∧ ∀ j, w'.cell? ⟨w5.heap.size, j, none⟩ = (#[.string old.kd, .string old.nm, .string old.tm, .slice (some ⟨bv5, 0, none⟩) old.vs.length old.vs.length, .bool old.en, .slice (some ⟨bh5, 0, none⟩) old.hs.length old.hs.length, .int .i64 old.vr] : Array Value)[j]?) (exact ⟨hX, hU⟩) (first
    | (go_at_call 8; refine (toGateObject_any old _ _ _ _ _ (by exact ho.mono hB) HLO.out.1 HLO.out.2).mono ?_; rintro e w10 ⟨bv, bh, rfl, hlo, hhi, hne, hv', hh, hb⟩; have hq := ob_own ho hv' hh; clear hlo hhi hne hv' hh; have hX := box_later hX (Nat.lt_of_succ_lt hz) hb; have hY := box_later hY hz hb; have hU := box_later hU hu hb; have hV := box_later hV hv hb; have hu := Nat.lt_of_lt_of_le hu hb.size; have hv := Nat.lt_of_lt_of_le hv hb.size; have hz := Nat.lt_of_lt_of_le hz hb.size; have hB := hB.trans (hb.mono hB.size); have hoo := hoo.mono hb; have hnn := hnn.mono hb; clear hb)
    | (go_at_call 11; refine (eqGateObject_yes _ _ _ _ _ _ _ _ _ _ (by exact hoo) (by exact hq)).mono ?_; rintro e w11 ⟨rfl, hb⟩; clear hq; have hX := box_later hX (Nat.lt_of_succ_lt hz) hb; have hY := box_later hY hz hb; have hU := box_later hU hu hb; have hV := box_later hV hv hb; have hu := Nat.lt_of_lt_of_le hu hb.size; have hv := Nat.lt_of_lt_of_le hv hb.size; have hz := Nat.lt_of_lt_of_le hz hb.size; have hB := hB.trans (hb.mono hB.size); have hnn := hnn.mono hb; clear hb))
  go_wp2_with fail
  have hb0 := (Below.refl w11.heap.size w11).drew
  have hY := box_later hY hz hb0
  have hX := box_later hX (Nat.lt_of_succ_lt hz) hb0
  have hU := box_later hU hu hb0
  have hV := box_later hV hv hb0
  have hu := Nat.lt_of_lt_of_le hu hb0.size
  have hv := Nat.lt_of_lt_of_le hv hb0.size
  have hz := Nat.lt_of_lt_of_le hz hb0.size
  have hB := hB.trans (hb0.mono hB.size)
  have hnn := hnn.mono hb0
  clear hb0
  go_region_held3 (fun w' => (∀ j, w'.cell? ⟨w.heap.size + 1, j, none⟩ = (#[.string o.kd, .string o.nm, .string o.tm, .slice b o.vs.length dap, .bool o.en, .slice b' o.hs.length dap', .int .i64 o.vr] : Array Value)[j]?) ∧ ∀ j, w'.cell? ⟨w6.heap.size, j, none⟩ = (#[.string o.kd, .string o.nm, .string o.tm, .slice (some ⟨bv6, 0, none⟩) o.vs.length o.vs.length, .bool o.en, .slice (some ⟨bh6, 0, none⟩) o.hs.length o.hs.length, .int .i64 o.vr] : Array Value)[j]?) (exact ⟨hY, hV⟩) (first
    | (go_at_call 8; refine (toGateObject_any o _ _ _ _ _ (by exact hn.mono hB) HLN.out.1 HLN.out.2).mono ?_; rintro e w12 ⟨bv, bh, rfl, hlo, hhi, hne, hv', hh, hb⟩; have hq := ob_own hn hv' hh; clear hlo hhi hne hv' hh; have hX := box_later hX (Nat.lt_of_succ_lt hz) hb; have hY := box_later hY hz hb; have hU := box_later hU hu hb; have hV := box_later hV hv hb; have hu := Nat.lt_of_lt_of_le hu hb.size; have hv := Nat.lt_of_lt_of_le hv hb.size; have hz := Nat.lt_of_lt_of_le hz hb.size; have hB := hB.trans (hb.mono hB.size); have hnn := hnn.mono hb; clear hb)
    | (go_at_call 11; refine (eqGateObject_yes _ _ _ _ _ _ _ _ _ _ (by exact hnn) (by exact hq)).mono ?_; rintro e w13 ⟨rfl, hb⟩; clear hq; have hX := box_later hX (Nat.lt_of_succ_lt hz) hb; have hY := box_later hY hz hb; have hU := box_later hU hu hb; have hV := box_later hV hv hb; have hu := Nat.lt_of_lt_of_le hu hb.size; have hv := Nat.lt_of_lt_of_le hv hb.size; have hz := Nat.lt_of_lt_of_le hz hb.size; have hB := hB.trans (hb.mono hB.size); clear hb))
  go_wp2_with fail
  go_ret
  exact ⟨rfl, hB⟩

end Go.Proofs.YthclaldbcfljfabGreatDoor
