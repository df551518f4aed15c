import Derived.Test.YthclaldbcfljfabGreatDoorXJ
import Derived.Test.YthclaldbcfljfabGreatDoorOX
namespace Go.Proofs.YthclaldbcfljfabGreatDoor
open Go.RowKit

/-- An error of this program: nothing, or a code and a place. -/
def errV (c p : Int) : Value := if c = 0 then .nilIface else .iface 68 (.agg #[.int .i64 c, .int .i64 p])

theorem errV_zero (p : Int) : errV 0 p = .nilIface := rfl
theorem errV_one : errV 1 0 = .iface 68 (.agg #[.int .i64 1, .int .i64 0]) := rfl

set_option maxHeartbeats 400000 in
theorem wholeUnless_yes (w : World) : Calls Tryz.prog 60 #[.bool true] w fun e w' => e = .returned .nilIface ∧ w' = w := by
  go_enter Tryz.func60, Tryz.ntmps60
  go_wp2
  go_ret
  exact ⟨rfl, rfl⟩

set_option maxHeartbeats 400000 in
theorem wholeUnless_no (w : World) : Calls Tryz.prog 60 #[.bool false] w fun e w' => e = .returned (.iface 68 (.agg #[.int .i64 1, .int .i64 0])) ∧ w' = w := by
  go_enter Tryz.func60, Tryz.ntmps60
  go_wp2
  go_ret
  exact ⟨rfl, rfl⟩

def wholeErr (b : Bool) : Value := if b then .nilIface else .iface 68 (.agg #[.int .i64 1, .int .i64 0])

theorem wholeUnless_any (b : Bool) (w : World) : Calls Tryz.prog 60 #[.bool b] w fun e w' => e = .returned (wholeErr b) ∧ w' = w := by
  cases b
  · exact wholeUnless_no w
  · exact wholeUnless_yes w

theorem ret_err {a b : Bool} (h : a = b) : Ending.returned (wholeErr a) = .returned (wholeErr b) := by rw [h]

set_option maxHeartbeats 1000000 in
theorem checkNames_any (a0 : Option Addr) (cap0 : Nat) (ss : List Shp) (o : Ob) (a a' : Option Addr) (cap cap' : Nat) (w : World) (ho : ObAt w o a a') :
    Calls Tryz.prog 55 #[.slice a0 ss.length cap0, .agg #[.string o.kd, .string o.nm, .string o.tm, .slice a o.vs.length cap, .bool o.en, .slice a' o.hs.length cap', .int .i64 o.vr]] w fun e w' => e = .returned (wholeErr (Gate.wholeNames o)) ∧ Below w.heap.size w w' := by
  have h1 := ho.small.nm
  have h2 := ho.small.tm
  by_cases hn : Gate.nameOk o.nm = true
  · have HN : Hid (Gate.nameOk o.nm = true) := hn
    clear hn ho
    go_enter Tryz.func55, Tryz.ntmps55
    go_wp2_with fail
    refine (as_bool HN.out (isName_any _ _ h1)).mono ?_
    rintro e w1 ⟨rfl, rfl⟩
    go_wp2_with fail
    refine (isName_any _ _ h2).mono ?_
    rintro e w1 ⟨rfl, rfl⟩
    go_wp2_with fail
    refine (wholeUnless_any _ _).mono ?_
    rintro e w1 ⟨rfl, rfl⟩
    go_wp2_with fail
    go_ret
    exact ⟨ret_err (by unfold Gate.wholeNames; rw [HN.out]; rfl), (Below.refl _ _).alloc (Nat.le_refl _) _⟩
  · have HN : Hid (Gate.nameOk o.nm = false) := by simpa [Hid] using hn
    clear hn ho
    go_enter Tryz.func55, Tryz.ntmps55
    go_wp2_with fail
    refine (as_bool HN.out (isName_any _ _ h1)).mono ?_
    rintro e w1 ⟨rfl, rfl⟩
    go_wp2_with fail
    refine (wholeUnless_any _ _).mono ?_
    rintro e w1 ⟨rfl, rfl⟩
    go_wp2_with fail
    go_ret
    exact ⟨ret_err (a := false) (b := Gate.wholeNames o) (by unfold Gate.wholeNames; rw [HN.out]; rfl), (Below.refl _ _).alloc (Nat.le_refl _) _⟩

set_option maxHeartbeats 1000000 in
theorem checkHolds_any (a0 : Option Addr) (cap0 : Nat) (ss : List Shp) (o : Ob) (a a' : Option Addr) (cap cap' : Nat) (w : World) (ho : ObAt w o a a') :
    Calls Tryz.prog 56 #[.slice a0 ss.length cap0, .agg #[.string o.kd, .string o.nm, .string o.tm, .slice a o.vs.length cap, .bool o.en, .slice a' o.hs.length cap', .int .i64 o.vr]] w fun e w' => e = .returned (wholeErr (Gate.wholeHolds o)) ∧ Below w.heap.size w w' := by
  have hl := ho.holds.len
  unfold maxLen at hl
  by_cases h3 : o.hs.length ≤ 3
  · go_enter Tryz.func56, Tryz.ntmps56
    go_wp2_with fail
    refine (areAsc_any _ _ _ _ (ho.holds.mono ((Below.refl _ _).alloc (Nat.le_refl _) _))).mono ?_
    rintro e w1 ⟨rfl, rfl⟩
    go_wp2_with fail
    refine (wholeUnless_any _ _).mono ?_
    rintro e w1 ⟨rfl, rfl⟩
    go_wp2_with fail
    go_ret
    exact ⟨ret_err (by unfold Gate.wholeHolds; rw [decide_eq_true h3]; rfl), (Below.refl _ _).alloc (Nat.le_refl _) _⟩
  · go_enter Tryz.func56, Tryz.ntmps56
    go_wp2_with fail
    refine (wholeUnless_any _ _).mono ?_
    rintro e w1 ⟨rfl, rfl⟩
    go_wp2_with fail
    go_ret
    exact ⟨ret_err (a := false) (b := Gate.wholeHolds o) (by unfold Gate.wholeHolds; rw [decide_eq_false (show ¬ o.hs.length ≤ 3 by omega)]; rfl), (Below.refl _ _).alloc (Nat.le_refl _) _⟩

set_option maxHeartbeats 1000000 in
theorem checkVersion_any (a0 : Option Addr) (cap0 : Nat) (ss : List Shp) (o : Ob) (a a' : Option Addr) (cap cap' : Nat) (w : World) :
    Calls Tryz.prog 57 #[.slice a0 ss.length cap0, .agg #[.string o.kd, .string o.nm, .string o.tm, .slice a o.vs.length cap, .bool o.en, .slice a' o.hs.length cap', .int .i64 o.vr]] w fun e w' => e = .returned (wholeErr (Gate.wholeVersion o)) ∧ Below w.heap.size w w' := by
  by_cases h0 : 0 ≤ o.vr
  · have HV : Hid (Gate.wholeVersion o = decide (o.vr ≤ 1000000)) := by unfold Hid Gate.wholeVersion; rw [decide_eq_true h0]; rfl
    go_enter Tryz.func57, Tryz.ntmps57
    go_wp2_with (go_at_call 60; refine (wholeUnless_any _ _).mono ?_; rintro e w1 ⟨rfl, rfl⟩)
    go_ret
    exact ⟨ret_err HV.out.symm, (Below.refl _ _).alloc (Nat.le_refl _) _⟩
  · have HV : Hid (Gate.wholeVersion o = false) := by unfold Hid Gate.wholeVersion; rw [decide_eq_false h0]; rfl
    go_enter Tryz.func57, Tryz.ntmps57
    go_wp2_with (go_at_call 60; refine (wholeUnless_any _ _).mono ?_; rintro e w1 ⟨rfl, rfl⟩)
    go_ret
    exact ⟨ret_err HV.out.symm, (Below.refl _ _).alloc (Nat.le_refl _) _⟩

set_option maxHeartbeats 1000000 in
theorem checkCount_any (a0 : Option Addr) (cap0 : Nat) (ss : List Shp) (o : Ob) (a a' : Option Addr) (cap cap' : Nat) (w : World) (hw : ShpsAt w a0 ss) (_ho : ObAt w o a a') :
    Calls Tryz.prog 58 #[.slice a0 ss.length cap0, .agg #[.string o.kd, .string o.nm, .string o.tm, .slice a o.vs.length cap, .bool o.en, .slice a' o.hs.length cap', .int .i64 o.vr]] w fun e w' => e = .returned (wholeErr (Gate.wholeCount ss o)) ∧ Below w.heap.size w w' := by
  by_cases hk : Gate.hasKind ss o.kd = true
  all_goals
    first
      | (have HK : Hid (Gate.hasKind ss o.kd = true) := hk)
      | (have HK : Hid (Gate.hasKind ss o.kd = false) := by simpa [Hid] using hk)
    clear hk
    go_enter Tryz.func58, Tryz.ntmps58
    go_wp2_with fail
    refine (shapeOf_any _ _ _ _ _ (hw.mono ((Below.refl _ _).alloc (Nat.le_refl _) _))).mono ?_
    rintro e w1 ⟨fa, fcap, rfl, _, hb1⟩
    rw [HK.out]
    have hX1 := box_later (box_new w _ _) (by simp) hb1
    have hz1 : w.heap.size < w1.heap.size := by have := hb1.size; simp at this; omega
    have hB1 : Below w.heap.size w w1 := ((Below.refl _ _).alloc (Nat.le_refl _) _).trans (hb1.mono (by simp))
    clear hb1
    go_wp2_with (go_at_call 60; refine (wholeUnless_any _ _).mono ?_; rintro e w2 ⟨rfl, rfl⟩)
    go_ret
  · refine ⟨ret_err ?_, hB1.alloc (by omega) _⟩
    unfold Gate.wholeCount; rw [HK.out]
    rw [Bool.eq_iff_iff]; simp; omega
  · refine ⟨ret_err (a := false) (b := Gate.wholeCount ss o) ?_, hB1.alloc (by omega) _⟩
    unfold Gate.wholeCount; rw [HK.out]; rfl

end Go.Proofs.YthclaldbcfljfabGreatDoor
