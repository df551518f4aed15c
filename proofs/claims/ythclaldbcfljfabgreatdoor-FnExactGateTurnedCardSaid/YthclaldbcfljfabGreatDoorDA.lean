import Derived.Test.YthclaldbcfljfabGreatDoorCA
namespace Go.Proofs.YthclaldbcfljfabGreatDoor
open Go.RowKit

namespace Gate
def same (old o : Ob) : Bool := decide (old.kd = o.kd) && (decide (old.nm = o.nm) && decide (old.tm = o.tm))
/-- Nothing is wrong with the turn of one value. -/
def fixOk (f : Fld) (v u : ByteArray) : Bool := !(f.fx && (!decide (v.size = 0) && !decide (v = u)))
def fixOkAt (fs : List Fld) (vs us : List ByteArray) (i : Nat) : Bool := fixOk (fs.getD i noField) (vs.getD i ByteArray.empty) (us.getD i ByteArray.empty)
def fixRes (fs : List Fld) (vs us : List ByteArray) : Int × Int := match (List.range fs.length).find? (fun i => !fixOkAt fs vs us i) with | some i => (4, i) | none => (0, 0)
theorem fixRes_at {fs : List Fld} {vs us : List ByteArray} {k : Nat} (hk : k < fs.length) (hu : up (fixOkAt fs vs us) k = true) (hp : fixOkAt fs vs us k = false) : fixRes fs vs us = (4, (k : Int)) := by
  unfold fixRes; rw [find_range hk hu hp]
theorem fixRes_none {fs : List Fld} {vs us : List ByteArray} (hu : up (fixOkAt fs vs us) fs.length = true) : fixRes fs vs us = (0, 0) := by
  unfold fixRes; rw [find_range_none hu]
theorem fixOkAt_eq {fs : List Fld} {vs us : List ByteArray} {k : Nat} (h1 : k < fs.length) (h2 : k < vs.length) (h3 : k < us.length) : fixOkAt fs vs us k = fixOk fs[k] vs[k] us[k] := by
  unfold fixOkAt; rw [getD_at fs k _ h1, getD_at vs k _ h2, getD_at us k _ h3]
/-- What is wrong with a turn, by shapes that are ok. -/
def turnRes (ss : List Shp) (old o : Ob) : Int × Int :=
  if (checkRes ss old).1 = 0 ∧ (checkRes ss o).1 = 0 ∧ same old o = true then fixRes (shapeOf ss old.kd).fs old.vs o.vs else (1, 0)
def turned (ss : List Shp) (old o : Ob) : Int × Int := if shapesOk ss = true then turnRes ss old o else (1, 0)
end Gate

theorem below3' (w : World) (o1 o2 o3 : Obj) : Below w.heap.size w (((w.alloc o1).alloc o2).alloc o3) :=
  (((Below.refl _ _).alloc (Nat.le_refl _) _).alloc (by simp) _).alloc (by simp; omega) _

set_option maxHeartbeats 1000000 in
theorem checkSame_any (kd : ByteArray) (fa : Option Addr) (n fcap : Nat) (old o : Ob) (a a' b b' : Option Addr) (cap cap' dap dap' : Nat) (w : World) :
    Calls Tryz.prog 34 #[.agg #[.string kd, .slice fa n fcap], .agg #[.string old.kd, .string old.nm, .string old.tm, .slice a old.vs.length cap, .bool old.en, .slice a' old.hs.length cap', .int .i64 old.vr], .agg #[.string o.kd, .string o.nm, .string o.tm, .slice b o.vs.length dap, .bool o.en, .slice b' o.hs.length dap', .int .i64 o.vr]] w
      fun e w' => e = .returned (wholeErr (Gate.same old o)) ∧ Below w.heap.size w w' := by
  have t1 := Gate.beq_toList old.kd o.kd
  have t2 := Gate.beq_toList old.nm o.nm
  have t3 := Gate.beq_toList old.tm o.tm
  by_cases h1 : old.kd = o.kd
  · have d1 : decide (old.kd = o.kd) = true := by simpa using h1
    rw [d1] at t1
    by_cases h2 : old.nm = o.nm
    · have d2 : decide (old.nm = o.nm) = true := by simpa using h2
      rw [d2] at t2
      have HS : Hid (Gate.same old o = decide (old.tm = o.tm)) := by unfold Hid Gate.same; rw [d1, d2]; rfl
      clear d1 d2 h1 h2
      generalize hd : decide (old.tm = o.tm) = d at *
      go_enter Tryz.func34, Tryz.ntmps34
      go_wp2_with fail
      refine (wholeUnless_any _ _).mono ?_
      rintro e w1 ⟨rfl, rfl⟩
      go_wp2_with fail
      go_ret
      exact ⟨by rw [HS.out]; rfl, below3' _ _ _ _⟩
    · have d2 : decide (old.nm = o.nm) = false := by simpa using h2
      rw [d2] at t2
      have HS : Hid (Gate.same old o = false) := by unfold Hid Gate.same; rw [d1, d2]; rfl
      clear d1 d2 h1 h2
      go_enter Tryz.func34, Tryz.ntmps34
      go_wp2_with fail
      refine (wholeUnless_any _ _).mono ?_
      rintro e w1 ⟨rfl, rfl⟩
      go_wp2_with fail
      go_ret
      exact ⟨by rw [HS.out]; rfl, below3' _ _ _ _⟩
  · have d1 : decide (old.kd = o.kd) = false := by simpa using h1
    rw [d1] at t1
    have HS : Hid (Gate.same old o = false) := by unfold Hid Gate.same; rw [d1]; rfl
    clear d1 h1
    go_enter Tryz.func34, Tryz.ntmps34
    go_wp2_with fail
    refine (wholeUnless_any _ _).mono ?_
    rintro e w1 ⟨rfl, rfl⟩
    go_wp2_with fail
    go_ret
    exact ⟨by rw [HS.out]; rfl, below3' _ _ _ _⟩

end Go.Proofs.YthclaldbcfljfabGreatDoor
