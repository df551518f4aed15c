import Derived.Test.YthclaldbcfljfabGreatDoorRE
import Derived.Test.YthclaldbcfljfabGreatDoorOX
namespace Go.Proofs.YthclaldbcfljfabGreatDoor
open Go.ChangeShapes Go.WideShapes Go.ChangeAt Go.RowKit

theorem Tryz.cellsObject : Tryz.prog.cellsOf 25 = 7 := by kernel_rfl

/-- An object, read. -/
theorem read_object {H : Type} {enc : TypeId × Value → H} {w : World} {base : Nat} {spare : Nat → Bool} {held : Bool} {fuel : Nat} {cs : List Value} {x : DataW H × List MemPlace}
    (h : DataW.trod enc Tryz.prog w base spare held fuel 25 cs = some x) :
    ∃ (o : Ob) (a a' : Option Addr) (cap cap' : Nat), cs = [.string o.kd, .string o.nm, .string o.tm, .slice a o.vs.length cap, .bool o.en, .slice a' o.hs.length cap', .int .i64 o.vr] ∧ ObAt w o a a' := by
  have hlen : cs.length = 7 := by
    obtain ⟨_, _, _, _, hl, _, _⟩ := DataW.trod_struct Tryz.underlying25 h
    rw [hl]; exact Tryz.cellsObject
  match cs, hlen with
  | [c0, c1, c2, c3, c4, c5, c6], _ =>
    have hf := field_one Tryz.underlying25 h
    obtain ⟨_, _, f0⟩ := hf 0 9 0 c0 rfl Tryz.cellsString rfl
    obtain ⟨_, _, f1⟩ := hf 1 9 1 c1 rfl Tryz.cellsString rfl
    obtain ⟨_, _, f2⟩ := hf 2 9 2 c2 rfl Tryz.cellsString rfl
    obtain ⟨_, _, f3⟩ := hf 3 23 3 c3 rfl Tryz.cellsStrings rfl
    obtain ⟨_, _, f4⟩ := hf 4 4 4 c4 rfl Tryz.cellsBool rfl
    obtain ⟨_, _, f5⟩ := hf 5 23 5 c5 rfl Tryz.cellsStrings rfl
    obtain ⟨_, _, f6⟩ := hf 6 3 6 c6 rfl Tryz.cellsInt rfl
    obtain ⟨kd, e0, _, s0⟩ := DataW.trod_string Tryz.underlying9 f0
    obtain ⟨nm, e1, _, s1⟩ := DataW.trod_string Tryz.underlying9 f1
    obtain ⟨tm, e2, _, s2⟩ := DataW.trod_string Tryz.underlying9 f2
    obtain ⟨a, cap, vs, e3, hV⟩ := read_strs Tryz.underlying23 Tryz.underlying9 Tryz.cellsString f3
    obtain ⟨en, e4, _⟩ := DataW.trod_bool Tryz.underlying4 f4
    obtain ⟨a', cap', hs, e5, hH⟩ := read_strs Tryz.underlying23 Tryz.underlying9 Tryz.cellsString f5
    obtain ⟨vr, e6, _, _⟩ := DataW.trod_int Tryz.underlying3 f6
    simp only [List.cons.injEq, and_true] at e0 e1 e2 e3 e4 e5 e6
    subst e0 e1 e2 e3 e4 e5 e6
    exact ⟨⟨kd, nm, tm, vs, en, hs, vr⟩, a, a', cap, cap', rfl, ⟨⟨s0, s1, s2⟩, hV, hH⟩⟩

end Go.Proofs.YthclaldbcfljfabGreatDoor
