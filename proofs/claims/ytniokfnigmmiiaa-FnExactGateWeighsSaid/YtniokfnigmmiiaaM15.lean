import Derived.Test.YtniokfnigmmiiaaM14
import Derived.Test.YtniokfnigmmiiaaM09
import Derived.Test.YtniokfnigmmiiaaM05
namespace Go.Proofs.Ytniokfnigmmiiaa
open Go.ChangeShapes Go.WideShapes Go.ChangeAt Go.RowKit

theorem Try.cellsLaw : Try.prog.cellsOf 26 = 3 := by kernel_rfl
theorem Try.cellsShapes : Try.prog.cellsOf 22 = 1 := by kernel_rfl
theorem Try.cellsMends : Try.prog.cellsOf 23 = 1 := by kernel_rfl
theorem Try.cellsTeams : Try.prog.cellsOf 24 = 1 := by kernel_rfl

/-- A law, read. -/
theorem read_law {H : Type} {enc : TypeId × Value → H} {w : World} {base : Nat} {spare : Nat → Bool} {held : Bool} {fuel : Nat} {cs : List Value} {x : DataW H × List MemPlace}
    (h : DataW.trod enc Try.prog w base spare held fuel 26 cs = some x) :
    ∃ (l : Lw) (a b c : Option Addr) (ca cb cc : Nat), cs = (l.cells a b c ca cb cc).toList ∧ LwAt w l a b c := by
  have hlen : cs.length = 3 := by
    obtain ⟨_, _, _, _, hl, _, _⟩ := DataW.trod_struct Try.underlying26 h
    rw [hl]; exact Try.cellsLaw
  match cs, hlen with
  | [c0, c1, c2], _ =>
    have hf := field_one Try.underlying26 h
    obtain ⟨_, _, f0⟩ := hf 0 22 0 c0 rfl Try.cellsShapes rfl
    obtain ⟨_, _, f1⟩ := hf 1 23 1 c1 rfl Try.cellsMends rfl
    obtain ⟨_, _, f2⟩ := hf 2 24 2 c2 rfl Try.cellsTeams rfl
    obtain ⟨a, ca, ss, e0, hS⟩ := read_shapes f0
    obtain ⟨b, cb, ms, e1, hM⟩ := read_mends f1
    obtain ⟨c, cc, ts, e2, hT⟩ := read_teams f2
    simp only [List.cons.injEq, and_true] at e0 e1 e2
    subst e0 e1 e2
    exact ⟨⟨ss, ms, ts⟩, a, b, c, ca, cb, cc, rfl, ⟨hS, hM, hT⟩⟩

end Go.Proofs.Ytniokfnigmmiiaa

namespace Go.Proofs.Ytniokfnigmmiiaa
open Go.ChangeShapes Go.WideShapes Go.ChangeAt Go.RowKit

theorem Try.cellsObject : Try.prog.cellsOf 29 = 7 := by kernel_rfl

/-- An object, read. -/
theorem read_object {H : Type} {enc : TypeId × Value → H} {w : World} {base : Nat} {spare : Nat → Bool} {held : Bool} {fuel : Nat} {cs : List Value} {x : DataW H × List MemPlace}
    (h : DataW.trod enc Try.prog w base spare held fuel 29 cs = some x) :
    ∃ (o : Ob) (a a' : Option Addr) (cap cap' : Nat), cs = [.string o.kd, .string o.nm, .string o.tm, .slice a o.vs.length cap, .bool o.en, .slice a' o.hs.length cap', .int .i64 o.vr] ∧ ObAt w o a a' := by
  have hlen : cs.length = 7 := by
    obtain ⟨_, _, _, _, hl, _, _⟩ := DataW.trod_struct Try.underlying29 h
    rw [hl]; exact Try.cellsObject
  match cs, hlen with
  | [c0, c1, c2, c3, c4, c5, c6], _ =>
    have hf := field_one Try.underlying29 h
    obtain ⟨_, _, f0⟩ := hf 0 9 0 c0 rfl Try.cellsString rfl
    obtain ⟨_, _, f1⟩ := hf 1 9 1 c1 rfl Try.cellsString rfl
    obtain ⟨_, _, f2⟩ := hf 2 9 2 c2 rfl Try.cellsString rfl
    obtain ⟨_, _, f3⟩ := hf 3 27 3 c3 rfl Try.cellsStrings rfl
    obtain ⟨_, _, f4⟩ := hf 4 4 4 c4 rfl Try.cellsBool rfl
    obtain ⟨_, _, f5⟩ := hf 5 27 5 c5 rfl Try.cellsStrings rfl
    obtain ⟨_, _, f6⟩ := hf 6 3 6 c6 rfl Try.cellsInt rfl
    obtain ⟨kd, e0, _, s0⟩ := DataW.trod_string Try.underlying9 f0
    obtain ⟨nm, e1, _, s1⟩ := DataW.trod_string Try.underlying9 f1
    obtain ⟨tm, e2, _, s2⟩ := DataW.trod_string Try.underlying9 f2
    obtain ⟨a, cap, vs, e3, hV⟩ := read_strs Try.underlying27 Try.underlying9 Try.cellsString f3
    obtain ⟨en, e4, _⟩ := DataW.trod_bool Try.underlying4 f4
    obtain ⟨a', cap', hs, e5, hH⟩ := read_strs Try.underlying27 Try.underlying9 Try.cellsString f5
    obtain ⟨vr, e6, _, _⟩ := DataW.trod_int Try.underlying3 f6
    simp only [List.cons.injEq, and_true] at e0 e1 e2 e3 e4 e5 e6
    subst e0 e1 e2 e3 e4 e5 e6
    exact ⟨⟨kd, nm, tm, vs, en, hs, vr⟩, a, a', cap, cap', rfl, ⟨⟨s0, s1, s2⟩, hV, hH⟩⟩

end Go.Proofs.Ytniokfnigmmiiaa
