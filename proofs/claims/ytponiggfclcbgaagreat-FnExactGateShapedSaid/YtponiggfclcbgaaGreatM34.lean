import Derived.Test.YtponiggfclcbgaaGreatM33
import Derived.Test.YtponiggfclcbgaaGreatM06
import Derived.Test.YtponiggfclcbgaaGreatM19
namespace Go.Proofs.YtponiggfclcbgaaGreat
open Go.ChangeShapes Go.WideShapes Go.ChangeAt Go.RowKit

theorem Tryz.cellsObject : Tryz.prog.cellsOf 26 = 7 := by kernel_rfl

/-- An object, read. -/
theorem read_object {H : Type} {enc : TypeId × Value → H} {w : World} {base : Nat} {spare : Nat → Bool} {held : Bool} {fuel : Nat} {cs : List Value} {x : DataW H × List MemPlace}
    (h : DataW.trod enc Tryz.prog w base spare held fuel 26 cs = some x) :
    ∃ (o : Ob) (a a' : Option Addr) (cap cap' : Nat), cs = [.string o.kd, .string o.nm, .string o.tm, .slice a o.vs.length cap, .bool o.en, .slice a' o.hs.length cap', .int .i64 o.vr] ∧ ObAt w o a a' := by
  have hlen : cs.length = 7 := by
    obtain ⟨_, _, _, _, hl, _, _⟩ := DataW.trod_struct Tryz.underlying26 h
    rw [hl]; exact Tryz.cellsObject
  match cs, hlen with
  | [c0, c1, c2, c3, c4, c5, c6], _ =>
    have hf := field_one Tryz.underlying26 h
    obtain ⟨_, _, f0⟩ := hf 0 9 0 c0 rfl Tryz.cellsString rfl
    obtain ⟨_, _, f1⟩ := hf 1 9 1 c1 rfl Tryz.cellsString rfl
    obtain ⟨_, _, f2⟩ := hf 2 9 2 c2 rfl Tryz.cellsString rfl
    obtain ⟨_, _, f3⟩ := hf 3 24 3 c3 rfl Tryz.cellsStrings rfl
    obtain ⟨_, _, f4⟩ := hf 4 4 4 c4 rfl Tryz.cellsBool rfl
    obtain ⟨_, _, f5⟩ := hf 5 24 5 c5 rfl Tryz.cellsStrings rfl
    obtain ⟨_, _, f6⟩ := hf 6 3 6 c6 rfl Tryz.cellsInt rfl
    obtain ⟨kd, e0, _, s0⟩ := DataW.trod_string Tryz.underlying9 f0
    obtain ⟨nm, e1, _, s1⟩ := DataW.trod_string Tryz.underlying9 f1
    obtain ⟨tm, e2, _, s2⟩ := DataW.trod_string Tryz.underlying9 f2
    obtain ⟨a, cap, vs, e3, hV⟩ := read_strs Tryz.underlying24 Tryz.underlying9 Tryz.cellsString f3
    obtain ⟨en, e4, _⟩ := DataW.trod_bool Tryz.underlying4 f4
    obtain ⟨a', cap', hs, e5, hH⟩ := read_strs Tryz.underlying24 Tryz.underlying9 Tryz.cellsString f5
    obtain ⟨vr, e6, _, _⟩ := DataW.trod_int Tryz.underlying3 f6
    simp only [List.cons.injEq, and_true] at e0 e1 e2 e3 e4 e5 e6
    subst e0 e1 e2 e3 e4 e5 e6
    exact ⟨⟨kd, nm, tm, vs, en, hs, vr⟩, a, a', cap, cap', rfl, ⟨⟨s0, s1, s2⟩, hV, hH⟩⟩

end Go.Proofs.YtponiggfclcbgaaGreat

namespace Go.Proofs.YtponiggfclcbgaaGreat
open Go.ChangeShapes Go.WideShapes Go.ChangeAt Go.RowKit

theorem Tryz.cellsMend : Tryz.prog.cellsOf 65 = 6 := by kernel_rfl

section
variable {H : Type} {enc : TypeId × Value → H} {w : World} {base : Nat} {spare : Nat → Bool} {held : Bool}

theorem read_mend {fuel : Nat} {cs : List Value} {x : DataW H × List MemPlace} (h : DataW.trod enc Tryz.prog w base spare held fuel 65 cs = some x) :
    ∃ m : Mnd, cs = m.cells.toList ∧ m.Small := by
  have hlen : cs.length = 6 := by
    obtain ⟨_, _, _, _, hl, _, _⟩ := DataW.trod_struct Tryz.underlying65 h
    rw [hl]; exact Tryz.cellsMend
  match cs, hlen with
  | [c0, c1, c2, c3, c4, c5], _ =>
    have hf := field_one Tryz.underlying65 h
    obtain ⟨_, _, f0⟩ := hf 0 9 0 c0 rfl Tryz.cellsString rfl
    obtain ⟨_, _, f1⟩ := hf 1 9 1 c1 rfl Tryz.cellsString rfl
    obtain ⟨_, _, f2⟩ := hf 2 9 2 c2 rfl Tryz.cellsString rfl
    obtain ⟨_, _, f3⟩ := hf 3 9 3 c3 rfl Tryz.cellsString rfl
    obtain ⟨_, _, f4⟩ := hf 4 9 4 c4 rfl Tryz.cellsString rfl
    obtain ⟨_, _, f5⟩ := hf 5 9 5 c5 rfl Tryz.cellsString rfl
    obtain ⟨x0, e0, _, s0⟩ := DataW.trod_string Tryz.underlying9 f0
    obtain ⟨x1, e1, _, s1⟩ := DataW.trod_string Tryz.underlying9 f1
    obtain ⟨x2, e2, _, s2⟩ := DataW.trod_string Tryz.underlying9 f2
    obtain ⟨x3, e3, _, s3⟩ := DataW.trod_string Tryz.underlying9 f3
    obtain ⟨x4, e4, _, s4⟩ := DataW.trod_string Tryz.underlying9 f4
    obtain ⟨x5, e5, _, s5⟩ := DataW.trod_string Tryz.underlying9 f5
    simp only [List.cons.injEq, and_true] at e0 e1 e2 e3 e4 e5
    subst e0 e1 e2 e3 e4 e5
    exact ⟨⟨x0, x1, x2, x3, x4, x5⟩, rfl, s0, s1, s2, s3, s4, s5⟩

theorem read_mends {fuel : Nat} {cs : List Value} {x : DataW H × List MemPlace} (h : DataW.trod enc Tryz.prog w base spare held fuel 23 cs = some x) :
    ∃ a cap ms, cs = [.slice a (List.length ms) cap] ∧ MndsAt w a ms := by
  obtain ⟨a, len, cap, rfl, hm, hr⟩ := read_rows Tryz.underlying23 Tryz.cellsMend (by omega) h
  rcases Nat.eq_zero_or_pos len with h0 | hp
  · subst h0
    exact ⟨a, cap, [], rfl, ⟨by simp [maxLen], fun i h => absurd h (by simp), fun h => absurd rfl h⟩⟩
  · obtain ⟨b, off, rfl, hb, hrow⟩ := hr hp
    have hf : ∀ i, i < len → ∃ m : Mnd, m.Small ∧ ∀ j, j < 6 → w.cell? ⟨b, off + i * 6 + j, none⟩ = m.cells[j]? := by
      intro i hi
      obtain ⟨es, n, y, hel, hcell, hy⟩ := hrow i hi
      obtain ⟨m, rfl, hs⟩ := read_mend hy
      exact ⟨m, hs, fun j hj => by rw [hcell j hj]; simp⟩
    obtain ⟨ms, hl, hms⟩ := list_of len hf
    exact ⟨_, cap, ms, by rw [hl], ⟨by omega, fun i hi => (hms i hi).1, fun _ => ⟨b, off, rfl, hb, fun i hi => (hms i hi).2⟩⟩⟩
end

end Go.Proofs.YtponiggfclcbgaaGreat
