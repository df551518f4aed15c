import Derived.Test.YtimhinpekngceaaDoorM31
import Derived.Test.YtimhinpekngceaaDoorM10
namespace Go.Proofs.YtimhinpekngceaaDoor
open Go.ChangeShapes Go.WideShapes Go.ChangeAt Go.RowKit

theorem Tryd.cellsInts : Tryd.prog.cellsOf 24 = 1 := by kernel_rfl
theorem Tryd.cellsRule : Tryd.prog.cellsOf 26 = 4 := by kernel_rfl

section
variable {H : Type} {enc : TypeId × Value → H} {w : World} {base : Nat} {spare : Nat → Bool} {held : Bool}

theorem read_ints {fuel : Nat} {cs : List Value} {x : DataW H × List MemPlace} (h : DataW.trod enc Tryd.prog w base spare held fuel 24 cs = some x) :
    ∃ a cap vs, cs = [.slice a (List.length vs) cap] ∧ IntsAt w a vs := by
  obtain ⟨a, len, cap, rfl, hm, hr⟩ := read_rows Tryd.underlying24 Tryd.cellsInt (by omega) h
  rcases Nat.eq_zero_or_pos len with h0 | hp
  · subst h0
    exact ⟨a, cap, [], rfl, ⟨by simp [maxLen], fun h => absurd rfl h⟩⟩
  · obtain ⟨b, off, rfl, hb, hrow⟩ := hr hp
    have hf : ∀ i, i < len → ∃ v : Int, w.cell? ⟨b, off + i, none⟩ = some (.int .i64 v) := by
      intro i hi
      obtain ⟨es, n, y, hel, hcell, hy⟩ := hrow i hi
      obtain ⟨v, e0, _, _⟩ := DataW.trod_int Tryd.underlying3 hy
      subst e0
      exact ⟨v, by simpa using hcell 0 (by omega)⟩
    obtain ⟨vs, hl, hvs⟩ := list_of len hf
    exact ⟨_, cap, vs, by rw [hl], ⟨by omega, fun _ => ⟨b, off, rfl, hb, hvs⟩⟩⟩

theorem read_rule {fuel : Nat} {cs : List Value} {x : DataW H × List MemPlace} (h : DataW.trod enc Tryd.prog w base spare held fuel 26 cs = some x) :
    ∃ (r : Rl) (a : Option Addr) (cap : Nat), cs = (r.cells a cap).toList ∧ r.Small ∧ IntsAt w a r.vs := by
  have hlen : cs.length = 4 := by
    obtain ⟨_, _, _, _, hl, _, _⟩ := DataW.trod_struct Tryd.underlying26 h
    rw [hl]; exact Tryd.cellsRule
  match cs, hlen with
  | [c0, c1, c2, c3], _ =>
    have hf := field_one Tryd.underlying26 h
    obtain ⟨_, _, f0⟩ := hf 0 24 0 c0 rfl Tryd.cellsInts rfl
    obtain ⟨_, _, f1⟩ := hf 1 9 1 c1 rfl Tryd.cellsString rfl
    obtain ⟨_, _, f2⟩ := hf 2 9 2 c2 rfl Tryd.cellsString rfl
    obtain ⟨_, _, f3⟩ := hf 3 9 3 c3 rfl Tryd.cellsString rfl
    obtain ⟨a, cap, vs, e0, hI⟩ := read_ints f0
    obtain ⟨x1, e1, _, s1⟩ := DataW.trod_string Tryd.underlying9 f1
    obtain ⟨x2, e2, _, s2⟩ := DataW.trod_string Tryd.underlying9 f2
    obtain ⟨x3, e3, _, s3⟩ := DataW.trod_string Tryd.underlying9 f3
    simp only [List.cons.injEq, and_true] at e0 e1 e2 e3
    subst e0 e1 e2 e3
    exact ⟨⟨vs, x1, x2, x3⟩, a, cap, rfl, ⟨s1, s2, s3⟩, hI⟩

end

end Go.Proofs.YtimhinpekngceaaDoor

namespace Go.Proofs.YtimhinpekngceaaDoor
open Go.ChangeShapes Go.WideShapes Go.ChangeAt Go.RowKit

section
variable {H : Type} {enc : TypeId × Value → H} {w : World} {base : Nat} {spare : Nat → Bool} {held : Bool}

theorem read_rules {fuel : Nat} {cs : List Value} {x : DataW H × List MemPlace} (h : DataW.trod enc Tryd.prog w base spare held fuel 23 cs = some x) :
    ∃ a cap rs, cs = [.slice a (List.length rs) cap] ∧ RlsAt w a rs := by
  obtain ⟨a, len, cap, rfl, hm, hr⟩ := read_rows Tryd.underlying23 Tryd.cellsRule (by omega) h
  rcases Nat.eq_zero_or_pos len with h0 | hp
  · subst h0
    exact ⟨a, cap, [], rfl, ⟨by simp [maxLen], fun h => absurd rfl h⟩⟩
  · obtain ⟨b, off, rfl, hb, hrow⟩ := hr hp
    have hf : ∀ i, i < len → ∃ r : Rl, ∃ va vcap, RlIn w b (off + i * 4) r va vcap := by
      intro i hi
      obtain ⟨es, n, y, hel, hcell, hy⟩ := hrow i hi
      obtain ⟨r, va, vcap, rfl, hs, hI⟩ := read_rule hy
      exact ⟨r, va, vcap, hs, hI, fun j hj => by rw [hcell j hj]; simp⟩
    obtain ⟨rs, hl, hrs⟩ := list_of len hf
    exact ⟨_, cap, rs, by rw [hl], ⟨by omega, fun _ => ⟨b, off, rfl, hb, hrs⟩⟩⟩

end

end Go.Proofs.YtimhinpekngceaaDoor
