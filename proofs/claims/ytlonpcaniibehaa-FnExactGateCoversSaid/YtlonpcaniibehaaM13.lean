import Derived.Test.YtlonpcaniibehaaM12
import Derived.Test.YtlonpcaniibehaaM03
import Derived.Test.YtlonpcaniibehaaM04
namespace Go.Proofs.Ytlonpcaniibehaa
open Go.ChangeShapes Go.WideShapes Go.ChangeAt Go.RowKit

theorem Try.cellsTeam : Try.prog.cellsOf 54 = 2 := by kernel_rfl

section
variable {H : Type} {enc : TypeId × Value → H} {w : World} {base : Nat} {spare : Nat → Bool} {held : Bool}

theorem read_team {fuel : Nat} {cs : List Value} {x : DataW H × List MemPlace} (h : DataW.trod enc Try.prog w base spare held fuel 54 cs = some x) :
    ∃ m : Tm, cs = m.cells.toList ∧ m.Small := by
  have hlen : cs.length = 2 := by
    obtain ⟨_, _, _, _, hl, _, _⟩ := DataW.trod_struct Try.underlying54 h
    rw [hl]; exact Try.cellsTeam
  match cs, hlen with
  | [c0, c1], _ =>
    have hf := field_one Try.underlying54 h
    obtain ⟨_, _, f0⟩ := hf 0 9 0 c0 rfl Try.cellsString rfl
    obtain ⟨_, _, f1⟩ := hf 1 9 1 c1 rfl Try.cellsString rfl
    obtain ⟨x0, e0, _, s0⟩ := DataW.trod_string Try.underlying9 f0
    obtain ⟨x1, e1, _, s1⟩ := DataW.trod_string Try.underlying9 f1
    simp only [List.cons.injEq, and_true] at e0 e1
    subst e0 e1
    exact ⟨⟨x0, x1⟩, rfl, s0, s1⟩

theorem read_teams {fuel : Nat} {cs : List Value} {x : DataW H × List MemPlace} (h : DataW.trod enc Try.prog w base spare held fuel 22 cs = some x) :
    ∃ a cap ts, cs = [.slice a (List.length ts) cap] ∧ TmsAt w a ts := by
  obtain ⟨a, len, cap, rfl, hm, hr⟩ := read_rows Try.underlying22 Try.cellsTeam (by omega) h
  rcases Nat.eq_zero_or_pos len with h0 | hp
  · subst h0
    exact ⟨a, cap, [], rfl, ⟨by simp [maxLen], fun i h => absurd h (by simp), fun h => absurd rfl h⟩⟩
  · obtain ⟨b, off, rfl, hb, hrow⟩ := hr hp
    have hf : ∀ i, i < len → ∃ m : Tm, m.Small ∧ ∀ j, j < 2 → w.cell? ⟨b, off + i * 2 + j, none⟩ = m.cells[j]? := by
      intro i hi
      obtain ⟨es, n, y, hel, hcell, hy⟩ := hrow i hi
      obtain ⟨m, rfl, hs⟩ := read_team hy
      exact ⟨m, hs, fun j hj => by rw [hcell j hj]; simp⟩
    obtain ⟨ms, hl, hms⟩ := list_of len hf
    exact ⟨_, cap, ms, by rw [hl], ⟨by omega, fun i hi => (hms i hi).1, fun _ => ⟨b, off, rfl, hb, fun i hi => (hms i hi).2⟩⟩⟩
end

end Go.Proofs.Ytlonpcaniibehaa

namespace Go.Proofs.Ytlonpcaniibehaa
open Go.ChangeShapes Go.WideShapes Go.ChangeAt Go.RowKit

theorem Try.cellsInts : Try.prog.cellsOf 31 = 1 := by kernel_rfl
theorem Try.cellsRule : Try.prog.cellsOf 33 = 4 := by kernel_rfl
theorem Try.cellsAct : Try.prog.cellsOf 35 = 4 := by kernel_rfl

section
variable {H : Type} {enc : TypeId × Value → H} {w : World} {base : Nat} {spare : Nat → Bool} {held : Bool}

theorem read_ints {fuel : Nat} {cs : List Value} {x : DataW H × List MemPlace} (h : DataW.trod enc Try.prog w base spare held fuel 31 cs = some x) :
    ∃ a cap vs, cs = [.slice a (List.length vs) cap] ∧ IntsAt w a vs := by
  obtain ⟨a, len, cap, rfl, hm, hr⟩ := read_rows Try.underlying31 Try.cellsInt (by omega) h
  rcases Nat.eq_zero_or_pos len with h0 | hp
  · subst h0
    exact ⟨a, cap, [], rfl, ⟨by simp [maxLen], fun h => absurd rfl h⟩⟩
  · obtain ⟨b, off, rfl, hb, hrow⟩ := hr hp
    have hf : ∀ i, i < len → ∃ v : Int, w.cell? ⟨b, off + i, none⟩ = some (.int .i64 v) := by
      intro i hi
      obtain ⟨es, n, y, hel, hcell, hy⟩ := hrow i hi
      obtain ⟨v, e0, _, _⟩ := DataW.trod_int Try.underlying3 hy
      subst e0
      exact ⟨v, by simpa using hcell 0 (by omega)⟩
    obtain ⟨vs, hl, hvs⟩ := list_of len hf
    exact ⟨_, cap, vs, by rw [hl], ⟨by omega, fun _ => ⟨b, off, rfl, hb, hvs⟩⟩⟩

theorem read_rule {fuel : Nat} {cs : List Value} {x : DataW H × List MemPlace} (h : DataW.trod enc Try.prog w base spare held fuel 33 cs = some x) :
    ∃ (r : Rl) (a : Option Addr) (cap : Nat), cs = (r.cells a cap).toList ∧ r.Small ∧ IntsAt w a r.vs := by
  have hlen : cs.length = 4 := by
    obtain ⟨_, _, _, _, hl, _, _⟩ := DataW.trod_struct Try.underlying33 h
    rw [hl]; exact Try.cellsRule
  match cs, hlen with
  | [c0, c1, c2, c3], _ =>
    have hf := field_one Try.underlying33 h
    obtain ⟨_, _, f0⟩ := hf 0 31 0 c0 rfl Try.cellsInts rfl
    obtain ⟨_, _, f1⟩ := hf 1 9 1 c1 rfl Try.cellsString rfl
    obtain ⟨_, _, f2⟩ := hf 2 9 2 c2 rfl Try.cellsString rfl
    obtain ⟨_, _, f3⟩ := hf 3 9 3 c3 rfl Try.cellsString rfl
    obtain ⟨a, cap, vs, e0, hI⟩ := read_ints f0
    obtain ⟨x1, e1, _, s1⟩ := DataW.trod_string Try.underlying9 f1
    obtain ⟨x2, e2, _, s2⟩ := DataW.trod_string Try.underlying9 f2
    obtain ⟨x3, e3, _, s3⟩ := DataW.trod_string Try.underlying9 f3
    simp only [List.cons.injEq, and_true] at e0 e1 e2 e3
    subst e0 e1 e2 e3
    exact ⟨⟨vs, x1, x2, x3⟩, a, cap, rfl, ⟨s1, s2, s3⟩, hI⟩

theorem read_rules {fuel : Nat} {cs : List Value} {x : DataW H × List MemPlace} (h : DataW.trod enc Try.prog w base spare held fuel 45 cs = some x) :
    ∃ a cap rs, cs = [.slice a (List.length rs) cap] ∧ RlsAt w a rs := by
  obtain ⟨a, len, cap, rfl, hm, hr⟩ := read_rows Try.underlying45 Try.cellsRule (by omega) h
  rcases Nat.eq_zero_or_pos len with h0 | hp
  · subst h0
    exact ⟨a, cap, [], rfl, ⟨by simp [maxLen], fun h => absurd rfl h⟩⟩
  · obtain ⟨b, off, rfl, hb, hrow⟩ := hr hp
    have hf : ∀ i, i < len → ∃ r : Rl, ∃ va vcap, RlIn w b (off + i * 4) r va vcap := by
      intro i hi
      obtain ⟨es, n, y, hel, hcell, hy⟩ := hrow i hi
      obtain ⟨r, va, vcap, rfl, hs, hI⟩ := read_rule hy
      exact ⟨r, va, vcap, hs, hI, fun j hj => by rw [hcell j hj]; simp⟩
    obtain ⟨rs, hl, hrs⟩ := list_of len hf
    exact ⟨_, cap, rs, by rw [hl], ⟨by omega, fun _ => ⟨b, off, rfl, hb, hrs⟩⟩⟩

theorem read_act {fuel : Nat} {cs : List Value} {x : DataW H × List MemPlace} (h : DataW.trod enc Try.prog w base spare held fuel 35 cs = some x) :
    ∃ r : Ac, cs = r.cells.toList ∧ r.Small := by
  have hlen : cs.length = 4 := by
    obtain ⟨_, _, _, _, hl, _, _⟩ := DataW.trod_struct Try.underlying35 h
    rw [hl]; exact Try.cellsAct
  match cs, hlen with
  | [c0, c1, c2, c3], _ =>
    have hf := field_one Try.underlying35 h
    obtain ⟨_, _, f0⟩ := hf 0 3 0 c0 rfl Try.cellsInt rfl
    obtain ⟨_, _, f1⟩ := hf 1 9 1 c1 rfl Try.cellsString rfl
    obtain ⟨_, _, f2⟩ := hf 2 9 2 c2 rfl Try.cellsString rfl
    obtain ⟨_, _, f3⟩ := hf 3 9 3 c3 rfl Try.cellsString rfl
    obtain ⟨x0, e0, _, _⟩ := DataW.trod_int Try.underlying3 f0
    obtain ⟨x1, e1, _, s1⟩ := DataW.trod_string Try.underlying9 f1
    obtain ⟨x2, e2, _, s2⟩ := DataW.trod_string Try.underlying9 f2
    obtain ⟨x3, e3, _, s3⟩ := DataW.trod_string Try.underlying9 f3
    simp only [List.cons.injEq, and_true] at e0 e1 e2 e3
    subst e0 e1 e2 e3
    exact ⟨⟨x0, x1, x2, x3⟩, rfl, s1, s2, s3⟩
end

end Go.Proofs.Ytlonpcaniibehaa
