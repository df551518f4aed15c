import Derived.Test.YtliggnanlfbkiaaGreatM27
import Derived.Test.YtliggnanlfbkiaaGreatM02
import Derived.Test.YtliggnanlfbkiaaGreatM06
import Derived.Test.YtliggnanlfbkiaaGreatM07
namespace Go.Proofs.YtliggnanlfbkiaaGreat
open Go.ChangeShapes Go.WideShapes Go.ChangeAt Go.RowKit

theorem Tryz.cellsShape : Tryz.prog.cellsOf 51 = 2 := by kernel_rfl
theorem Tryz.cellsFields : Tryz.prog.cellsOf 49 = 1 := by kernel_rfl

section
variable {H : Type} {enc : TypeId × Value → H} {w : World} {base : Nat} {spare : Nat → Bool} {held : Bool}

theorem read_fields {fuel : Nat} {cs : List Value} {x : DataW H × List MemPlace} (h : DataW.trod enc Tryz.prog w base spare held fuel 49 cs = some x) :
    ∃ a cap fs, cs = [.slice a (List.length fs) cap] ∧ FldsAt w a fs := by
  obtain ⟨a, len, cap, rfl, hm, hr⟩ := read_rows Tryz.underlying49 Tryz.cellsField (by omega) h
  rcases Nat.eq_zero_or_pos len with h0 | hp
  · subst h0
    exact ⟨a, cap, [], rfl, ⟨by simp [maxLen], fun h => absurd rfl h⟩⟩
  · obtain ⟨b, off, rfl, hb, hrow⟩ := hr hp
    have hf : ∀ i, i < len → ∃ f : Fld, ∃ wa wcap, FldIn w b (off + i * 11) f wa wcap := by
      intro i hi
      obtain ⟨es, n, y, hel, hcell, hy⟩ := hrow i hi
      obtain ⟨nm, kd, ls, ms, wa, wcap, ws, to, rl, mu, fx, df, wg, rfl, hS, s0, s5, s9, s10⟩ := read_field hy
      refine ⟨⟨nm, kd, ls, ms, ws, to, rl, mu, fx, df, wg⟩, wa, wcap, ⟨s0, s5, s9, s10⟩, hS, fun j hj => ?_⟩
      rw [hcell j hj]
      simp [Fld.cells]
    obtain ⟨fs, hl, hfs⟩ := list_of len hf
    refine ⟨_, cap, fs, by rw [hl], ⟨by omega, fun _ => ⟨b, off, rfl, hb, fun i hi => hfs i hi⟩⟩⟩

theorem read_shape {fuel : Nat} {cs : List Value} {x : DataW H × List MemPlace} (h : DataW.trod enc Tryz.prog w base spare held fuel 51 cs = some x) :
    ∃ kd a cap fs, cs = [.string kd, .slice a (List.length fs) cap] ∧ kd.size ≤ maxLen ∧ FldsAt w a fs := by
  have hlen : cs.length = 2 := by
    obtain ⟨_, _, _, _, hl, _, _⟩ := DataW.trod_struct Tryz.underlying51 h
    rw [hl]; exact Tryz.cellsShape
  match cs, hlen with
  | [c0, c1], _ =>
    have hf := field_one Tryz.underlying51 h
    obtain ⟨_, _, f0⟩ := hf 0 9 0 c0 rfl Tryz.cellsString rfl
    obtain ⟨_, _, f1⟩ := hf 1 49 1 c1 rfl Tryz.cellsFields rfl
    obtain ⟨kd, e0, _, s0⟩ := DataW.trod_string Tryz.underlying9 f0
    obtain ⟨a, cap, fs, e1, hF⟩ := read_fields f1
    simp only [List.cons.injEq, and_true] at e0 e1
    subst e0 e1
    exact ⟨kd, a, cap, fs, rfl, s0, hF⟩

theorem read_shapes {fuel : Nat} {cs : List Value} {x : DataW H × List MemPlace} (h : DataW.trod enc Tryz.prog w base spare held fuel 22 cs = some x) :
    ∃ a cap ss, cs = [.slice a (List.length ss) cap] ∧ ShpsAt w a ss := by
  obtain ⟨a, len, cap, rfl, hm, hr⟩ := read_rows Tryz.underlying22 Tryz.cellsShape (by omega) h
  rcases Nat.eq_zero_or_pos len with h0 | hp
  · subst h0
    exact ⟨a, cap, [], rfl, ⟨by simp [maxLen], fun h => absurd rfl h⟩⟩
  · obtain ⟨b, off, rfl, hb, hrow⟩ := hr hp
    have hf : ∀ i, i < len → ∃ s : Shp, ∃ fa fcap, ShpIn w b (off + i * 2) s fa fcap := by
      intro i hi
      obtain ⟨es, n, y, hel, hcell, hy⟩ := hrow i hi
      obtain ⟨kd, fa, fcap, fs, rfl, s0, hF⟩ := read_shape hy
      exact ⟨⟨kd, fs⟩, fa, fcap, s0, hF, hcell 0 (by omega), hcell 1 (by omega)⟩
    obtain ⟨ss, hl, hss⟩ := list_of len hf
    exact ⟨_, cap, ss, by rw [hl], ⟨by omega, fun _ => ⟨b, off, rfl, hb, fun i hi => hss i hi⟩⟩⟩

end

end Go.Proofs.YtliggnanlfbkiaaGreat

namespace Go.Proofs.YtliggnanlfbkiaaGreat
open Go.ChangeShapes Go.WideShapes Go.ChangeAt Go.RowKit

theorem Tryz.cellsMend : Tryz.prog.cellsOf 54 = 6 := by kernel_rfl

section
variable {H : Type} {enc : TypeId × Value → H} {w : World} {base : Nat} {spare : Nat → Bool} {held : Bool}

theorem read_mend {fuel : Nat} {cs : List Value} {x : DataW H × List MemPlace} (h : DataW.trod enc Tryz.prog w base spare held fuel 54 cs = some x) :
    ∃ m : Mnd, cs = m.cells.toList ∧ m.Small := by
  have hlen : cs.length = 6 := by
    obtain ⟨_, _, _, _, hl, _, _⟩ := DataW.trod_struct Tryz.underlying54 h
    rw [hl]; exact Tryz.cellsMend
  match cs, hlen with
  | [c0, c1, c2, c3, c4, c5], _ =>
    have hf := field_one Tryz.underlying54 h
    obtain ⟨_, _, f0⟩ := hf 0 9 0 c0 rfl Tryz.cellsString rfl
    obtain ⟨_, _, f1⟩ := hf 1 9 1 c1 rfl Tryz.cellsString rfl
    obtain ⟨_, _, f2⟩ := hf 2 9 2 c2 rfl Tryz.cellsString rfl
    obtain ⟨_, _, f3⟩ := hf 3 9 3 c3 rfl Tryz.cellsString rfl
    obtain ⟨_, _, f4⟩ := hf 4 9 4 c4 rfl Tryz.cellsString rfl
    obtain ⟨_, _, f5⟩ := hf 5 9 5 c5 rfl Tryz.cellsString rfl
    obtain ⟨x0, e0, _, s0⟩ := DataW.trod_string Tryz.underlying9 f0
    obtain ⟨x1, e1, _, s1⟩ := DataW.trod_string Tryz.underlying9 f1
    obtain ⟨x2, e2, _, s2⟩ := DataW.trod_string Tryz.underlying9 f2
    obtain ⟨x3, e3, _, s3⟩ := DataW.trod_string Tryz.underlying9 f3
    obtain ⟨x4, e4, _, s4⟩ := DataW.trod_string Tryz.underlying9 f4
    obtain ⟨x5, e5, _, s5⟩ := DataW.trod_string Tryz.underlying9 f5
    simp only [List.cons.injEq, and_true] at e0 e1 e2 e3 e4 e5
    subst e0 e1 e2 e3 e4 e5
    exact ⟨⟨x0, x1, x2, x3, x4, x5⟩, rfl, s0, s1, s2, s3, s4, s5⟩

theorem read_mends {fuel : Nat} {cs : List Value} {x : DataW H × List MemPlace} (h : DataW.trod enc Tryz.prog w base spare held fuel 23 cs = some x) :
    ∃ a cap ms, cs = [.slice a (List.length ms) cap] ∧ MndsAt w a ms := by
  obtain ⟨a, len, cap, rfl, hm, hr⟩ := read_rows Tryz.underlying23 Tryz.cellsMend (by omega) h
  rcases Nat.eq_zero_or_pos len with h0 | hp
  · subst h0
    exact ⟨a, cap, [], rfl, ⟨by simp [maxLen], fun i h => absurd h (by simp), fun h => absurd rfl h⟩⟩
  · obtain ⟨b, off, rfl, hb, hrow⟩ := hr hp
    have hf : ∀ i, i < len → ∃ m : Mnd, m.Small ∧ ∀ j, j < 6 → w.cell? ⟨b, off + i * 6 + j, none⟩ = m.cells[j]? := by
      intro i hi
      obtain ⟨es, n, y, hel, hcell, hy⟩ := hrow i hi
      obtain ⟨m, rfl, hs⟩ := read_mend hy
      exact ⟨m, hs, fun j hj => by rw [hcell j hj]; simp⟩
    obtain ⟨ms, hl, hms⟩ := list_of len hf
    exact ⟨_, cap, ms, by rw [hl], ⟨by omega, fun i hi => (hms i hi).1, fun _ => ⟨b, off, rfl, hb, fun i hi => (hms i hi).2⟩⟩⟩
end

end Go.Proofs.YtliggnanlfbkiaaGreat

namespace Go.Proofs.YtliggnanlfbkiaaGreat
open Go.ChangeShapes Go.WideShapes Go.ChangeAt Go.RowKit

theorem Tryz.cellsTeam : Tryz.prog.cellsOf 57 = 2 := by kernel_rfl

section
variable {H : Type} {enc : TypeId × Value → H} {w : World} {base : Nat} {spare : Nat → Bool} {held : Bool}

theorem read_team {fuel : Nat} {cs : List Value} {x : DataW H × List MemPlace} (h : DataW.trod enc Tryz.prog w base spare held fuel 57 cs = some x) :
    ∃ m : Tm, cs = m.cells.toList ∧ m.Small := by
  have hlen : cs.length = 2 := by
    obtain ⟨_, _, _, _, hl, _, _⟩ := DataW.trod_struct Tryz.underlying57 h
    rw [hl]; exact Tryz.cellsTeam
  match cs, hlen with
  | [c0, c1], _ =>
    have hf := field_one Tryz.underlying57 h
    obtain ⟨_, _, f0⟩ := hf 0 9 0 c0 rfl Tryz.cellsString rfl
    obtain ⟨_, _, f1⟩ := hf 1 9 1 c1 rfl Tryz.cellsString rfl
    obtain ⟨x0, e0, _, s0⟩ := DataW.trod_string Tryz.underlying9 f0
    obtain ⟨x1, e1, _, s1⟩ := DataW.trod_string Tryz.underlying9 f1
    simp only [List.cons.injEq, and_true] at e0 e1
    subst e0 e1
    exact ⟨⟨x0, x1⟩, rfl, s0, s1⟩

theorem read_teams {fuel : Nat} {cs : List Value} {x : DataW H × List MemPlace} (h : DataW.trod enc Tryz.prog w base spare held fuel 24 cs = some x) :
    ∃ a cap ts, cs = [.slice a (List.length ts) cap] ∧ TmsAt w a ts := by
  obtain ⟨a, len, cap, rfl, hm, hr⟩ := read_rows Tryz.underlying24 Tryz.cellsTeam (by omega) h
  rcases Nat.eq_zero_or_pos len with h0 | hp
  · subst h0
    exact ⟨a, cap, [], rfl, ⟨by simp [maxLen], fun i h => absurd h (by simp), fun h => absurd rfl h⟩⟩
  · obtain ⟨b, off, rfl, hb, hrow⟩ := hr hp
    have hf : ∀ i, i < len → ∃ m : Tm, m.Small ∧ ∀ j, j < 2 → w.cell? ⟨b, off + i * 2 + j, none⟩ = m.cells[j]? := by
      intro i hi
      obtain ⟨es, n, y, hel, hcell, hy⟩ := hrow i hi
      obtain ⟨m, rfl, hs⟩ := read_team hy
      exact ⟨m, hs, fun j hj => by rw [hcell j hj]; simp⟩
    obtain ⟨ms, hl, hms⟩ := list_of len hf
    exact ⟨_, cap, ms, by rw [hl], ⟨by omega, fun i hi => (hms i hi).1, fun _ => ⟨b, off, rfl, hb, fun i hi => (hms i hi).2⟩⟩⟩
end

end Go.Proofs.YtliggnanlfbkiaaGreat
