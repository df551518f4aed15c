import Derived.Test.YtliggnanlfbkiaaGreatM28
import Derived.Test.YtliggnanlfbkiaaGreatM08
namespace Go.Proofs.YtliggnanlfbkiaaGreat
open Go.ChangeShapes Go.WideShapes Go.ChangeAt Go.RowKit

theorem Tryz.cellsLaw : Tryz.prog.cellsOf 26 = 3 := by kernel_rfl
theorem Tryz.cellsShapes : Tryz.prog.cellsOf 22 = 1 := by kernel_rfl
theorem Tryz.cellsMends : Tryz.prog.cellsOf 23 = 1 := by kernel_rfl
theorem Tryz.cellsTeams : Tryz.prog.cellsOf 24 = 1 := by kernel_rfl

/-- A law, read. -/
theorem read_law {H : Type} {enc : TypeId × Value → H} {w : World} {base : Nat} {spare : Nat → Bool} {held : Bool} {fuel : Nat} {cs : List Value} {x : DataW H × List MemPlace}
    (h : DataW.trod enc Tryz.prog w base spare held fuel 26 cs = some x) :
    ∃ (l : Lw) (a b c : Option Addr) (ca cb cc : Nat), cs = (l.cells a b c ca cb cc).toList ∧ LwAt w l a b c := by
  have hlen : cs.length = 3 := by
    obtain ⟨_, _, _, _, hl, _, _⟩ := DataW.trod_struct Tryz.underlying26 h
    rw [hl]; exact Tryz.cellsLaw
  match cs, hlen with
  | [c0, c1, c2], _ =>
    have hf := field_one Tryz.underlying26 h
    obtain ⟨_, _, f0⟩ := hf 0 22 0 c0 rfl Tryz.cellsShapes rfl
    obtain ⟨_, _, f1⟩ := hf 1 23 1 c1 rfl Tryz.cellsMends rfl
    obtain ⟨_, _, f2⟩ := hf 2 24 2 c2 rfl Tryz.cellsTeams rfl
    obtain ⟨a, ca, ss, e0, hS⟩ := read_shapes f0
    obtain ⟨b, cb, ms, e1, hM⟩ := read_mends f1
    obtain ⟨c, cc, ts, e2, hT⟩ := read_teams f2
    simp only [List.cons.injEq, and_true] at e0 e1 e2
    subst e0 e1 e2
    exact ⟨⟨ss, ms, ts⟩, a, b, c, ca, cb, cc, rfl, ⟨hS, hM, hT⟩⟩

end Go.Proofs.YtliggnanlfbkiaaGreat
