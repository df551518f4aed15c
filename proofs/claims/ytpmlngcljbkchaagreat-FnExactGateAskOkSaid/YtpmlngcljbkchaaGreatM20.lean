import Derived.Test.YtpmlngcljbkchaaGreatM17
import Derived.Test.YtpmlngcljbkchaaGreatM15
import Derived.Test.YtpmlngcljbkchaaGreatM16
namespace Go.Proofs.YtpmlngcljbkchaaGreat
open Go.ChangeShapes Go.WideShapes Go.ChangeAt Go.RowKit

theorem Tryz.cellsAsk : Tryz.prog.cellsOf 32 = 15 := by kernel_rfl

section
variable {H : Type} {enc : TypeId × Value → H} {w : World} {base : Nat} {spare : Nat → Bool} {held : Bool}

theorem field_spanA {P : Program} {t : TypeId} {fs : Array Field} {fuel : Nat} {cs : List Value} {x : DataW H × List MemPlace} (ht : P.underlying t = some (.struct fs)) (h : DataW.trod enc P w base spare held fuel t cs = some x)
    (i tf off n : Nat) (hf : (fs[i]?).map (fun f => (f.type, f.offset)) = some (tf, off)) (hn : P.cellsOf tf = n) : ∃ m y, DataW.trod enc P w base spare held m tf ((cs.drop off).take n) = some y := by
  obtain ⟨f, hf1, hf2⟩ := Option.map_eq_some_iff.1 hf
  simp only [Prod.mk.injEq] at hf2
  obtain ⟨rfl, rfl⟩ := hf2
  subst hn
  exact field_read ht h i f hf1

theorem read_ask {fuel : Nat} {cs : List Value} {x : DataW H × List MemPlace} (h : DataW.trod enc Tryz.prog w base spare held fuel 32 cs = some x) :
    ∃ (k : Ak) (a0 a1 a2 : Option Addr) (q0 q1 q2 : Nat), cs = (k.cells a0 a1 a2 q0 q1 q2).toList ∧ AkAt w k a0 a1 a2 := by
  have hlen : cs.length = 15 := by
    obtain ⟨_, _, _, _, hl, _, _⟩ := DataW.trod_struct Tryz.underlying32 h
    rw [hl]; exact Tryz.cellsAsk
  match cs, hlen with
  | [c0, c1, c2, c3, c4, c5, c6, c7, c8, c9, c10, c11, c12, c13, c14], _ =>
    have hf := field_one Tryz.underlying32 h
    obtain ⟨_, _, f0⟩ := hf 0 9 0 c0 rfl Tryz.cellsString rfl
    obtain ⟨_, _, f1⟩ := hf 1 3 1 c1 rfl Tryz.cellsInt rfl
    obtain ⟨_, _, f2⟩ := hf 2 9 2 c2 rfl Tryz.cellsString rfl
    obtain ⟨_, _, f3⟩ := hf 3 9 3 c3 rfl Tryz.cellsString rfl
    obtain ⟨_, _, f4⟩ := hf 4 9 4 c4 rfl Tryz.cellsString rfl
    obtain ⟨_, _, f5⟩ := hf 5 27 5 c5 rfl Tryz.cellsStrings rfl
    obtain ⟨_, _, f6⟩ := hf 6 27 6 c6 rfl Tryz.cellsStrings rfl
    obtain ⟨_, _, f7⟩ := hf 7 3 7 c7 rfl Tryz.cellsInt rfl
    obtain ⟨_, _, f8⟩ := hf 8 9 8 c8 rfl Tryz.cellsString rfl
    obtain ⟨_, _, f9⟩ := hf 9 9 9 c9 rfl Tryz.cellsString rfl
    obtain ⟨_, _, f10⟩ := field_spanA Tryz.underlying32 h 10 30 10 4 rfl Tryz.cellsRule
    obtain ⟨_, _, f11⟩ := hf 11 3 14 c14 rfl Tryz.cellsInt rfl
    obtain ⟨who, e0, _, s0⟩ := DataW.trod_string Tryz.underlying9 f0
    obtain ⟨vb, e1, _, _⟩ := DataW.trod_int Tryz.underlying3 f1
    obtain ⟨kd, e2, _, s2⟩ := DataW.trod_string Tryz.underlying9 f2
    obtain ⟨nm, e3, _, s3⟩ := DataW.trod_string Tryz.underlying9 f3
    obtain ⟨tm, e4, _, s4⟩ := DataW.trod_string Tryz.underlying9 f4
    obtain ⟨avs, qvs, vs, e5, hvs⟩ := read_strs Tryz.underlying27 Tryz.underlying9 Tryz.cellsString f5
    obtain ⟨ahs, qhs, hs, e6, hhs⟩ := read_strs Tryz.underlying27 Tryz.underlying9 Tryz.cellsString f6
    obtain ⟨sn, e7, _, _⟩ := DataW.trod_int Tryz.underlying3 f7
    obtain ⟨hd, e8, _, s8⟩ := DataW.trod_string Tryz.underlying9 f8
    obtain ⟨to, e9, _, s9⟩ := DataW.trod_string Tryz.underlying9 f9
    obtain ⟨r, ar, qr, e10, hrs, hr⟩ := read_rule f10
    obtain ⟨no, e11, _, _⟩ := DataW.trod_int Tryz.underlying3 f11
    simp only [List.cons.injEq, and_true] at e0 e1 e2 e3 e4 e5 e6 e7 e8 e9 e11
    subst e0 e1 e2 e3 e4 e5 e6 e7 e8 e9 e11
    have er : [c10, c11, c12, c13] = (r.cells ar qr).toList := e10
    unfold Rl.cells at er
    simp only [List.cons.injEq, and_true] at er
    obtain ⟨g0, g1, g2, g3⟩ := er
    subst g0 g1 g2 g3
    exact ⟨⟨who, vb, kd, nm, tm, vs, hs, sn, hd, to, r, no⟩, avs, ahs, ar, qvs, qhs, qr, rfl, ⟨⟨s0, s2, s3, s4, s8, s9, hrs⟩, hvs, hhs, hr⟩⟩

end

end Go.Proofs.YtpmlngcljbkchaaGreat
