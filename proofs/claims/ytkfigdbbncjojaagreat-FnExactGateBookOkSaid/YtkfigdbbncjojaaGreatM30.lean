import Derived.Test.YtkfigdbbncjojaaGreatM15
import Derived.Test.YtkfigdbbncjojaaGreatM17
import Derived.Test.YtkfigdbbncjojaaGreatM26
namespace Go.Proofs.YtkfigdbbncjojaaGreat
open Go.ChangeShapes Go.WideShapes Go.ChangeAt Go.RowKit
theorem Tryz.zfI : Tryz.prog.cellsOf 98 = 4 := by kernel_rfl
theorem Tryz.zg7 : Tryz.prog.cellsOf 101 = 5 := by kernel_rfl
theorem Tryz.zhi : Tryz.prog.cellsOf 95 = 7 := by kernel_rfl
theorem Tryz.zmI : Tryz.prog.cellsOf 32 = 7 := by kernel_rfl
theorem Tryz.zjl : Tryz.prog.cellsOf 27 = 1 := by kernel_rfl
theorem Tryz.zkC : Tryz.prog.cellsOf 28 = 1 := by kernel_rfl
theorem Tryz.zi7 : Tryz.prog.cellsOf 29 = 1 := by kernel_rfl
theorem Tryz.zjW : Tryz.prog.cellsOf 30 = 1 := by kernel_rfl
section
variable {H : Type} {enc : TypeId × Value -> H} {w : World} {base : Nat} {spare : Nat -> Bool} {held : Bool}
theorem zlR {P : Program} {t : TypeId} {fs : Array Field} {fuel : Nat} {cs : List Value} {x : DataW H × List MemPlace} (ht : P.underlying t = some (.struct fs)) (h : DataW.trod enc P w base spare held fuel t cs = some x)
    (i tf off n : Nat) (hf : (fs[i]?).map (fun f => (f.type, f.offset)) = some (tf, off)) (hn : P.cellsOf tf = n) : ∃ m y, DataW.trod enc P w base spare held m tf ((cs.drop off).take n) = some y := by
  obtain ⟨f, hf1, hf2⟩ := Option.map_eq_some_iff.1 hf
  simp only [Prod.mk.injEq] at hf2
  obtain ⟨rfl, rfl⟩ := hf2
  subst hn
  exact zgY ht h i f hf1
theorem zkE {fuel : Nat} {cs : List Value} {x : DataW H × List MemPlace} (h : DataW.trod enc Tryz.prog w base spare held fuel 98 cs = some x) :
    ∃ m : Lg, cs = m.cells.toList /\ m.Small := by
  have hlen : cs.length = 4 := by
    obtain ⟨_, _, _, _, hl, _, _⟩ := DataW.trod_struct Tryz.underlying98 h
    rw [hl]; exact Tryz.zfI
  match cs, hlen with
  | [c0, c1, c2, c3], _ =>
    have hf := jk Tryz.underlying98 h
    obtain ⟨_, _, f0⟩ := hf 0 9 0 c0 rfl Tryz.zJ rfl
    obtain ⟨_, _, f1⟩ := hf 1 9 1 c1 rfl Tryz.zJ rfl
    obtain ⟨_, _, f2⟩ := hf 2 3 2 c2 rfl Tryz.qW rfl
    obtain ⟨_, _, f3⟩ := hf 3 3 3 c3 rfl Tryz.qW rfl
    obtain ⟨x0, e0, _, s0⟩ := DataW.trod_string Tryz.underlying9 f0
    obtain ⟨x1, e1, _, s1⟩ := DataW.trod_string Tryz.underlying9 f1
    obtain ⟨x2, e2, _, _⟩ := DataW.trod_int Tryz.underlying3 f2
    obtain ⟨x3, e3, _, _⟩ := DataW.trod_int Tryz.underlying3 f3
    simp only [List.cons.injEq, and_true] at e0 e1 e2 e3
    subst e0 e1 e2 e3
    exact ⟨⟨x0, x1, x2, x3⟩, rfl, s0, s1⟩
theorem zjC {fuel : Nat} {cs : List Value} {x : DataW H × List MemPlace} (h : DataW.trod enc Tryz.prog w base spare held fuel 29 cs = some x) :
    ∃ a cap ms, cs = [.slice a (List.length ms) cap] /\ zbo w a ms := by
  obtain ⟨a, len, cap, rfl, hm, hr⟩ := jY Tryz.underlying29 Tryz.zfI (by omega) h
  rcases Nat.eq_zero_or_pos len with h0 | hp
  · subst h0
    exact ⟨a, cap, [], rfl, ⟨by simp [maxLen], fun i h => absurd h (by simp), fun h => absurd rfl h⟩⟩
  · obtain ⟨b, off, rfl, hb, hrow⟩ := hr hp
    have hf : ∀ i, i < len -> ∃ m : Lg, m.Small /\ ∀ j, j < 4 -> w.cell? ⟨b, off + i * 4 + j, none⟩ = m.cells[j]? := by
      intro i hi
      obtain ⟨es, n, y, hel, hcell, hy⟩ := hrow i hi
      obtain ⟨m, rfl, hs⟩ := zkE hy
      exact ⟨m, hs, fun j hj => by rw [hcell j hj]; simp⟩
    obtain ⟨ms, hl, hms⟩ := zaW len hf
    exact ⟨_, cap, ms, by rw [hl], ⟨by omega, fun i hi => (hms i hi).1, fun _ => ⟨b, off, rfl, hb, fun i hi => (hms i hi).2⟩⟩⟩
theorem zlT {fuel : Nat} {cs : List Value} {x : DataW H × List MemPlace} (h : DataW.trod enc Tryz.prog w base spare held fuel 101 cs = some x) :
    ∃ m : Pu, cs = m.cells.toList /\ m.Small := by
  have hlen : cs.length = 5 := by
    obtain ⟨_, _, _, _, hl, _, _⟩ := DataW.trod_struct Tryz.underlying101 h
    rw [hl]; exact Tryz.zg7
  match cs, hlen with
  | [c0, c1, c2, c3, c4], _ =>
    have hf := jk Tryz.underlying101 h
    obtain ⟨_, _, f0⟩ := hf 0 9 0 c0 rfl Tryz.zJ rfl
    obtain ⟨_, _, f1⟩ := hf 1 9 1 c1 rfl Tryz.zJ rfl
    obtain ⟨_, _, f2⟩ := hf 2 9 2 c2 rfl Tryz.zJ rfl
    obtain ⟨_, _, f3⟩ := hf 3 3 3 c3 rfl Tryz.qW rfl
    obtain ⟨_, _, f4⟩ := hf 4 3 4 c4 rfl Tryz.qW rfl
    obtain ⟨x0, e0, _, s0⟩ := DataW.trod_string Tryz.underlying9 f0
    obtain ⟨x1, e1, _, s1⟩ := DataW.trod_string Tryz.underlying9 f1
    obtain ⟨x2, e2, _, s2⟩ := DataW.trod_string Tryz.underlying9 f2
    obtain ⟨x3, e3, _, _⟩ := DataW.trod_int Tryz.underlying3 f3
    obtain ⟨x4, e4, _, _⟩ := DataW.trod_int Tryz.underlying3 f4
    simp only [List.cons.injEq, and_true] at e0 e1 e2 e3 e4
    subst e0 e1 e2 e3 e4
    exact ⟨⟨x0, x1, x2, x3, x4⟩, rfl, s0, s1, s2⟩
theorem zj0 {fuel : Nat} {cs : List Value} {x : DataW H × List MemPlace} (h : DataW.trod enc Tryz.prog w base spare held fuel 30 cs = some x) :
    ∃ a cap ms, cs = [.slice a (List.length ms) cap] /\ zb8 w a ms := by
  obtain ⟨a, len, cap, rfl, hm, hr⟩ := jY Tryz.underlying30 Tryz.zg7 (by omega) h
  rcases Nat.eq_zero_or_pos len with h0 | hp
  · subst h0
    exact ⟨a, cap, [], rfl, ⟨by simp [maxLen], fun i h => absurd h (by simp), fun h => absurd rfl h⟩⟩
  · obtain ⟨b, off, rfl, hb, hrow⟩ := hr hp
    have hf : ∀ i, i < len -> ∃ m : Pu, m.Small /\ ∀ j, j < 5 -> w.cell? ⟨b, off + i * 5 + j, none⟩ = m.cells[j]? := by
      intro i hi
      obtain ⟨es, n, y, hel, hcell, hy⟩ := hrow i hi
      obtain ⟨m, rfl, hs⟩ := zlT hy
      exact ⟨m, hs, fun j hj => by rw [hcell j hj]; simp⟩
    obtain ⟨ms, hl, hms⟩ := zaW len hf
    exact ⟨_, cap, ms, by rw [hl], ⟨by omega, fun i hi => (hms i hi).1, fun _ => ⟨b, off, rfl, hb, fun i hi => (hms i hi).2⟩⟩⟩
theorem zi8 {fuel : Nat} {cs : List Value} {x : DataW H × List MemPlace} (h : DataW.trod enc Tryz.prog w base spare held fuel 27 cs = some x) :
    ∃ a cap ms, cs = [.slice a (List.length ms) cap] /\ zaQ w a ms := by
  obtain ⟨a, len, cap, rfl, hm, hr⟩ := jY Tryz.underlying27 Tryz.zfL (by omega) h
  rcases Nat.eq_zero_or_pos len with h0 | hp
  · subst h0
    exact ⟨a, cap, [], rfl, ⟨by simp [maxLen], fun h => absurd rfl h⟩⟩
  · obtain ⟨b, off, rfl, hb, hrow⟩ := hr hp
    have hf : ∀ i, i < len -> ∃ o : Ob, ∃ a0 a1 c0 c1, zmE w b (off + i * 7) o a0 a1 c0 c1 := by
      intro i hi
      obtain ⟨es, n, y, hel, hcell, hy⟩ := hrow i hi
      obtain ⟨o, a0, a1, c0, c1, rfl, hs⟩ := zkn hy
      exact ⟨o, a0, a1, c0, c1, hs.small, hs.vals, hs.holds, fun j hj => by rw [hcell j hj]; simp [Ob.row]⟩
    obtain ⟨ms, hl, hms⟩ := zaW len hf
    exact ⟨_, cap, ms, by rw [hl], ⟨by omega, fun _ => ⟨b, off, rfl, hb, hms⟩⟩⟩
theorem zlb {fuel : Nat} {cs : List Value} {x : DataW H × List MemPlace} (h : DataW.trod enc Tryz.prog w base spare held fuel 95 cs = some x) :
    ∃ (g : Gr) (a : Option Addr) (cap : Nat), cs = (g.cells a cap).toList /\ g.Small /\ yQ w a g.r.vs := by
  have hlen : cs.length = 7 := by
    obtain ⟨_, _, _, _, hl, _, _⟩ := DataW.trod_struct Tryz.underlying95 h
    rw [hl]; exact Tryz.zhi
  match cs, hlen with
  | [c0, c1, c2, c3, c4, c5, c6], _ =>
    have hf := jk Tryz.underlying95 h
    obtain ⟨_, _, f0⟩ := hf 0 3 0 c0 rfl Tryz.qW rfl
    obtain ⟨_, _, f1⟩ := hf 1 9 1 c1 rfl Tryz.zJ rfl
    obtain ⟨_, _, f2⟩ := hf 2 9 2 c2 rfl Tryz.zJ rfl
    obtain ⟨_, _, f3⟩ := zlR Tryz.underlying95 h 3 93 3 4 rfl Tryz.ziH
    obtain ⟨x0, e0, _, _⟩ := DataW.trod_int Tryz.underlying3 f0
    obtain ⟨x1, e1, _, s1⟩ := DataW.trod_string Tryz.underlying9 f1
    obtain ⟨x2, e2, _, s2⟩ := DataW.trod_string Tryz.underlying9 f2
    obtain ⟨r, a, cap, e3, hs, hI⟩ := zmk f3
    simp only [List.cons.injEq, and_true] at e0 e1 e2
    subst e0 e1 e2
    have e3' : [c3, c4, c5, c6] = (r.cells a cap).toList := e3
    unfold Rl.cells at e3'
    simp only [List.cons.injEq, and_true] at e3'
    obtain ⟨e3, e4, e5, e6⟩ := e3'
    subst e3 e4 e5 e6
    exact ⟨⟨x0, x1, x2, r⟩, a, cap, rfl, ⟨s1, s2, hs⟩, hI⟩
theorem zj4 {fuel : Nat} {cs : List Value} {x : DataW H × List MemPlace} (h : DataW.trod enc Tryz.prog w base spare held fuel 28 cs = some x) :
    ∃ a cap ms, cs = [.slice a (List.length ms) cap] /\ zbD w a ms := by
  obtain ⟨a, len, cap, rfl, hm, hr⟩ := jY Tryz.underlying28 Tryz.zhi (by omega) h
  rcases Nat.eq_zero_or_pos len with h0 | hp
  · subst h0
    exact ⟨a, cap, [], rfl, ⟨by simp [maxLen], fun h => absurd rfl h⟩⟩
  · obtain ⟨b, off, rfl, hb, hrow⟩ := hr hp
    have hf : ∀ i, i < len -> ∃ g : Gr, ∃ a0 c0, zm1 w b (off + i * 7) g a0 c0 := by
      intro i hi
      obtain ⟨es, n, y, hel, hcell, hy⟩ := hrow i hi
      obtain ⟨g, a0, c0, rfl, hs, hI⟩ := zlb hy
      exact ⟨g, a0, c0, hs, hI, fun j hj => by rw [hcell j hj]; simp⟩
    obtain ⟨ms, hl, hms⟩ := zaW len hf
    exact ⟨_, cap, ms, by rw [hl], ⟨by omega, fun _ => ⟨b, off, rfl, hb, hms⟩⟩⟩
theorem zmv {fuel : Nat} {cs : List Value} {x : DataW H × List MemPlace} (h : DataW.trod enc Tryz.prog w base spare held fuel 32 cs = some x) :
    ∃ (b : Bk) (a0 a1 a2 a3 : Option Addr) (k0 k1 k2 k3 : Nat), cs = (b.cells a0 a1 a2 a3 k0 k1 k2 k3).toList /\ qY w b a0 a1 a2 a3 := by
  have hlen : cs.length = 7 := by
    obtain ⟨_, _, _, _, hl, _, _⟩ := DataW.trod_struct Tryz.underlying32 h
    rw [hl]; exact Tryz.zmI
  match cs, hlen with
  | [c0, c1, c2, c3, c4, c5, c6], _ =>
    have hf := jk Tryz.underlying32 h
    obtain ⟨_, _, f0⟩ := hf 0 3 0 c0 rfl Tryz.qW rfl
    obtain ⟨_, _, f1⟩ := hf 1 3 1 c1 rfl Tryz.qW rfl
    obtain ⟨_, _, f2⟩ := hf 2 3 2 c2 rfl Tryz.qW rfl
    obtain ⟨_, _, f3⟩ := hf 3 27 3 c3 rfl Tryz.zjl rfl
    obtain ⟨_, _, f4⟩ := hf 4 28 4 c4 rfl Tryz.zkC rfl
    obtain ⟨_, _, f5⟩ := hf 5 29 5 c5 rfl Tryz.zi7 rfl
    obtain ⟨_, _, f6⟩ := hf 6 30 6 c6 rfl Tryz.zjW rfl
    obtain ⟨x0, e0, _, _⟩ := DataW.trod_int Tryz.underlying3 f0
    obtain ⟨x1, e1, _, _⟩ := DataW.trod_int Tryz.underlying3 f1
    obtain ⟨x2, e2, _, _⟩ := DataW.trod_int Tryz.underlying3 f2
    obtain ⟨a0, k0, os, e3, hO⟩ := zi8 f3
    obtain ⟨a1, k1, gs, e4, hG⟩ := zj4 f4
    obtain ⟨a2, k2, ls, e5, hL⟩ := zjC f5
    obtain ⟨a3, k3, ps, e6, hP⟩ := zj0 f6
    simp only [List.cons.injEq, and_true] at e0 e1 e2 e3 e4 e5 e6
    subst e0 e1 e2 e3 e4 e5 e6
    exact ⟨⟨x0, x1, x2, os, gs, ls, ps⟩, a0, a1, a2, a3, k0, k1, k2, k3, rfl, ⟨hO, hG, hL, hP⟩⟩
end
end Go.Proofs.YtkfigdbbncjojaaGreat
