import Derived.Test.YtniokfnigmmiiaaM17
import Derived.Test.YtniokfnigmmiiaaM05
import Derived.Test.YtniokfnigmmiiaaM18
import Derived.Test.YtniokfnigmmiiaaM09
import Derived.Test.YtniokfnigmmiiaaM14
namespace Go.Proofs.Ytniokfnigmmiiaa
open Go.ChangeShapes Go.WideShapes Go.ChangeAt Go.RowKit

theorem Try.cellsObject : Try.prog.cellsOf 29 = 7 := by kernel_rfl

/-- An object, read. -/
theorem read_object {H : Type} {enc : TypeId × Value → H} {w : World} {base : Nat} {spare : Nat → Bool} {held : Bool} {fuel : Nat} {cs : List Value} {x : DataW H × List MemPlace}
    (h : DataW.trod enc Try.prog w base spare held fuel 29 cs = some x) :
    ∃ (o : Ob) (a a' : Option Addr) (cap cap' : Nat), cs = [.string o.kd, .string o.nm, .string o.tm, .slice a o.vs.length cap, .bool o.en, .slice a' o.hs.length cap', .int .i64 o.vr] ∧ ObAt w o a a' := by
  have hlen : cs.length = 7 := by
    obtain ⟨_, _, _, _, hl, _, _⟩ := DataW.trod_struct Try.underlying29 h
    rw [hl]; exact Try.cellsObject
  match cs, hlen with
  | [c0, c1, c2, c3, c4, c5, c6], _ =>
    have hf := field_one Try.underlying29 h
    obtain ⟨_, _, f0⟩ := hf 0 9 0 c0 rfl Try.cellsString rfl
    obtain ⟨_, _, f1⟩ := hf 1 9 1 c1 rfl Try.cellsString rfl
    obtain ⟨_, _, f2⟩ := hf 2 9 2 c2 rfl Try.cellsString rfl
    obtain ⟨_, _, f3⟩ := hf 3 27 3 c3 rfl Try.cellsStrings rfl
    obtain ⟨_, _, f4⟩ := hf 4 4 4 c4 rfl Try.cellsBool rfl
    obtain ⟨_, _, f5⟩ := hf 5 27 5 c5 rfl Try.cellsStrings rfl
    obtain ⟨_, _, f6⟩ := hf 6 3 6 c6 rfl Try.cellsInt rfl
    obtain ⟨kd, e0, _, s0⟩ := DataW.trod_string Try.underlying9 f0
    obtain ⟨nm, e1, _, s1⟩ := DataW.trod_string Try.underlying9 f1
    obtain ⟨tm, e2, _, s2⟩ := DataW.trod_string Try.underlying9 f2
    obtain ⟨a, cap, vs, e3, hV⟩ := read_strs Try.underlying27 Try.underlying9 Try.cellsString f3
    obtain ⟨en, e4, _⟩ := DataW.trod_bool Try.underlying4 f4
    obtain ⟨a', cap', hs, e5, hH⟩ := read_strs Try.underlying27 Try.underlying9 Try.cellsString f5
    obtain ⟨vr, e6, _, _⟩ := DataW.trod_int Try.underlying3 f6
    simp only [List.cons.injEq, and_true] at e0 e1 e2 e3 e4 e5 e6
    subst e0 e1 e2 e3 e4 e5 e6
    exact ⟨⟨kd, nm, tm, vs, en, hs, vr⟩, a, a', cap, cap', rfl, ⟨⟨s0, s1, s2⟩, hV, hH⟩⟩

end Go.Proofs.Ytniokfnigmmiiaa

namespace Go.Proofs.Ytniokfnigmmiiaa
open Go.ChangeShapes Go.WideShapes Go.ChangeAt Go.RowKit

theorem Try.cellsInts : Try.prog.cellsOf 120 = 1 := by kernel_rfl
theorem Try.cellsRule : Try.prog.cellsOf 122 = 4 := by kernel_rfl

section
variable {H : Type} {enc : TypeId × Value → H} {w : World} {base : Nat} {spare : Nat → Bool} {held : Bool}

theorem read_ints {fuel : Nat} {cs : List Value} {x : DataW H × List MemPlace} (h : DataW.trod enc Try.prog w base spare held fuel 120 cs = some x) :
    ∃ a cap vs, cs = [.slice a (List.length vs) cap] ∧ IntsAt w a vs := by
  obtain ⟨a, len, cap, rfl, hm, hr⟩ := read_rows Try.underlying120 Try.cellsInt (by omega) h
  rcases Nat.eq_zero_or_pos len with h0 | hp
  · subst h0
    exact ⟨a, cap, [], rfl, ⟨by simp [maxLen], fun h => absurd rfl h⟩⟩
  · obtain ⟨b, off, rfl, hb, hrow⟩ := hr hp
    have hf : ∀ i, i < len → ∃ v : Int, w.cell? ⟨b, off + i, none⟩ = some (.int .i64 v) := by
      intro i hi
      obtain ⟨es, n, y, hel, hcell, hy⟩ := hrow i hi
      obtain ⟨v, e0, _, _⟩ := DataW.trod_int Try.underlying3 hy
      subst e0
      exact ⟨v, by simpa using hcell 0 (by omega)⟩
    obtain ⟨vs, hl, hvs⟩ := list_of len hf
    exact ⟨_, cap, vs, by rw [hl], ⟨by omega, fun _ => ⟨b, off, rfl, hb, hvs⟩⟩⟩

theorem read_rule {fuel : Nat} {cs : List Value} {x : DataW H × List MemPlace} (h : DataW.trod enc Try.prog w base spare held fuel 122 cs = some x) :
    ∃ (r : Rl) (a : Option Addr) (cap : Nat), cs = (r.cells a cap).toList ∧ r.Small ∧ IntsAt w a r.vs := by
  have hlen : cs.length = 4 := by
    obtain ⟨_, _, _, _, hl, _, _⟩ := DataW.trod_struct Try.underlying122 h
    rw [hl]; exact Try.cellsRule
  match cs, hlen with
  | [c0, c1, c2, c3], _ =>
    have hf := field_one Try.underlying122 h
    obtain ⟨_, _, f0⟩ := hf 0 120 0 c0 rfl Try.cellsInts rfl
    obtain ⟨_, _, f1⟩ := hf 1 9 1 c1 rfl Try.cellsString rfl
    obtain ⟨_, _, f2⟩ := hf 2 9 2 c2 rfl Try.cellsString rfl
    obtain ⟨_, _, f3⟩ := hf 3 9 3 c3 rfl Try.cellsString rfl
    obtain ⟨a, cap, vs, e0, hI⟩ := read_ints f0
    obtain ⟨x1, e1, _, s1⟩ := DataW.trod_string Try.underlying9 f1
    obtain ⟨x2, e2, _, s2⟩ := DataW.trod_string Try.underlying9 f2
    obtain ⟨x3, e3, _, s3⟩ := DataW.trod_string Try.underlying9 f3
    simp only [List.cons.injEq, and_true] at e0 e1 e2 e3
    subst e0 e1 e2 e3
    exact ⟨⟨vs, x1, x2, x3⟩, a, cap, rfl, ⟨s1, s2, s3⟩, hI⟩

end

end Go.Proofs.Ytniokfnigmmiiaa

namespace Go.Proofs.Ytniokfnigmmiiaa
open Go.ChangeShapes Go.WideShapes Go.ChangeAt Go.RowKit

theorem Try.cellsLedger : Try.prog.cellsOf 127 = 4 := by kernel_rfl
theorem Try.cellsPurse : Try.prog.cellsOf 130 = 5 := by kernel_rfl
theorem Try.cellsGrant : Try.prog.cellsOf 124 = 7 := by kernel_rfl
theorem Try.cellsBook : Try.prog.cellsOf 49 = 7 := by kernel_rfl
theorem Try.cellsObjects : Try.prog.cellsOf 44 = 1 := by kernel_rfl
theorem Try.cellsGrants : Try.prog.cellsOf 45 = 1 := by kernel_rfl
theorem Try.cellsLedgers : Try.prog.cellsOf 46 = 1 := by kernel_rfl
theorem Try.cellsPurses : Try.prog.cellsOf 47 = 1 := by kernel_rfl

section
variable {H : Type} {enc : TypeId × Value → H} {w : World} {base : Nat} {spare : Nat → Bool} {held : Bool}

theorem field_span {P : Program} {t : TypeId} {fs : Array Field} {fuel : Nat} {cs : List Value} {x : DataW H × List MemPlace} (ht : P.underlying t = some (.struct fs)) (h : DataW.trod enc P w base spare held fuel t cs = some x)
    (i tf off n : Nat) (hf : (fs[i]?).map (fun f => (f.type, f.offset)) = some (tf, off)) (hn : P.cellsOf tf = n) : ∃ m y, DataW.trod enc P w base spare held m tf ((cs.drop off).take n) = some y := by
  obtain ⟨f, hf1, hf2⟩ := Option.map_eq_some_iff.1 hf
  simp only [Prod.mk.injEq] at hf2
  obtain ⟨rfl, rfl⟩ := hf2
  subst hn
  exact field_read ht h i f hf1

theorem read_ledger {fuel : Nat} {cs : List Value} {x : DataW H × List MemPlace} (h : DataW.trod enc Try.prog w base spare held fuel 127 cs = some x) :
    ∃ m : Lg, cs = m.cells.toList ∧ m.Small := by
  have hlen : cs.length = 4 := by
    obtain ⟨_, _, _, _, hl, _, _⟩ := DataW.trod_struct Try.underlying127 h
    rw [hl]; exact Try.cellsLedger
  match cs, hlen with
  | [c0, c1, c2, c3], _ =>
    have hf := field_one Try.underlying127 h
    obtain ⟨_, _, f0⟩ := hf 0 9 0 c0 rfl Try.cellsString rfl
    obtain ⟨_, _, f1⟩ := hf 1 9 1 c1 rfl Try.cellsString rfl
    obtain ⟨_, _, f2⟩ := hf 2 3 2 c2 rfl Try.cellsInt rfl
    obtain ⟨_, _, f3⟩ := hf 3 3 3 c3 rfl Try.cellsInt rfl
    obtain ⟨x0, e0, _, s0⟩ := DataW.trod_string Try.underlying9 f0
    obtain ⟨x1, e1, _, s1⟩ := DataW.trod_string Try.underlying9 f1
    obtain ⟨x2, e2, _, _⟩ := DataW.trod_int Try.underlying3 f2
    obtain ⟨x3, e3, _, _⟩ := DataW.trod_int Try.underlying3 f3
    simp only [List.cons.injEq, and_true] at e0 e1 e2 e3
    subst e0 e1 e2 e3
    exact ⟨⟨x0, x1, x2, x3⟩, rfl, s0, s1⟩

theorem read_ledgers {fuel : Nat} {cs : List Value} {x : DataW H × List MemPlace} (h : DataW.trod enc Try.prog w base spare held fuel 46 cs = some x) :
    ∃ a cap ms, cs = [.slice a (List.length ms) cap] ∧ LgsAt w a ms := by
  obtain ⟨a, len, cap, rfl, hm, hr⟩ := read_rows Try.underlying46 Try.cellsLedger (by omega) h
  rcases Nat.eq_zero_or_pos len with h0 | hp
  · subst h0
    exact ⟨a, cap, [], rfl, ⟨by simp [maxLen], fun i h => absurd h (by simp), fun h => absurd rfl h⟩⟩
  · obtain ⟨b, off, rfl, hb, hrow⟩ := hr hp
    have hf : ∀ i, i < len → ∃ m : Lg, m.Small ∧ ∀ j, j < 4 → w.cell? ⟨b, off + i * 4 + j, none⟩ = m.cells[j]? := by
      intro i hi
      obtain ⟨es, n, y, hel, hcell, hy⟩ := hrow i hi
      obtain ⟨m, rfl, hs⟩ := read_ledger hy
      exact ⟨m, hs, fun j hj => by rw [hcell j hj]; simp⟩
    obtain ⟨ms, hl, hms⟩ := list_of len hf
    exact ⟨_, cap, ms, by rw [hl], ⟨by omega, fun i hi => (hms i hi).1, fun _ => ⟨b, off, rfl, hb, fun i hi => (hms i hi).2⟩⟩⟩

theorem read_purse {fuel : Nat} {cs : List Value} {x : DataW H × List MemPlace} (h : DataW.trod enc Try.prog w base spare held fuel 130 cs = some x) :
    ∃ m : Pu, cs = m.cells.toList ∧ m.Small := by
  have hlen : cs.length = 5 := by
    obtain ⟨_, _, _, _, hl, _, _⟩ := DataW.trod_struct Try.underlying130 h
    rw [hl]; exact Try.cellsPurse
  match cs, hlen with
  | [c0, c1, c2, c3, c4], _ =>
    have hf := field_one Try.underlying130 h
    obtain ⟨_, _, f0⟩ := hf 0 9 0 c0 rfl Try.cellsString rfl
    obtain ⟨_, _, f1⟩ := hf 1 9 1 c1 rfl Try.cellsString rfl
    obtain ⟨_, _, f2⟩ := hf 2 9 2 c2 rfl Try.cellsString rfl
    obtain ⟨_, _, f3⟩ := hf 3 3 3 c3 rfl Try.cellsInt rfl
    obtain ⟨_, _, f4⟩ := hf 4 3 4 c4 rfl Try.cellsInt rfl
    obtain ⟨x0, e0, _, s0⟩ := DataW.trod_string Try.underlying9 f0
    obtain ⟨x1, e1, _, s1⟩ := DataW.trod_string Try.underlying9 f1
    obtain ⟨x2, e2, _, s2⟩ := DataW.trod_string Try.underlying9 f2
    obtain ⟨x3, e3, _, _⟩ := DataW.trod_int Try.underlying3 f3
    obtain ⟨x4, e4, _, _⟩ := DataW.trod_int Try.underlying3 f4
    simp only [List.cons.injEq, and_true] at e0 e1 e2 e3 e4
    subst e0 e1 e2 e3 e4
    exact ⟨⟨x0, x1, x2, x3, x4⟩, rfl, s0, s1, s2⟩

theorem read_purses {fuel : Nat} {cs : List Value} {x : DataW H × List MemPlace} (h : DataW.trod enc Try.prog w base spare held fuel 47 cs = some x) :
    ∃ a cap ms, cs = [.slice a (List.length ms) cap] ∧ PusAt w a ms := by
  obtain ⟨a, len, cap, rfl, hm, hr⟩ := read_rows Try.underlying47 Try.cellsPurse (by omega) h
  rcases Nat.eq_zero_or_pos len with h0 | hp
  · subst h0
    exact ⟨a, cap, [], rfl, ⟨by simp [maxLen], fun i h => absurd h (by simp), fun h => absurd rfl h⟩⟩
  · obtain ⟨b, off, rfl, hb, hrow⟩ := hr hp
    have hf : ∀ i, i < len → ∃ m : Pu, m.Small ∧ ∀ j, j < 5 → w.cell? ⟨b, off + i * 5 + j, none⟩ = m.cells[j]? := by
      intro i hi
      obtain ⟨es, n, y, hel, hcell, hy⟩ := hrow i hi
      obtain ⟨m, rfl, hs⟩ := read_purse hy
      exact ⟨m, hs, fun j hj => by rw [hcell j hj]; simp⟩
    obtain ⟨ms, hl, hms⟩ := list_of len hf
    exact ⟨_, cap, ms, by rw [hl], ⟨by omega, fun i hi => (hms i hi).1, fun _ => ⟨b, off, rfl, hb, fun i hi => (hms i hi).2⟩⟩⟩

theorem read_objects {fuel : Nat} {cs : List Value} {x : DataW H × List MemPlace} (h : DataW.trod enc Try.prog w base spare held fuel 44 cs = some x) :
    ∃ a cap ms, cs = [.slice a (List.length ms) cap] ∧ ObsAt w a ms := by
  obtain ⟨a, len, cap, rfl, hm, hr⟩ := read_rows Try.underlying44 Try.cellsObject (by omega) h
  rcases Nat.eq_zero_or_pos len with h0 | hp
  · subst h0
    exact ⟨a, cap, [], rfl, ⟨by simp [maxLen], fun h => absurd rfl h⟩⟩
  · obtain ⟨b, off, rfl, hb, hrow⟩ := hr hp
    have hf : ∀ i, i < len → ∃ o : Ob, ∃ a0 a1 c0 c1, ObIn w b (off + i * 7) o a0 a1 c0 c1 := by
      intro i hi
      obtain ⟨es, n, y, hel, hcell, hy⟩ := hrow i hi
      obtain ⟨o, a0, a1, c0, c1, rfl, hs⟩ := read_object hy
      exact ⟨o, a0, a1, c0, c1, hs.small, hs.vals, hs.holds, fun j hj => by rw [hcell j hj]; simp [Ob.row]⟩
    obtain ⟨ms, hl, hms⟩ := list_of len hf
    exact ⟨_, cap, ms, by rw [hl], ⟨by omega, fun _ => ⟨b, off, rfl, hb, hms⟩⟩⟩

theorem read_grant {fuel : Nat} {cs : List Value} {x : DataW H × List MemPlace} (h : DataW.trod enc Try.prog w base spare held fuel 124 cs = some x) :
    ∃ (g : Gr) (a : Option Addr) (cap : Nat), cs = (g.cells a cap).toList ∧ g.Small ∧ IntsAt w a g.r.vs := by
  have hlen : cs.length = 7 := by
    obtain ⟨_, _, _, _, hl, _, _⟩ := DataW.trod_struct Try.underlying124 h
    rw [hl]; exact Try.cellsGrant
  match cs, hlen with
  | [c0, c1, c2, c3, c4, c5, c6], _ =>
    have hf := field_one Try.underlying124 h
    obtain ⟨_, _, f0⟩ := hf 0 3 0 c0 rfl Try.cellsInt rfl
    obtain ⟨_, _, f1⟩ := hf 1 9 1 c1 rfl Try.cellsString rfl
    obtain ⟨_, _, f2⟩ := hf 2 9 2 c2 rfl Try.cellsString rfl
    obtain ⟨_, _, f3⟩ := field_span Try.underlying124 h 3 122 3 4 rfl Try.cellsRule
    obtain ⟨x0, e0, _, _⟩ := DataW.trod_int Try.underlying3 f0
    obtain ⟨x1, e1, _, s1⟩ := DataW.trod_string Try.underlying9 f1
    obtain ⟨x2, e2, _, s2⟩ := DataW.trod_string Try.underlying9 f2
    obtain ⟨r, a, cap, e3, hs, hI⟩ := read_rule f3
    simp only [List.cons.injEq, and_true] at e0 e1 e2
    subst e0 e1 e2
    have e3' : [c3, c4, c5, c6] = (r.cells a cap).toList := e3
    unfold Rl.cells at e3'
    simp only [List.cons.injEq, and_true] at e3'
    obtain ⟨e3, e4, e5, e6⟩ := e3'
    subst e3 e4 e5 e6
    exact ⟨⟨x0, x1, x2, r⟩, a, cap, rfl, ⟨s1, s2, hs⟩, hI⟩

theorem read_grants {fuel : Nat} {cs : List Value} {x : DataW H × List MemPlace} (h : DataW.trod enc Try.prog w base spare held fuel 45 cs = some x) :
    ∃ a cap ms, cs = [.slice a (List.length ms) cap] ∧ GrsAt w a ms := by
  obtain ⟨a, len, cap, rfl, hm, hr⟩ := read_rows Try.underlying45 Try.cellsGrant (by omega) h
  rcases Nat.eq_zero_or_pos len with h0 | hp
  · subst h0
    exact ⟨a, cap, [], rfl, ⟨by simp [maxLen], fun h => absurd rfl h⟩⟩
  · obtain ⟨b, off, rfl, hb, hrow⟩ := hr hp
    have hf : ∀ i, i < len → ∃ g : Gr, ∃ a0 c0, GrIn w b (off + i * 7) g a0 c0 := by
      intro i hi
      obtain ⟨es, n, y, hel, hcell, hy⟩ := hrow i hi
      obtain ⟨g, a0, c0, rfl, hs, hI⟩ := read_grant hy
      exact ⟨g, a0, c0, hs, hI, fun j hj => by rw [hcell j hj]; simp⟩
    obtain ⟨ms, hl, hms⟩ := list_of len hf
    exact ⟨_, cap, ms, by rw [hl], ⟨by omega, fun _ => ⟨b, off, rfl, hb, hms⟩⟩⟩

/-- A book, read. -/
theorem read_book {fuel : Nat} {cs : List Value} {x : DataW H × List MemPlace} (h : DataW.trod enc Try.prog w base spare held fuel 49 cs = some x) :
    ∃ (b : Bk) (a0 a1 a2 a3 : Option Addr) (k0 k1 k2 k3 : Nat), cs = (b.cells a0 a1 a2 a3 k0 k1 k2 k3).toList ∧ BkAt w b a0 a1 a2 a3 := by
  have hlen : cs.length = 7 := by
    obtain ⟨_, _, _, _, hl, _, _⟩ := DataW.trod_struct Try.underlying49 h
    rw [hl]; exact Try.cellsBook
  match cs, hlen with
  | [c0, c1, c2, c3, c4, c5, c6], _ =>
    have hf := field_one Try.underlying49 h
    obtain ⟨_, _, f0⟩ := hf 0 3 0 c0 rfl Try.cellsInt rfl
    obtain ⟨_, _, f1⟩ := hf 1 3 1 c1 rfl Try.cellsInt rfl
    obtain ⟨_, _, f2⟩ := hf 2 3 2 c2 rfl Try.cellsInt rfl
    obtain ⟨_, _, f3⟩ := hf 3 44 3 c3 rfl Try.cellsObjects rfl
    obtain ⟨_, _, f4⟩ := hf 4 45 4 c4 rfl Try.cellsGrants rfl
    obtain ⟨_, _, f5⟩ := hf 5 46 5 c5 rfl Try.cellsLedgers rfl
    obtain ⟨_, _, f6⟩ := hf 6 47 6 c6 rfl Try.cellsPurses rfl
    obtain ⟨x0, e0, _, _⟩ := DataW.trod_int Try.underlying3 f0
    obtain ⟨x1, e1, _, _⟩ := DataW.trod_int Try.underlying3 f1
    obtain ⟨x2, e2, _, _⟩ := DataW.trod_int Try.underlying3 f2
    obtain ⟨a0, k0, os, e3, hO⟩ := read_objects f3
    obtain ⟨a1, k1, gs, e4, hG⟩ := read_grants f4
    obtain ⟨a2, k2, ls, e5, hL⟩ := read_ledgers f5
    obtain ⟨a3, k3, ps, e6, hP⟩ := read_purses f6
    simp only [List.cons.injEq, and_true] at e0 e1 e2 e3 e4 e5 e6
    subst e0 e1 e2 e3 e4 e5 e6
    exact ⟨⟨x0, x1, x2, os, gs, ls, ps⟩, a0, a1, a2, a3, k0, k1, k2, k3, rfl, ⟨hO, hG, hL, hP⟩⟩
end

end Go.Proofs.Ytniokfnigmmiiaa
