import Derived.Test.YtbefjngbilakjaaM18
import Derived.Test.YtbefjngbilakjaaM01
import Derived.Test.YtbefjngbilakjaaM06
namespace Go.Proofs.Ytbefjngbilakjaa
open Go.ChangeShapes Go.WideShapes Go.ChangeAt Go.RowKit

theorem list_of {α : Type} {P : Nat → α → Prop} : ∀ n : Nat, (∀ i, i < n → ∃ x, P i x) → ∃ l : List α, l.length = n ∧ ∀ i (h : i < l.length), P i l[i]
  | 0, _ => ⟨[], rfl, fun i h => absurd h (by simp)⟩
  | n + 1, h => by
    obtain ⟨l, hl, hP⟩ := list_of n (fun i hi => h i (by omega))
    obtain ⟨x, hx⟩ := h n (by omega)
    refine ⟨l ++ [x], by simp [hl], fun i hi => ?_⟩
    rcases Nat.lt_or_ge i n with h1 | h1
    · rw [List.getElem_append_left (by omega)]; exact hP i (by omega)
    · have e : i = n := by simp at hi; omega
      subst e
      rw [List.getElem_append_right (by omega)]
      simpa [hl] using hx

theorem add_add (b o m j : Nat) : ((⟨b, o, none⟩ : Addr).add m).add j = ⟨b, o + m + j, none⟩ := by
  unfold Addr.add
  by_cases h1 : m = 0 <;> by_cases h2 : j = 0 <;> simp [h1, h2]

section
variable {H : Type} {enc : TypeId × Value → H} {P : Program} {w : World} {base : Nat} {spare : Nat → Bool} {held : Bool}

/-- A slice of rows of sz cells, read: nil, or where it lies and what each row reads as. -/
theorem read_rows {t e : TypeId} {sz fuel : Nat} {cs : List Value} {x : DataW H × List MemPlace} (ht : P.underlying t = some (.slice e)) (hsz : P.cellsOf e = sz) (hpos : 0 < sz)
    (h : DataW.trod enc P w base spare held fuel t cs = some x) :
    ∃ a len cap, cs = [.slice a len cap] ∧ len ≤ maxLen ∧ (0 < len → ∃ b off, a = some ⟨b, off, none⟩ ∧ b < w.heap.size ∧
      ∀ i, i < len → ∃ es n y, es.length = sz ∧ (∀ j, j < sz → w.cell? ⟨b, off + i * sz + j, none⟩ = es[j]?) ∧ DataW.trod enc P w base spare held n e es = some y) := by
  rcases DataW.trod_slice ht h with ⟨rfl, _⟩ | ⟨a, len, cap, elems, rest, n, _, rfl, _, hb, hl, hm, hlen, hel, _, _⟩
  · exact ⟨none, 0, 0, rfl, by simp [maxLen], fun h => absurd h (by omega)⟩
  · refine ⟨some a, len, cap, rfl, by omega, fun hp => ?_⟩
    have each : ∀ i, i < len → ∃ es y, w.cells? base (a.add (i * sz)) sz = some es ∧ DataW.trod enc P w base spare held n e es = some y := by
      intro i hi
      have h1 := hel i hi
      rw [hsz, List.getElem?_eq_getElem (by omega), Option.bind_eq_some_iff] at h1
      obtain ⟨es, h2, h3⟩ := h1
      exact ⟨es, _, h2, h3⟩
    obtain ⟨es0, y0, hc0, _⟩ := each 0 hp
    obtain ⟨_, _, hcell0⟩ := World.cells?_some hc0
    have h00 := hcell0 0 hpos
    have hes0 : ∃ v, w.cell? a = some v := by
      have hl0 := (World.cells?_some hc0).2.1
      refine ⟨es0[0]'(by omega), ?_⟩
      have := h00
      simp only [Nat.zero_mul, Addr.add, if_true] at this
      rw [this, List.getElem?_eq_getElem (by omega)]
    obtain ⟨v0, hv0⟩ := hes0
    obtain ⟨ha, hbl⟩ := addr_of_cell hv0
    refine ⟨a.block, a.off, by rw [← ha], hbl, fun i hi => ?_⟩
    obtain ⟨es, y, hc, hy⟩ := each i hi
    obtain ⟨_, hlen', hcell⟩ := World.cells?_some hc
    refine ⟨es, n, y, hlen', fun j hj => ?_, hy⟩
    have e1 : (a.add (i * sz)).add j = ⟨a.block, a.off + i * sz + j, none⟩ := by
      have := add_add a.block a.off (i * sz) j
      rwa [← ha] at this
    rw [← e1]
    exact hcell j hj

end

theorem Try.cellsShape : Try.prog.cellsOf 68 = 2 := by kernel_rfl
theorem Try.cellsFields : Try.prog.cellsOf 66 = 1 := by kernel_rfl

section
variable {H : Type} {enc : TypeId × Value → H} {w : World} {base : Nat} {spare : Nat → Bool} {held : Bool}

theorem read_fields {fuel : Nat} {cs : List Value} {x : DataW H × List MemPlace} (h : DataW.trod enc Try.prog w base spare held fuel 66 cs = some x) :
    ∃ a cap fs, cs = [.slice a (List.length fs) cap] ∧ FldsAt w a fs := by
  obtain ⟨a, len, cap, rfl, hm, hr⟩ := read_rows Try.underlying66 Try.cellsField (by omega) h
  rcases Nat.eq_zero_or_pos len with h0 | hp
  · subst h0
    exact ⟨a, cap, [], rfl, ⟨by simp [maxLen], fun h => absurd rfl h⟩⟩
  · obtain ⟨b, off, rfl, hb, hrow⟩ := hr hp
    have hf : ∀ i, i < len → ∃ f : Fld, ∃ wa wcap, FldIn w b (off + i * 11) f wa wcap := by
      intro i hi
      obtain ⟨es, n, y, hel, hcell, hy⟩ := hrow i hi
      obtain ⟨nm, kd, ls, ms, wa, wcap, ws, to, rl, mu, fx, df, wg, rfl, hS, s0, s5, s9, s10⟩ := read_field hy
      refine ⟨⟨nm, kd, ls, ms, ws, to, rl, mu, fx, df, wg⟩, wa, wcap, ⟨s0, s5, s9, s10⟩, hS, fun j hj => ?_⟩
      rw [hcell j hj]
      simp [Fld.cells]
    obtain ⟨fs, hl, hfs⟩ := list_of len hf
    refine ⟨_, cap, fs, by rw [hl], ⟨by omega, fun _ => ⟨b, off, rfl, hb, fun i hi => hfs i hi⟩⟩⟩

theorem read_shape {fuel : Nat} {cs : List Value} {x : DataW H × List MemPlace} (h : DataW.trod enc Try.prog w base spare held fuel 68 cs = some x) :
    ∃ kd a cap fs, cs = [.string kd, .slice a (List.length fs) cap] ∧ kd.size ≤ maxLen ∧ FldsAt w a fs := by
  have hlen : cs.length = 2 := by
    obtain ⟨_, _, _, _, hl, _, _⟩ := DataW.trod_struct Try.underlying68 h
    rw [hl]; exact Try.cellsShape
  match cs, hlen with
  | [c0, c1], _ =>
    have hf := field_one Try.underlying68 h
    obtain ⟨_, _, f0⟩ := hf 0 9 0 c0 rfl Try.cellsString rfl
    obtain ⟨_, _, f1⟩ := hf 1 66 1 c1 rfl Try.cellsFields rfl
    obtain ⟨kd, e0, _, s0⟩ := DataW.trod_string Try.underlying9 f0
    obtain ⟨a, cap, fs, e1, hF⟩ := read_fields f1
    simp only [List.cons.injEq, and_true] at e0 e1
    subst e0 e1
    exact ⟨kd, a, cap, fs, rfl, s0, hF⟩

theorem read_shapes {fuel : Nat} {cs : List Value} {x : DataW H × List MemPlace} (h : DataW.trod enc Try.prog w base spare held fuel 31 cs = some x) :
    ∃ a cap ss, cs = [.slice a (List.length ss) cap] ∧ ShpsAt w a ss := by
  obtain ⟨a, len, cap, rfl, hm, hr⟩ := read_rows Try.underlying31 Try.cellsShape (by omega) h
  rcases Nat.eq_zero_or_pos len with h0 | hp
  · subst h0
    exact ⟨a, cap, [], rfl, ⟨by simp [maxLen], fun h => absurd rfl h⟩⟩
  · obtain ⟨b, off, rfl, hb, hrow⟩ := hr hp
    have hf : ∀ i, i < len → ∃ s : Shp, ∃ fa fcap, ShpIn w b (off + i * 2) s fa fcap := by
      intro i hi
      obtain ⟨es, n, y, hel, hcell, hy⟩ := hrow i hi
      obtain ⟨kd, fa, fcap, fs, rfl, s0, hF⟩ := read_shape hy
      exact ⟨⟨kd, fs⟩, fa, fcap, s0, hF, hcell 0 (by omega), hcell 1 (by omega)⟩
    obtain ⟨ss, hl, hss⟩ := list_of len hf
    exact ⟨_, cap, ss, by rw [hl], ⟨by omega, fun _ => ⟨b, off, rfl, hb, fun i hi => hss i hi⟩⟩⟩

end

end Go.Proofs.Ytbefjngbilakjaa

namespace Go.Proofs.Ytbefjngbilakjaa
open Go.ChangeShapes Go.WideShapes Go.ChangeAt Go.RowKit

theorem Try.cellsObject : Try.prog.cellsOf 39 = 7 := by kernel_rfl

/-- An object, read. -/
theorem read_object {H : Type} {enc : TypeId × Value → H} {w : World} {base : Nat} {spare : Nat → Bool} {held : Bool} {fuel : Nat} {cs : List Value} {x : DataW H × List MemPlace}
    (h : DataW.trod enc Try.prog w base spare held fuel 39 cs = some x) :
    ∃ (o : Ob) (a a' : Option Addr) (cap cap' : Nat), cs = [.string o.kd, .string o.nm, .string o.tm, .slice a o.vs.length cap, .bool o.en, .slice a' o.hs.length cap', .int .i64 o.vr] ∧ ObAt w o a a' := by
  have hlen : cs.length = 7 := by
    obtain ⟨_, _, _, _, hl, _, _⟩ := DataW.trod_struct Try.underlying39 h
    rw [hl]; exact Try.cellsObject
  match cs, hlen with
  | [c0, c1, c2, c3, c4, c5, c6], _ =>
    have hf := field_one Try.underlying39 h
    obtain ⟨_, _, f0⟩ := hf 0 9 0 c0 rfl Try.cellsString rfl
    obtain ⟨_, _, f1⟩ := hf 1 9 1 c1 rfl Try.cellsString rfl
    obtain ⟨_, _, f2⟩ := hf 2 9 2 c2 rfl Try.cellsString rfl
    obtain ⟨_, _, f3⟩ := hf 3 22 3 c3 rfl Try.cellsStrings rfl
    obtain ⟨_, _, f4⟩ := hf 4 4 4 c4 rfl Try.cellsBool rfl
    obtain ⟨_, _, f5⟩ := hf 5 22 5 c5 rfl Try.cellsStrings rfl
    obtain ⟨_, _, f6⟩ := hf 6 3 6 c6 rfl Try.cellsInt rfl
    obtain ⟨kd, e0, _, s0⟩ := DataW.trod_string Try.underlying9 f0
    obtain ⟨nm, e1, _, s1⟩ := DataW.trod_string Try.underlying9 f1
    obtain ⟨tm, e2, _, s2⟩ := DataW.trod_string Try.underlying9 f2
    obtain ⟨a, cap, vs, e3, hV⟩ := read_strs Try.underlying22 Try.underlying9 Try.cellsString f3
    obtain ⟨en, e4, _⟩ := DataW.trod_bool Try.underlying4 f4
    obtain ⟨a', cap', hs, e5, hH⟩ := read_strs Try.underlying22 Try.underlying9 Try.cellsString f5
    obtain ⟨vr, e6, _, _⟩ := DataW.trod_int Try.underlying3 f6
    simp only [List.cons.injEq, and_true] at e0 e1 e2 e3 e4 e5 e6
    subst e0 e1 e2 e3 e4 e5 e6
    exact ⟨⟨kd, nm, tm, vs, en, hs, vr⟩, a, a', cap, cap', rfl, ⟨⟨s0, s1, s2⟩, hV, hH⟩⟩

end Go.Proofs.Ytbefjngbilakjaa
