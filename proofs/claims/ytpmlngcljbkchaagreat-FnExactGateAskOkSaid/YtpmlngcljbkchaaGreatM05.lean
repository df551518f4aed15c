import Derived.Test.YtpmlngcljbkchaaGreatM01
import Derived.Maps.AppendAt
import Derived.Test.YtpmlngcljbkchaaGreatM02
import Derived.Test.YtpmlngcljbkchaaGreatM03
import Derived.Test.YtpmlngcljbkchaaGreatRows
import Derived.ProofKit
import Derived.OpenShut
import Derived.SliceStrings
namespace Go.Proofs.YtpmlngcljbkchaaGreat
open Go.RowKit

theorem ownsRow_strs {w : World} {lo : Nat} {a : Option Addr} {n cap : Nat} {row : List ByteArray} (h : w.ownsRow lo 9 1 (.slice a n cap) row.length (row.map Value.string)) (hl : row.length ≤ maxLen) (hs : ∀ s ∈ row, s.size ≤ maxLen) : StrsAt w a row := by
  refine ⟨hl, hs, fun hne => ?_⟩
  obtain ⟨_, ⟨h0, h1⟩ | ⟨g, cp, cur, h0, h1⟩⟩ := id h
  · exact absurd (List.length_eq_zero_iff.1 h1) hne
  · cases h0
    refine ⟨g, 0, rfl, (h.lt g rfl).2, fun i hi => ?_⟩
    rw [Nat.zero_add, h.cellAt i (by omega)]
    simp [hi]

theorem ownsRow_strsSlice {w : World} {lo : Nat} {v : Value} {row : List ByteArray} (h : w.ownsRow lo 9 1 v row.length (row.map Value.string)) : ∃ a cap, v = .slice a row.length cap := by
  obtain ⟨_, ⟨h0, h1⟩ | ⟨g, cp, cur, h0, h1⟩⟩ := id h
  · rw [h1]; exact ⟨_, _, h0⟩
  · exact ⟨_, _, h0⟩

end Go.Proofs.YtpmlngcljbkchaaGreat

namespace Go.Proofs.YtpmlngcljbkchaaGreat.LawAskOk
open Go.ChangeShapes Go.WideShapes Go.ChangeAt Go.RowKit
theorem closed : joinedFacts Tryz.pinned.checked.prog 3 Tryz.f3 Rows.fnExactGateAskOkSpec Rows.fnExactGateAskOkRow = true := by
  unfold joinedFacts
  rw [kInPlace, kUnfol, kRecur, kNamed, kLaid, kMaps, kMay, kLifts]
  kernel_rfl
end Go.Proofs.YtpmlngcljbkchaaGreat.LawAskOk

namespace Go.Proofs.YtpmlngcljbkchaaGreat
open Go.ChangeShapes Go.WideShapes Go.ChangeAt Go.RowKit

section
variable {H : Type} {enc : TypeId × Value → H} {P : Program} {w : World} {base : Nat} {spare : Nat → Bool} {held : Bool}

theorem addr_of_cell {a : Addr} {v : Value} (h : w.cell? a = some v) : a = ⟨a.block, a.off, none⟩ ∧ a.block < w.heap.size := by
  obtain ⟨b, o, s⟩ := a
  unfold World.cell? at h
  cases hb : w.heap[b]? with
  | none => simp [hb] at h
  | some x =>
    have hlt := (Array.getElem?_eq_some_iff.1 hb).1
    cases s with
    | none => exact ⟨rfl, hlt⟩
    | some k => cases x <;> simp [hb] at h

theorem read_strs {t e : TypeId} {fuel : Nat} {cs : List Value} {x : DataW H × List MemPlace} (ht : P.underlying t = some (.slice e)) (he : P.underlying e = some .string) (hc : P.cellsOf e = 1)
    (h : DataW.trod enc P w base spare held fuel t cs = some x) : ∃ a cap ws, cs = [.slice a ws.length cap] ∧ StrsAt w a ws := by
  rcases open_strings ht he hc h with ⟨rfl, _⟩ | ⟨a, len, cap, ss, rfl, _, hl, hm, hz, _, hcell, hws⟩
  · exact ⟨none, 0, [], rfl, ⟨by simp [maxLen], by simp, fun h => absurd rfl h⟩⟩
  · have hle : len ≤ ss.length := by rw [hz]; split <;> omega
    have hlen : (ss.take len).length = len := by rw [List.length_take]; omega
    refine ⟨some a, cap, ss.take len, by rw [hlen], ⟨by rw [hlen]; omega, fun s hs => hws s (List.mem_of_mem_take hs), fun hne => ?_⟩⟩
    have hpos : 0 < len := by
      rcases Nat.eq_zero_or_pos len with h0 | h0
      · rw [h0] at hne; simp at hne
      · exact h0
    have h0 := hcell 0 (by omega)
    obtain ⟨ha, hb⟩ := addr_of_cell h0
    simp only [Addr.add, if_true] at ha hb
    refine ⟨a.block, a.off, by rw [← ha], hb, fun i hi => ?_⟩
    have hi' : i < len := by omega
    have h1 := hcell i (by omega)
    have e1 : a.add i = ⟨a.block, a.off + i, none⟩ := by
      unfold Addr.add; split
      · rename_i h; subst h; simpa using ha
      · rfl
    rw [e1] at h1
    rw [h1, List.getElem_take, List.getD_eq_getElem?_getD, List.getElem?_eq_getElem (by omega)]
    rfl

theorem field_read {t : TypeId} {fs : Array Field} {fuel : Nat} {cs : List Value} {x : DataW H × List MemPlace} (ht : P.underlying t = some (.struct fs)) (h : DataW.trod enc P w base spare held fuel t cs = some x)
    (i : Nat) (f : Field) (hf : fs[i]? = some f) : ∃ n y, DataW.trod enc P w base spare held n f.type ((cs.drop f.offset).take (P.cellsOf f.type)) = some y := by
  obtain ⟨xs, n, _, _, _, hxl, hall⟩ := DataW.trod_struct ht h
  have hi : i < fs.size := (Array.getElem?_eq_some_iff.1 hf).1
  exact ⟨n, xs[i]'(by omega), by rw [hall i f hf, List.getElem?_eq_getElem (by omega)]⟩

/-- A field of one cell, read. -/
theorem field_one {t : TypeId} {fs : Array Field} {fuel : Nat} {cs : List Value} {x : DataW H × List MemPlace} (ht : P.underlying t = some (.struct fs)) (h : DataW.trod enc P w base spare held fuel t cs = some x)
    (i tf off : Nat) (c : Value) (hf : (fs[i]?).map (fun f => (f.type, f.offset)) = some (tf, off)) (hone : P.cellsOf tf = 1) (hc : cs[off]? = some c) : ∃ n y, DataW.trod enc P w base spare held n tf [c] = some y := by
  obtain ⟨f, hf1, hf2⟩ := Option.map_eq_some_iff.1 hf
  simp only [Prod.mk.injEq] at hf2
  obtain ⟨rfl, rfl⟩ := hf2
  obtain ⟨n, y, hy⟩ := field_read ht h i f hf1
  rw [hone] at hy
  obtain ⟨hlt, hget⟩ := List.getElem?_eq_some_iff.1 hc
  rw [List.drop_eq_getElem_cons hlt, hget] at hy
  exact ⟨n, y, hy⟩

end

theorem list_of {α : Type} {P : Nat → α → Prop} : ∀ n : Nat, (∀ i, i < n → ∃ x, P i x) → ∃ l : List α, l.length = n ∧ ∀ i (h : i < l.length), P i l[i]
  | 0, _ => ⟨[], rfl, fun i h => absurd h (by simp)⟩
  | n + 1, h => by
    obtain ⟨l, hl, hP⟩ := list_of n (fun i hi => h i (by omega))
    obtain ⟨x, hx⟩ := h n (by omega)
    refine ⟨l ++ [x], by simp [hl], fun i hi => ?_⟩
    rcases Nat.lt_or_ge i n with h1 | h1
    · rw [List.getElem_append_left (by omega)]; exact hP i (by omega)
    · have e : i = n := by simp at hi; omega
      subst e
      rw [List.getElem_append_right (by omega)]
      simpa [hl] using hx

theorem add_add (b o m j : Nat) : ((⟨b, o, none⟩ : Addr).add m).add j = ⟨b, o + m + j, none⟩ := by
  unfold Addr.add
  by_cases h1 : m = 0 <;> by_cases h2 : j = 0 <;> simp [h1, h2]

section
variable {H : Type} {enc : TypeId × Value → H} {P : Program} {w : World} {base : Nat} {spare : Nat → Bool} {held : Bool}

/-- A slice of rows of sz cells, read: nil, or where it lies and what each row reads as. -/
theorem read_rows {t e : TypeId} {sz fuel : Nat} {cs : List Value} {x : DataW H × List MemPlace} (ht : P.underlying t = some (.slice e)) (hsz : P.cellsOf e = sz) (hpos : 0 < sz)
    (h : DataW.trod enc P w base spare held fuel t cs = some x) :
    ∃ a len cap, cs = [.slice a len cap] ∧ len ≤ maxLen ∧ (0 < len → ∃ b off, a = some ⟨b, off, none⟩ ∧ b < w.heap.size ∧
      ∀ i, i < len → ∃ es n y, es.length = sz ∧ (∀ j, j < sz → w.cell? ⟨b, off + i * sz + j, none⟩ = es[j]?) ∧ DataW.trod enc P w base spare held n e es = some y) := by
  rcases DataW.trod_slice ht h with ⟨rfl, _⟩ | ⟨a, len, cap, elems, rest, n, _, rfl, _, hb, hl, hm, hlen, hel, _, _⟩
  · exact ⟨none, 0, 0, rfl, by simp [maxLen], fun h => absurd h (by omega)⟩
  · refine ⟨some a, len, cap, rfl, by omega, fun hp => ?_⟩
    have each : ∀ i, i < len → ∃ es y, w.cells? base (a.add (i * sz)) sz = some es ∧ DataW.trod enc P w base spare held n e es = some y := by
      intro i hi
      have h1 := hel i hi
      rw [hsz, List.getElem?_eq_getElem (by omega), Option.bind_eq_some_iff] at h1
      obtain ⟨es, h2, h3⟩ := h1
      exact ⟨es, _, h2, h3⟩
    obtain ⟨es0, y0, hc0, _⟩ := each 0 hp
    obtain ⟨_, _, hcell0⟩ := World.cells?_some hc0
    have h00 := hcell0 0 hpos
    have hes0 : ∃ v, w.cell? a = some v := by
      have hl0 := (World.cells?_some hc0).2.1
      refine ⟨es0[0]'(by omega), ?_⟩
      have := h00
      simp only [Nat.zero_mul, Addr.add, if_true] at this
      rw [this, List.getElem?_eq_getElem (by omega)]
    obtain ⟨v0, hv0⟩ := hes0
    obtain ⟨ha, hbl⟩ := addr_of_cell hv0
    refine ⟨a.block, a.off, by rw [← ha], hbl, fun i hi => ?_⟩
    obtain ⟨es, y, hc, hy⟩ := each i hi
    obtain ⟨_, hlen', hcell⟩ := World.cells?_some hc
    refine ⟨es, n, y, hlen', fun j hj => ?_, hy⟩
    have e1 : (a.add (i * sz)).add j = ⟨a.block, a.off + i * sz + j, none⟩ := by
      have := add_add a.block a.off (i * sz) j
      rwa [← ha] at this
    rw [← e1]
    exact hcell j hj

end

theorem Tryz.cellsString : Tryz.prog.cellsOf 9 = 1 := by kernel_rfl
theorem Tryz.cellsInt : Tryz.prog.cellsOf 3 = 1 := by kernel_rfl
theorem Tryz.cellsBool : Tryz.prog.cellsOf 4 = 1 := by kernel_rfl

end Go.Proofs.YtpmlngcljbkchaaGreat
