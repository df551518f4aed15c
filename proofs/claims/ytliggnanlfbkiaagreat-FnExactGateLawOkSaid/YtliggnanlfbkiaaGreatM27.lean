import Derived.Test.YtliggnanlfbkiaaGreatM26
import Derived.Deep.RegionHeld3
import Derived.Test.YtliggnanlfbkiaaGreatRows
import Derived.Test.YtliggnanlfbkiaaGreatM02
import Derived.ProofKit
import Derived.SliceStrings
namespace Go.Proofs.YtliggnanlfbkiaaGreat
open Go.RowKit

set_option maxHeartbeats 2000000 in
theorem lawLawOk_any (l : Lw) (a b c : Option Addr) (ca cb cc : Nat) (w : World) (hl : LwAt w l a b c) :
    Calls Tryz.prog 3 #[.agg (l.cells a b c ca cb cc)] w fun e w' => e = .returned (.bool true) ∧ Below w.heap.size w w' := by
  have HL : Hid (LwAt w l a b c) := hl
  clear hl
  unfold Lw.cells
  go_enter Tryz.func3, Tryz.ntmps3
  go_wp2_with fail
  have hB0 : Below w.heap.size w (w.alloc (.cells #[.slice a l.ss.length ca, .slice b l.ms.length cb, .slice c l.ts.length cc] 26)) := (Below.refl _ _).alloc (Nat.le_refl _) _
  have hX0 := box_new w #[.slice a l.ss.length ca, .slice b l.ms.length cb, .slice c l.ts.length cc] 26
  obtain ⟨W0, hW0⟩ : ∃ W0, W0 = w.alloc (.cells #[.slice a l.ss.length ca, .slice b l.ms.length cb, .slice c l.ts.length cc] 26) := ⟨_, rfl⟩
  have hz0 : w.heap.size < W0.heap.size := by rw [hW0]; simp
  rw [← hW0] at hB0 hX0 ⊢
  clear hW0
  refine (szGateLaw_any l _ _ _ _ _ _ _ _ (HL.out.mono hB0) (by omega) (by omega)).mono ?_
  rintro e w1 ⟨rfl, hb1⟩
  have hB1 := hB0.trans (hb1.mono hB0.size)
  have hX1 := box_later hX0 hz0 hb1
  have hz1 := Nat.lt_of_lt_of_le hz0 hb1.size
  clear hb1 hB0 hX0 hz0
  by_cases hsz : (l.sz : Int) ≤ 1048576
  rotate_left
  · rw [szRes_no (by omega)]
    go_wp2_with fail
    go_ret
    exact ⟨rfl, hB1⟩
  have HF : Hid l.Few := Lw.few hsz
  have hneg : decide (1048576 - (l.sz : Int) < 0) = false := by simp; omega
  rw [szRes_yes hsz]
  go_wp2_with fail
  refine (toGateLaw_any l _ _ _ _ _ _ _ (HL.out.mono hB1) HF.out).mono ?_
  rintro e w2 ⟨a2, b2, c2, rfl, hl2, hb⟩
  have hB2 := hB1.trans (hb.mono hB1.size)
  have hX2 := box_later hX1 hz1 hb
  have hz2 := Nat.lt_of_lt_of_le hz1 hb.size
  clear hb hB1 hX1 hz1
  go_wp2_with fail
  refine (specLawOk_any l _ _ _ _ _ _ _ hl2).mono ?_
  rintro e w3 ⟨rfl, hb⟩
  have hB3 := hB2.trans (hb.mono hB2.size)
  have hX3 := box_later hX2 hz2 hb
  have hz3 := Nat.lt_of_lt_of_le hz2 hb.size
  clear hb hB2 hX2 hz2 hl2
  go_wp2_with fail
  refine (toGateLaw_any l _ _ _ _ _ _ _ (HL.out.mono hB3) HF.out).mono ?_
  rintro e w4 ⟨a4, b4, c4, rfl, hl4, hb⟩
  have hB4 := hB3.trans (hb.mono hB3.size)
  have hX4 := box_later hX3 hz3 hb
  have hz4 := Nat.lt_of_lt_of_le hz3 hb.size
  clear hb hB3 hX3 hz3
  unfold Lw.cells
  go_wp2_with fail
  have hb5 : Below w4.heap.size w4 (w4.alloc (.cells #[.slice a4 l.ss.length l.ss.length, .slice b4 l.ms.length l.ms.length, .slice c4 l.ts.length l.ts.length] 33)) := (Below.refl _ _).alloc (Nat.le_refl _) _
  have hV0 := box_new w4 #[.slice a4 l.ss.length l.ss.length, .slice b4 l.ms.length l.ms.length, .slice c4 l.ts.length l.ts.length] 33
  obtain ⟨w5, hw5⟩ : ∃ w5, w5 = w4.alloc (.cells #[.slice a4 l.ss.length l.ss.length, .slice b4 l.ms.length l.ms.length, .slice c4 l.ts.length l.ts.length] 33) := ⟨_, rfl⟩
  have hv5 : w4.heap.size < w5.heap.size := by rw [hw5]; simp
  rw [← hw5] at hb5 hV0 ⊢
  clear hw5
  have hl5 := hl4.mono hb5
  have hB5 := hB4.trans (hb5.mono hB4.size)
  have hX5 := box_later hX4 hz4 hb5
  have hz5 := Nat.lt_of_lt_of_le hz4 hb5.size
  clear hb5 hB4 hX4 hz4 hl4
  refine (implLawOk_any l _ _ _ _ _ _ _ hl5 HF.out).mono ?_
  rintro e w6 ⟨rfl, hb⟩
  have hl6 := hl5.mono hb
  have hB6 := hB5.trans (hb.mono hB5.size)
  have hX6 := box_later hX5 hz5 hb
  have hz6 := Nat.lt_of_lt_of_le hz5 hb.size
  have hV6 := box_later hV0 hv5 hb
  have hv6 := Nat.lt_of_lt_of_le hv5 hb.size
  clear hb hB5 hX5 hz5 hl5 hV0 hv5
  have hne : (Gate.lawOk l != Gate.lawOk l) = false := by simp
  go_wp2_with fail
  have hlv := hl6.mono (Below.refl w6.heap.size w6).drew
  have hX := box_later hX6 hz6 (Below.refl w6.heap.size w6).drew
  have hV := box_later hV6 hv6 (Below.refl w6.heap.size w6).drew
  have hz : w.heap.size < w6.drew.heap.size := hz6
  have hv : w4.heap.size < w6.drew.heap.size := hv6
  have hB := hB6.drew
  clear hl6 hX6 hV6 hz6 hv6 hB6
  go_region_held3 (fun w' => (∀ j, w'.cell? ⟨w.heap.size, j, none⟩ = (#[.slice a l.ss.length ca, .slice b l.ms.length cb, .slice c l.ts.length cc] : Array Value)[j]?) ∧ ∀ j, w'.cell? ⟨w4.heap.size, j, none⟩ = (#[.slice a4 l.ss.length l.ss.length, .slice b4 l.ms.length l.ms.length, .slice c4 l.ts.length l.ts.length] : Array Value)[j]?) (exact ⟨hX, hV⟩) (first
    | (go_at_call 6; refine (toGateLaw_any l _ _ _ _ _ _ _ (by exact HL.out.mono hB) HF.out).mono ?_; rintro e w7 ⟨a7, b7, c7, rfl, hl7, hb⟩; unfold Lw.cells; have hlv := hlv.mono hb; have hX := box_later hX hz hb; have hV := box_later hV hv hb; have hB := hB.trans (hb.mono hB.size); have hz := Nat.lt_of_lt_of_le hz hb.size; have hv := Nat.lt_of_lt_of_le hv hb.size; clear hb)
    | (go_at_call 8; refine (eqGateLaw_yes l _ _ _ _ _ _ _ _ _ _ _ _ _ (by exact hlv) (by exact hl7)).mono ?_; rintro e w8 ⟨rfl, hb⟩; have hX := box_later hX hz hb; have hV := box_later hV hv hb; have hB := hB.trans (hb.mono hB.size); have hz := Nat.lt_of_lt_of_le hz hb.size; have hv := Nat.lt_of_lt_of_le hv hb.size; clear hb))
  go_wp2_with fail
  go_ret
  exact ⟨rfl, hB⟩

end Go.Proofs.YtliggnanlfbkiaaGreat

namespace Go.Proofs.YtliggnanlfbkiaaGreat
open Go.ChangeShapes Go.WideShapes Go.ChangeAt Go.RowKit

section
variable {H : Type} {enc : TypeId × Value → H} {P : Program} {w : World} {base : Nat} {spare : Nat → Bool} {held : Bool}

theorem addr_of_cell {a : Addr} {v : Value} (h : w.cell? a = some v) : a = ⟨a.block, a.off, none⟩ ∧ a.block < w.heap.size := by
  obtain ⟨b, o, s⟩ := a
  unfold World.cell? at h
  cases hb : w.heap[b]? with
  | none => simp [hb] at h
  | some x =>
    have hlt := (Array.getElem?_eq_some_iff.1 hb).1
    cases s with
    | none => exact ⟨rfl, hlt⟩
    | some k => cases x <;> simp [hb] at h

theorem read_strs {t e : TypeId} {fuel : Nat} {cs : List Value} {x : DataW H × List MemPlace} (ht : P.underlying t = some (.slice e)) (he : P.underlying e = some .string) (hc : P.cellsOf e = 1)
    (h : DataW.trod enc P w base spare held fuel t cs = some x) : ∃ a cap ws, cs = [.slice a ws.length cap] ∧ StrsAt w a ws := by
  rcases open_strings ht he hc h with ⟨rfl, _⟩ | ⟨a, len, cap, ss, rfl, _, hl, hm, hz, _, hcell, hws⟩
  · exact ⟨none, 0, [], rfl, ⟨by simp [maxLen], by simp, fun h => absurd rfl h⟩⟩
  · have hle : len ≤ ss.length := by rw [hz]; split <;> omega
    have hlen : (ss.take len).length = len := by rw [List.length_take]; omega
    refine ⟨some a, cap, ss.take len, by rw [hlen], ⟨by rw [hlen]; omega, fun s hs => hws s (List.mem_of_mem_take hs), fun hne => ?_⟩⟩
    have hpos : 0 < len := by
      rcases Nat.eq_zero_or_pos len with h0 | h0
      · rw [h0] at hne; simp at hne
      · exact h0
    have h0 := hcell 0 (by omega)
    obtain ⟨ha, hb⟩ := addr_of_cell h0
    simp only [Addr.add, if_true] at ha hb
    refine ⟨a.block, a.off, by rw [← ha], hb, fun i hi => ?_⟩
    have hi' : i < len := by omega
    have h1 := hcell i (by omega)
    have e1 : a.add i = ⟨a.block, a.off + i, none⟩ := by
      unfold Addr.add; split
      · rename_i h; subst h; simpa using ha
      · rfl
    rw [e1] at h1
    rw [h1, List.getElem_take, List.getD_eq_getElem?_getD, List.getElem?_eq_getElem (by omega)]
    rfl

theorem field_read {t : TypeId} {fs : Array Field} {fuel : Nat} {cs : List Value} {x : DataW H × List MemPlace} (ht : P.underlying t = some (.struct fs)) (h : DataW.trod enc P w base spare held fuel t cs = some x)
    (i : Nat) (f : Field) (hf : fs[i]? = some f) : ∃ n y, DataW.trod enc P w base spare held n f.type ((cs.drop f.offset).take (P.cellsOf f.type)) = some y := by
  obtain ⟨xs, n, _, _, _, hxl, hall⟩ := DataW.trod_struct ht h
  have hi : i < fs.size := (Array.getElem?_eq_some_iff.1 hf).1
  exact ⟨n, xs[i]'(by omega), by rw [hall i f hf, List.getElem?_eq_getElem (by omega)]⟩

/-- A field of one cell, read. -/
theorem field_one {t : TypeId} {fs : Array Field} {fuel : Nat} {cs : List Value} {x : DataW H × List MemPlace} (ht : P.underlying t = some (.struct fs)) (h : DataW.trod enc P w base spare held fuel t cs = some x)
    (i tf off : Nat) (c : Value) (hf : (fs[i]?).map (fun f => (f.type, f.offset)) = some (tf, off)) (hone : P.cellsOf tf = 1) (hc : cs[off]? = some c) : ∃ n y, DataW.trod enc P w base spare held n tf [c] = some y := by
  obtain ⟨f, hf1, hf2⟩ := Option.map_eq_some_iff.1 hf
  simp only [Prod.mk.injEq] at hf2
  obtain ⟨rfl, rfl⟩ := hf2
  obtain ⟨n, y, hy⟩ := field_read ht h i f hf1
  rw [hone] at hy
  obtain ⟨hlt, hget⟩ := List.getElem?_eq_some_iff.1 hc
  rw [List.drop_eq_getElem_cons hlt, hget] at hy
  exact ⟨n, y, hy⟩

end

theorem list_of {α : Type} {P : Nat → α → Prop} : ∀ n : Nat, (∀ i, i < n → ∃ x, P i x) → ∃ l : List α, l.length = n ∧ ∀ i (h : i < l.length), P i l[i]
  | 0, _ => ⟨[], rfl, fun i h => absurd h (by simp)⟩
  | n + 1, h => by
    obtain ⟨l, hl, hP⟩ := list_of n (fun i hi => h i (by omega))
    obtain ⟨x, hx⟩ := h n (by omega)
    refine ⟨l ++ [x], by simp [hl], fun i hi => ?_⟩
    rcases Nat.lt_or_ge i n with h1 | h1
    · rw [List.getElem_append_left (by omega)]; exact hP i (by omega)
    · have e : i = n := by simp at hi; omega
      subst e
      rw [List.getElem_append_right (by omega)]
      simpa [hl] using hx

theorem add_add (b o m j : Nat) : ((⟨b, o, none⟩ : Addr).add m).add j = ⟨b, o + m + j, none⟩ := by
  unfold Addr.add
  by_cases h1 : m = 0 <;> by_cases h2 : j = 0 <;> simp [h1, h2]

section
variable {H : Type} {enc : TypeId × Value → H} {P : Program} {w : World} {base : Nat} {spare : Nat → Bool} {held : Bool}

/-- A slice of rows of sz cells, read: nil, or where it lies and what each row reads as. -/
theorem read_rows {t e : TypeId} {sz fuel : Nat} {cs : List Value} {x : DataW H × List MemPlace} (ht : P.underlying t = some (.slice e)) (hsz : P.cellsOf e = sz) (hpos : 0 < sz)
    (h : DataW.trod enc P w base spare held fuel t cs = some x) :
    ∃ a len cap, cs = [.slice a len cap] ∧ len ≤ maxLen ∧ (0 < len → ∃ b off, a = some ⟨b, off, none⟩ ∧ b < w.heap.size ∧
      ∀ i, i < len → ∃ es n y, es.length = sz ∧ (∀ j, j < sz → w.cell? ⟨b, off + i * sz + j, none⟩ = es[j]?) ∧ DataW.trod enc P w base spare held n e es = some y) := by
  rcases DataW.trod_slice ht h with ⟨rfl, _⟩ | ⟨a, len, cap, elems, rest, n, _, rfl, _, hb, hl, hm, hlen, hel, _, _⟩
  · exact ⟨none, 0, 0, rfl, by simp [maxLen], fun h => absurd h (by omega)⟩
  · refine ⟨some a, len, cap, rfl, by omega, fun hp => ?_⟩
    have each : ∀ i, i < len → ∃ es y, w.cells? base (a.add (i * sz)) sz = some es ∧ DataW.trod enc P w base spare held n e es = some y := by
      intro i hi
      have h1 := hel i hi
      rw [hsz, List.getElem?_eq_getElem (by omega), Option.bind_eq_some_iff] at h1
      obtain ⟨es, h2, h3⟩ := h1
      exact ⟨es, _, h2, h3⟩
    obtain ⟨es0, y0, hc0, _⟩ := each 0 hp
    obtain ⟨_, _, hcell0⟩ := World.cells?_some hc0
    have h00 := hcell0 0 hpos
    have hes0 : ∃ v, w.cell? a = some v := by
      have hl0 := (World.cells?_some hc0).2.1
      refine ⟨es0[0]'(by omega), ?_⟩
      have := h00
      simp only [Nat.zero_mul, Addr.add, if_true] at this
      rw [this, List.getElem?_eq_getElem (by omega)]
    obtain ⟨v0, hv0⟩ := hes0
    obtain ⟨ha, hbl⟩ := addr_of_cell hv0
    refine ⟨a.block, a.off, by rw [← ha], hbl, fun i hi => ?_⟩
    obtain ⟨es, y, hc, hy⟩ := each i hi
    obtain ⟨_, hlen', hcell⟩ := World.cells?_some hc
    refine ⟨es, n, y, hlen', fun j hj => ?_, hy⟩
    have e1 : (a.add (i * sz)).add j = ⟨a.block, a.off + i * sz + j, none⟩ := by
      have := add_add a.block a.off (i * sz) j
      rwa [← ha] at this
    rw [← e1]
    exact hcell j hj

end

theorem Tryz.cellsString : Tryz.prog.cellsOf 9 = 1 := by kernel_rfl
theorem Tryz.cellsInt : Tryz.prog.cellsOf 3 = 1 := by kernel_rfl
theorem Tryz.cellsBool : Tryz.prog.cellsOf 4 = 1 := by kernel_rfl

end Go.Proofs.YtliggnanlfbkiaaGreat

namespace Go.Proofs.YtliggnanlfbkiaaGreat
open Go.ChangeShapes Go.WideShapes Go.ChangeAt Go.RowKit

theorem Tryz.cellsStrings : Tryz.prog.cellsOf 61 = 1 := by kernel_rfl
theorem Tryz.cellsField : Tryz.prog.cellsOf 116 = 11 := by kernel_rfl

/-- A field of a shape, read. -/
theorem read_field {H : Type} {enc : TypeId × Value → H} {w : World} {base : Nat} {spare : Nat → Bool} {held : Bool} {fuel : Nat} {cs : List Value} {x : DataW H × List MemPlace}
    (h : DataW.trod enc Tryz.prog w base spare held fuel 116 cs = some x) :
    ∃ nm kd ls ms a cap ws to rl mu fx df wg, cs = [.string nm, .int .i64 kd, .int .i64 ls, .int .i64 ms, .slice a (List.length ws) cap, .string to, .int .i64 rl, .bool mu, .bool fx, .string df, .string wg] ∧ StrsAt w a ws ∧
      nm.size ≤ maxLen ∧ to.size ≤ maxLen ∧ df.size ≤ maxLen ∧ wg.size ≤ maxLen := by
  have hlen : cs.length = 11 := by
    obtain ⟨_, _, _, _, hl, _, _⟩ := DataW.trod_struct Tryz.underlying116 h
    rw [hl]; exact Tryz.cellsField
  match cs, hlen with
  | [c0, c1, c2, c3, c4, c5, c6, c7, c8, c9, c10], _ =>
    have hf := field_one Tryz.underlying116 h
    obtain ⟨_, _, f0⟩ := hf 0 9 0 c0 rfl Tryz.cellsString rfl
    obtain ⟨_, _, f1⟩ := hf 1 3 1 c1 rfl Tryz.cellsInt rfl
    obtain ⟨_, _, f2⟩ := hf 2 3 2 c2 rfl Tryz.cellsInt rfl
    obtain ⟨_, _, f3⟩ := hf 3 3 3 c3 rfl Tryz.cellsInt rfl
    obtain ⟨_, _, f4⟩ := hf 4 61 4 c4 rfl Tryz.cellsStrings rfl
    obtain ⟨_, _, f5⟩ := hf 5 9 5 c5 rfl Tryz.cellsString rfl
    obtain ⟨_, _, f6⟩ := hf 6 3 6 c6 rfl Tryz.cellsInt rfl
    obtain ⟨_, _, f7⟩ := hf 7 4 7 c7 rfl Tryz.cellsBool rfl
    obtain ⟨_, _, f8⟩ := hf 8 4 8 c8 rfl Tryz.cellsBool rfl
    obtain ⟨_, _, f9⟩ := hf 9 9 9 c9 rfl Tryz.cellsString rfl
    obtain ⟨_, _, f10⟩ := hf 10 9 10 c10 rfl Tryz.cellsString rfl
    obtain ⟨nm, e0, _, s0⟩ := DataW.trod_string Tryz.underlying9 f0
    obtain ⟨kd, e1, _, _⟩ := DataW.trod_int Tryz.underlying3 f1
    obtain ⟨ls, e2, _, _⟩ := DataW.trod_int Tryz.underlying3 f2
    obtain ⟨ms, e3, _, _⟩ := DataW.trod_int Tryz.underlying3 f3
    obtain ⟨a, cap, ws, e4, hS⟩ := read_strs Tryz.underlying61 Tryz.underlying9 Tryz.cellsString f4
    obtain ⟨to, e5, _, s5⟩ := DataW.trod_string Tryz.underlying9 f5
    obtain ⟨rl, e6, _, _⟩ := DataW.trod_int Tryz.underlying3 f6
    obtain ⟨mu, e7, _⟩ := DataW.trod_bool Tryz.underlying4 f7
    obtain ⟨fx, e8, _⟩ := DataW.trod_bool Tryz.underlying4 f8
    obtain ⟨df, e9, _, s9⟩ := DataW.trod_string Tryz.underlying9 f9
    obtain ⟨wg, e10, _, s10⟩ := DataW.trod_string Tryz.underlying9 f10
    simp only [List.cons.injEq, and_true] at e0 e1 e2 e3 e4 e5 e6 e7 e8 e9 e10
    subst e0 e1 e2 e3 e4 e5 e6 e7 e8 e9 e10
    exact ⟨nm, kd, ls, ms, a, cap, ws, to, rl, mu, fx, df, wg, rfl, hS, s0, s5, s9, s10⟩

end Go.Proofs.YtliggnanlfbkiaaGreat
