import Derived.Test.YtbefjngbilakjaaM05
import Derived.Test.YtbefjngbilakjaaM23
import Derived.Test.YtbefjngbilakjaaM22
import Derived.Test.YtbefjngbilakjaaM06
import Derived.Test.YtbefjngbilakjaaRows
import Derived.Test.YtbefjngbilakjaaM01
import Derived.ProofKit
import Derived.SliceStrings
namespace Go.Proofs.Ytbefjngbilakjaa
open Go.RowKit

theorem shps_few {ss : List Shp} (h : (shpsSz ss : Int) ≤ 1048576) : ss.length ≤ 1048576 ∧ ∀ i (h : i < ss.length), ss[i].fs.length ≤ 1048576 ∧ ∀ j (h' : j < ss[i].fs.length), ss[i].fs[j].ws.length ≤ 1048576 := by
  unfold shpsSz at h
  refine ⟨by omega, fun i hi => ?_⟩
  have h1 : Shp.sz ss[i] ≤ sumS ss := sum_mem Shp.sz ss i hi
  unfold Shp.sz fldsSz at h1
  refine ⟨by omega, fun j hj => ?_⟩
  have h2 : Fld.sz ss[i].fs[j] ≤ sumF ss[i].fs := sum_mem Fld.sz ss[i].fs j hj
  unfold Fld.sz fldSz strsSz at h2
  omega

theorem ob_few {o : Ob} {l : Int} (h : (obSz o : Int) ≤ l) (hl : l ≤ 1048576) : o.vs.length ≤ 1048576 ∧ o.hs.length ≤ 1048576 := by
  unfold obSz strsSz at h
  omega

theorem ob_own {w w' : World} {o : Ob} {a a' : Option Addr} {bv bh : Nat} (ho : ObAt w o a a') (h1 : w'.heap[bv]? = some (.cells (strArr o.vs) 9)) (h2 : w'.heap[bh]? = some (.cells (strArr o.hs) 9)) : ObAt w' o (some ⟨bv, 0, none⟩) (some ⟨bh, 0, none⟩) :=
  ⟨ho.small, heap_strs h1 ho.vals.len ho.vals.small, heap_strs h2 ho.holds.len ho.holds.small⟩

end Go.Proofs.Ytbefjngbilakjaa

namespace Go.Proofs.Ytbefjngbilakjaa
open Go.RowKit

set_option maxHeartbeats 4000000 in
theorem lawMendsOk_any (a0 a1 : Option Addr) (cap0 cap1 : Nat) (ss : List Shp) (ms : List Mnd) (w : World) (hw : ShpsAt w a0 ss) (hm : MndsAt w a1 ms) :
    Calls Try.prog 6 #[.slice a0 ss.length cap0, .slice a1 ms.length cap1] w fun e w' => e = .returned (.bool true) ∧ Below w.heap.size w w' := by
  by_cases hsz : (shpsSz ss : Int) ≤ 1048576
  rotate_left
  · go_enter Try.func6, Try.ntmps6
    go_wp2_with fail
    refine (szGateShapeS_any _ _ _ _ _ hw (by omega) (by omega)).mono ?_
    rintro e w1 ⟨rfl, hb1⟩
    rw [szRes_no (by omega)]
    go_wp2_with fail
    go_ret
    exact ⟨rfl, hb1⟩
  have HLS : Hid (ss.length ≤ 1048576 ∧ ∀ i (h : i < ss.length), ss[i].fs.length ≤ 1048576 ∧ ∀ j (h' : j < ss[i].fs.length), ss[i].fs[j].ws.length ≤ 1048576) := shps_few hsz
  have hneg : decide (1048576 - (shpsSz ss : Int) < 0) = false := by simp; omega
  by_cases hoz : (mndsSz ms : Int) ≤ 1048576 - (shpsSz ss : Int)
  rotate_left
  · go_enter Try.func6, Try.ntmps6
    go_wp2_with fail
    refine (szGateShapeS_any _ _ _ _ _ hw (by omega) (by omega)).mono ?_
    rintro e w1 ⟨rfl, hb1⟩
    rw [szRes_yes hsz]
    go_wp2_with fail
    refine (szGateMendS_any _ _ _ _ _ (hm.mono hb1) (by omega) (by omega)).mono ?_
    rintro e w2 ⟨rfl, hb2⟩
    rw [szRes_no (by omega)]
    go_wp2_with fail
    go_ret
    exact ⟨rfl, hb1.trans (hb2.mono hb1.size)⟩
  have HLM : Hid (ms.length ≤ 1048576) := by unfold mndsSz at hoz; show _ ≤ _; omega
  have hneg' : decide (1048576 - (shpsSz ss : Int) - (mndsSz ms : Int) < 0) = false := by simp; omega
  have HW : Hid (ShpsAt w a0 ss ∧ MndsAt w a1 ms) := ⟨hw, hm⟩
  have HSA : Hid (Gate.mendsOk ss ms = Gate.mendsOkS ss ms) := Gate.mendsOk_same ss ms
  have HSM : Hid (ShpsSmall ss ∧ ss.length ≤ maxLen ∧ (∀ i (h : i < ms.length), ms[i].Small) ∧ ms.length ≤ maxLen) := ⟨hw.smalls, hw.len, hm.small, hm.len⟩
  clear hw hm
  go_enter Try.func6, Try.ntmps6
  go_wp2_with fail
  refine (szGateShapeS_any _ _ _ _ _ HW.out.1 (by omega) (by omega)).mono ?_
  rintro e w1 ⟨rfl, hb1⟩
  rw [szRes_yes hsz]
  go_wp2_with fail
  refine (szGateMendS_any _ _ _ _ _ (HW.out.2.mono hb1) (by omega) (by omega)).mono ?_
  rintro e w2 ⟨rfl, hb2⟩
  rw [szRes_yes hoz]
  have HB2 : Hid (Below w.heap.size w w2) := hb1.trans (hb2.mono hb1.size)
  clear hb1 hb2
  go_wp2_with fail
  refine (toGateShapeS_any _ _ _ _ (HW.out.1.mono HB2.out) HLS.out.1 HLS.out.2).mono ?_
  rintro e w3 ⟨rfl, hown, hb⟩
  have HB3 : Hid (Below w.heap.size w w3) := HB2.out.trans (hb.mono HB2.out.size)
  have HBB3 : Hid (Below w2.heap.size w2 w3) := hb
  have HS3 : Hid (ShpsAt w3 (some ⟨w2.heap.size, 0, none⟩) ss) := hown.at HSM.out.1 HSM.out.2.1
  clear hown hb
  go_wp2_with fail
  refine (toGateMendS_any _ _ _ _ (HW.out.2.mono HB3.out) HLM.out).mono ?_
  rintro e w4 ⟨rfl, hown, hb⟩
  have HB4 : Hid (Below w.heap.size w w4) := HB3.out.trans (hb.mono HB3.out.size)
  have HBB4 : Hid (Below w3.heap.size w3 w4) := hb
  have HM4 : Hid (MndsAt w4 (some ⟨w3.heap.size, 0, none⟩) ms) := hown.at HSM.out.2.2.1 HSM.out.2.2.2
  clear hown hb
  go_wp2_with fail
  refine (specMendsOk_any _ _ _ _ ss ms w4 (HS3.out.mono HBB4.out) HM4.out).mono ?_
  rintro e w5 ⟨rfl, hb⟩
  have HB5 : Hid (Below w.heap.size w w5) := HB4.out.trans (hb.mono HB4.out.size)
  clear hb
  go_wp2_with fail
  refine (toGateShapeS_any _ _ _ _ (HW.out.1.mono HB5.out) HLS.out.1 HLS.out.2).mono ?_
  rintro e w6 ⟨rfl, hown, hb⟩
  have HB6 : Hid (Below w.heap.size w w6) := HB5.out.trans (hb.mono HB5.out.size)
  have HBB6 : Hid (Below w5.heap.size w5 w6) := hb
  have HS6 : Hid (ShpsAt w6 (some ⟨w5.heap.size, 0, none⟩) ss) := hown.at HSM.out.1 HSM.out.2.1
  clear hown hb
  go_wp2_with fail
  refine (toGateMendS_any _ _ _ _ (HW.out.2.mono HB6.out) HLM.out).mono ?_
  rintro e w7 ⟨rfl, hown, hb⟩
  have HB7 : Hid (Below w.heap.size w w7) := HB6.out.trans (hb.mono HB6.out.size)
  have HBB7 : Hid (Below w6.heap.size w6 w7) := hb
  have HM7 : Hid (MndsAt w7 (some ⟨w6.heap.size, 0, none⟩) ms) := hown.at HSM.out.2.2.1 HSM.out.2.2.2
  clear hown hb
  go_wp2_with fail
  refine (implMendsOk_any _ _ _ _ ss ms w7 (HS6.out.mono HBB7.out) HM7.out HLM.out).mono ?_
  rintro e w8 ⟨rfl, hb⟩
  have HB8 : Hid (Below w.heap.size w w8) := HB7.out.trans (hb.mono HB7.out.size)
  have HB78 : Hid (Below w7.heap.size w7 w8) := hb
  rw [HSA.out]
  clear hb
  go_wp2_with fail
  refine (toGateShapeS_any _ _ _ _ (HW.out.1.mono HB8.out) HLS.out.1 HLS.out.2).mono ?_
  rintro e w9 ⟨rfl, hown, hb⟩
  have HB9 : Hid (Below w.heap.size w w9) := HB8.out.trans (hb.mono HB8.out.size)
  have HBB9 : Hid (Below w8.heap.size w8 w9) := hb
  have HS9 : Hid (ShpsAt w9 (some ⟨w8.heap.size, 0, none⟩) ss) := hown.at HSM.out.1 HSM.out.2.1
  clear hown hb
  go_wp2_with fail
  refine (eqGateShapeS_yes _ _ _ _ _ _ (((HS6.out.mono HBB7.out).mono HB78.out).mono HBB9.out) HS9.out).mono ?_
  rintro e w10 ⟨rfl, hb⟩
  have HB10 : Hid (Below w.heap.size w w10) := HB9.out.trans (hb.mono HB9.out.size)
  have HB910 : Hid (Below w9.heap.size w9 w10) := hb
  clear hb
  go_wp2_with fail
  refine (toGateMendS_any _ _ _ _ (HW.out.2.mono HB10.out) HLM.out).mono ?_
  rintro e w11 ⟨rfl, hown, hb⟩
  have HB11 : Hid (Below w.heap.size w w11) := HB10.out.trans (hb.mono HB10.out.size)
  have HBB11 : Hid (Below w10.heap.size w10 w11) := hb
  have HM11 : Hid (MndsAt w11 (some ⟨w10.heap.size, 0, none⟩) ms) := hown.at HSM.out.2.2.1 HSM.out.2.2.2
  clear hown hb
  go_wp2_with fail
  refine (eqGateMendS_yes _ _ _ _ _ _ ((((HM7.out.mono HB78.out).mono HBB9.out).mono HB910.out).mono HBB11.out) HM11.out).mono ?_
  rintro e w12 ⟨rfl, hb⟩
  have HB12 : Hid (Below w.heap.size w w12) := HB11.out.trans (hb.mono HB11.out.size)
  clear hb
  go_wp2_with fail
  go_ret
  exact ⟨rfl, HB12.out⟩

end Go.Proofs.Ytbefjngbilakjaa

namespace Go.Proofs.Ytbefjngbilakjaa
open Go.ChangeShapes Go.WideShapes Go.ChangeAt Go.RowKit

section
variable {H : Type} {enc : TypeId × Value → H} {P : Program} {w : World} {base : Nat} {spare : Nat → Bool} {held : Bool}

theorem addr_of_cell {a : Addr} {v : Value} (h : w.cell? a = some v) : a = ⟨a.block, a.off, none⟩ ∧ a.block < w.heap.size := by
  obtain ⟨b, o, s⟩ := a
  unfold World.cell? at h
  cases hb : w.heap[b]? with
  | none => simp [hb] at h
  | some x =>
    have hlt := (Array.getElem?_eq_some_iff.1 hb).1
    cases s with
    | none => exact ⟨rfl, hlt⟩
    | some k => cases x <;> simp [hb] at h

theorem read_strs {t e : TypeId} {fuel : Nat} {cs : List Value} {x : DataW H × List MemPlace} (ht : P.underlying t = some (.slice e)) (he : P.underlying e = some .string) (hc : P.cellsOf e = 1)
    (h : DataW.trod enc P w base spare held fuel t cs = some x) : ∃ a cap ws, cs = [.slice a ws.length cap] ∧ StrsAt w a ws := by
  rcases open_strings ht he hc h with ⟨rfl, _⟩ | ⟨a, len, cap, ss, rfl, _, hl, hm, hz, _, hcell, hws⟩
  · exact ⟨none, 0, [], rfl, ⟨by simp [maxLen], by simp, fun h => absurd rfl h⟩⟩
  · have hle : len ≤ ss.length := by rw [hz]; split <;> omega
    have hlen : (ss.take len).length = len := by rw [List.length_take]; omega
    refine ⟨some a, cap, ss.take len, by rw [hlen], ⟨by rw [hlen]; omega, fun s hs => hws s (List.mem_of_mem_take hs), fun hne => ?_⟩⟩
    have hpos : 0 < len := by
      rcases Nat.eq_zero_or_pos len with h0 | h0
      · rw [h0] at hne; simp at hne
      · exact h0
    have h0 := hcell 0 (by omega)
    obtain ⟨ha, hb⟩ := addr_of_cell h0
    simp only [Addr.add, if_true] at ha hb
    refine ⟨a.block, a.off, by rw [← ha], hb, fun i hi => ?_⟩
    have hi' : i < len := by omega
    have h1 := hcell i (by omega)
    have e1 : a.add i = ⟨a.block, a.off + i, none⟩ := by
      unfold Addr.add; split
      · rename_i h; subst h; simpa using ha
      · rfl
    rw [e1] at h1
    rw [h1, List.getElem_take, List.getD_eq_getElem?_getD, List.getElem?_eq_getElem (by omega)]
    rfl

theorem field_read {t : TypeId} {fs : Array Field} {fuel : Nat} {cs : List Value} {x : DataW H × List MemPlace} (ht : P.underlying t = some (.struct fs)) (h : DataW.trod enc P w base spare held fuel t cs = some x)
    (i : Nat) (f : Field) (hf : fs[i]? = some f) : ∃ n y, DataW.trod enc P w base spare held n f.type ((cs.drop f.offset).take (P.cellsOf f.type)) = some y := by
  obtain ⟨xs, n, _, _, _, hxl, hall⟩ := DataW.trod_struct ht h
  have hi : i < fs.size := (Array.getElem?_eq_some_iff.1 hf).1
  exact ⟨n, xs[i]'(by omega), by rw [hall i f hf, List.getElem?_eq_getElem (by omega)]⟩

/-- A field of one cell, read. -/
theorem field_one {t : TypeId} {fs : Array Field} {fuel : Nat} {cs : List Value} {x : DataW H × List MemPlace} (ht : P.underlying t = some (.struct fs)) (h : DataW.trod enc P w base spare held fuel t cs = some x)
    (i tf off : Nat) (c : Value) (hf : (fs[i]?).map (fun f => (f.type, f.offset)) = some (tf, off)) (hone : P.cellsOf tf = 1) (hc : cs[off]? = some c) : ∃ n y, DataW.trod enc P w base spare held n tf [c] = some y := by
  obtain ⟨f, hf1, hf2⟩ := Option.map_eq_some_iff.1 hf
  simp only [Prod.mk.injEq] at hf2
  obtain ⟨rfl, rfl⟩ := hf2
  obtain ⟨n, y, hy⟩ := field_read ht h i f hf1
  rw [hone] at hy
  obtain ⟨hlt, hget⟩ := List.getElem?_eq_some_iff.1 hc
  rw [List.drop_eq_getElem_cons hlt, hget] at hy
  exact ⟨n, y, hy⟩

end

theorem Try.cellsString : Try.prog.cellsOf 9 = 1 := by kernel_rfl
theorem Try.cellsInt : Try.prog.cellsOf 3 = 1 := by kernel_rfl
theorem Try.cellsBool : Try.prog.cellsOf 4 = 1 := by kernel_rfl
theorem Try.cellsStrings : Try.prog.cellsOf 22 = 1 := by kernel_rfl
theorem Try.cellsField : Try.prog.cellsOf 24 = 11 := by kernel_rfl

/-- A field of a shape, read. -/
theorem read_field {H : Type} {enc : TypeId × Value → H} {w : World} {base : Nat} {spare : Nat → Bool} {held : Bool} {fuel : Nat} {cs : List Value} {x : DataW H × List MemPlace}
    (h : DataW.trod enc Try.prog w base spare held fuel 24 cs = some x) :
    ∃ nm kd ls ms a cap ws to rl mu fx df wg, cs = [.string nm, .int .i64 kd, .int .i64 ls, .int .i64 ms, .slice a (List.length ws) cap, .string to, .int .i64 rl, .bool mu, .bool fx, .string df, .string wg] ∧ StrsAt w a ws ∧
      nm.size ≤ maxLen ∧ to.size ≤ maxLen ∧ df.size ≤ maxLen ∧ wg.size ≤ maxLen := by
  have hlen : cs.length = 11 := by
    obtain ⟨_, _, _, _, hl, _, _⟩ := DataW.trod_struct Try.underlying24 h
    rw [hl]; exact Try.cellsField
  match cs, hlen with
  | [c0, c1, c2, c3, c4, c5, c6, c7, c8, c9, c10], _ =>
    have hf := field_one Try.underlying24 h
    obtain ⟨_, _, f0⟩ := hf 0 9 0 c0 rfl Try.cellsString rfl
    obtain ⟨_, _, f1⟩ := hf 1 3 1 c1 rfl Try.cellsInt rfl
    obtain ⟨_, _, f2⟩ := hf 2 3 2 c2 rfl Try.cellsInt rfl
    obtain ⟨_, _, f3⟩ := hf 3 3 3 c3 rfl Try.cellsInt rfl
    obtain ⟨_, _, f4⟩ := hf 4 22 4 c4 rfl Try.cellsStrings rfl
    obtain ⟨_, _, f5⟩ := hf 5 9 5 c5 rfl Try.cellsString rfl
    obtain ⟨_, _, f6⟩ := hf 6 3 6 c6 rfl Try.cellsInt rfl
    obtain ⟨_, _, f7⟩ := hf 7 4 7 c7 rfl Try.cellsBool rfl
    obtain ⟨_, _, f8⟩ := hf 8 4 8 c8 rfl Try.cellsBool rfl
    obtain ⟨_, _, f9⟩ := hf 9 9 9 c9 rfl Try.cellsString rfl
    obtain ⟨_, _, f10⟩ := hf 10 9 10 c10 rfl Try.cellsString rfl
    obtain ⟨nm, e0, _, s0⟩ := DataW.trod_string Try.underlying9 f0
    obtain ⟨kd, e1, _, _⟩ := DataW.trod_int Try.underlying3 f1
    obtain ⟨ls, e2, _, _⟩ := DataW.trod_int Try.underlying3 f2
    obtain ⟨ms, e3, _, _⟩ := DataW.trod_int Try.underlying3 f3
    obtain ⟨a, cap, ws, e4, hS⟩ := read_strs Try.underlying22 Try.underlying9 Try.cellsString f4
    obtain ⟨to, e5, _, s5⟩ := DataW.trod_string Try.underlying9 f5
    obtain ⟨rl, e6, _, _⟩ := DataW.trod_int Try.underlying3 f6
    obtain ⟨mu, e7, _⟩ := DataW.trod_bool Try.underlying4 f7
    obtain ⟨fx, e8, _⟩ := DataW.trod_bool Try.underlying4 f8
    obtain ⟨df, e9, _, s9⟩ := DataW.trod_string Try.underlying9 f9
    obtain ⟨wg, e10, _, s10⟩ := DataW.trod_string Try.underlying9 f10
    simp only [List.cons.injEq, and_true] at e0 e1 e2 e3 e4 e5 e6 e7 e8 e9 e10
    subst e0 e1 e2 e3 e4 e5 e6 e7 e8 e9 e10
    exact ⟨nm, kd, ls, ms, a, cap, ws, to, rl, mu, fx, df, wg, rfl, hS, s0, s5, s9, s10⟩

end Go.Proofs.Ytbefjngbilakjaa
