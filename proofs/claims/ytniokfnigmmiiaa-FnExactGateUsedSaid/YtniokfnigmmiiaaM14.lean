import Derived.Test.YtniokfnigmmiiaaM09
import Derived.Test.YtniokfnigmmiiaaM06
import Derived.Deep.RegionHeld3
import Derived.Test.YtniokfnigmmiiaaM12
import Derived.Test.YtniokfnigmmiiaaM13
namespace Go.Proofs.Ytniokfnigmmiiaa
open Go.RowKit

def Ob.row (o : Ob) (a0 a1 : Option Addr) (c0 c1 : Nat) : Array Value := #[.string o.kd, .string o.nm, .string o.tm, .slice a0 o.vs.length c0, .bool o.en, .slice a1 o.hs.length c1, .int .i64 o.vr]
def Ob.sz (o : Ob) : Nat := obSz o
theorem Ob.few_of {o : Ob} (h : (o.sz : Int) ≤ 1048576) : o.vs.length ≤ 1048576 ∧ o.hs.length ≤ 1048576 := ob_few h (Int.le_refl _)

theorem szGateObject_row (o : Ob) (a0 a1 : Option Addr) (c0 c1 : Nat) (left : Int) (w : World) (hm : o.Small) (h0' : StrsAt w a0 o.vs) (h1' : StrsAt w a1 o.hs) (h0 : 0 ≤ left) (h1 : left ≤ 1048576) :
    Calls Try.prog 6 #[.agg (o.row a0 a1 c0 c1), .int .i64 left] w fun e w' => e = .returned (.int .i64 (szRes o.sz left)) ∧ Below w.heap.size w w' := szGateObject_any o a0 a1 c0 c1 left w ⟨hm, h0', h1'⟩ h0 h1

theorem eqGateObject_row (o : Ob) (a0 a1 : Option Addr) (c0 c1 : Nat) (a0' a1' : Option Addr) (c0' c1' : Nat) (w : World) (hm : o.Small) (h0 : StrsAt w a0 o.vs) (h1 : StrsAt w a1 o.hs) (h0' : StrsAt w a0' o.vs) (h1' : StrsAt w a1' o.hs) :
    Calls Try.prog 12 #[.agg (o.row a0 a1 c0 c1), .agg (o.row a0' a1' c0' c1')] w fun e w' => e = .returned (.bool true) ∧ Below w.heap.size w w' := eqGateObject_yes o a0 a1 a0' a1' c0 c1 c0' c1' w ⟨hm, h0, h1⟩ ⟨hm, h0', h1'⟩

theorem toGateObject_row (o : Ob) (a0 a1 : Option Addr) (c0 c1 : Nat) (w : World) (hm : o.Small) (h0 : StrsAt w a0 o.vs) (h1 : StrsAt w a1 o.hs) (hl : o.vs.length ≤ 1048576 ∧ o.hs.length ≤ 1048576) :
    Calls Try.prog 9 #[.agg (o.row a0 a1 c0 c1)] w fun e w' => ∃ g0 g1, e = .returned (.agg (o.row (some ⟨g0, 0, none⟩) (some ⟨g1, 0, none⟩) o.vs.length o.hs.length)) ∧ w.heap.size ≤ g0 ∧ w'.heap[g0]? = some (.cells (strArr o.vs) 9) ∧ w.heap.size ≤ g1 ∧ w'.heap[g1]? = some (.cells (strArr o.hs) 9) ∧ Below w.heap.size w w' := by
  refine (toGateObject_any o a0 a1 c0 c1 w ⟨hm, h0, h1⟩ hl.1 hl.2).mono ?_
  rintro e w' ⟨bv, bh, he, hv, hh, _, hbv, hbh, hb⟩
  exact ⟨bv, bh, he, hv, hbv, hh, hbh, hb⟩

structure ObIn (w : World) (b off : Nat) (x : Ob) (a0 a1 : Option Addr) (c0 c1 : Nat) : Prop where
  small : x.Small
  l0 : StrsAt w a0 x.vs
  l1 : StrsAt w a1 x.hs
  cell : ∀ j, j < 7 → w.cell? ⟨b, off + j, none⟩ = (Ob.row x a0 a1 c0 c1)[j]?

structure ObsAt (w : World) (a : Option Addr) (ms : List Ob) : Prop where
  len : ms.length ≤ maxLen
  rows : ms ≠ [] → ∃ b off, a = some ⟨b, off, none⟩ ∧ b < w.heap.size ∧ ∀ i (h : i < ms.length), ∃ a0 a1 c0 c1, ObIn w b (off + i * 7) ms[i] a0 a1 c0 c1

theorem ObIn.mono {w w' : World} {b off : Nat} {x : Ob} {a0 a1 : Option Addr} {c0 c1 : Nat} (h : ObIn w b off x a0 a1 c0 c1) (hb : b < w.heap.size) (hl : Below w.heap.size w w') : ObIn w' b off x a0 a1 c0 c1 :=
  ⟨h.small, h.l0.mono hl, h.l1.mono hl, fun j hj => (hl.cell (p := ⟨b, off + j, none⟩) hb).trans (h.cell j hj)⟩

theorem ObsAt.mono {w w' : World} {a : Option Addr} {ms : List Ob} (h : ObsAt w a ms) (hl : Below w.heap.size w w') : ObsAt w' a ms :=
  ⟨h.len, fun hne => by
    obtain ⟨b, off, ha, hb, hr⟩ := h.rows hne
    refine ⟨b, off, ha, Nat.lt_of_lt_of_le hb hl.size, fun i hi => ?_⟩
    obtain ⟨a0, a1, c0, c1, hf⟩ := hr i hi
    exact ⟨a0, a1, c0, c1, hf.mono hb hl⟩⟩

theorem ObsAt.load {w w' : World} {a : Option Addr} {ms : List Ob} (h : ObsAt w a ms) (hl : Below w.heap.size w w') (i : Nat) (hi : i < ms.length) : ∃ b off a0 a1 c0 c1, a = some ⟨b, off, none⟩ ∧ b < w.heap.size ∧ ms[i].Small ∧ StrsAt w' a0 ms[i].vs ∧ StrsAt w' a1 ms[i].hs ∧
    w'.cell? ⟨b, off + i * 7, none⟩ = some (.string ms[i].kd) ∧ w'.cell? ⟨b, off + i * 7 + 1, none⟩ = some (.string ms[i].nm) ∧ w'.cell? ⟨b, off + i * 7 + 2, none⟩ = some (.string ms[i].tm) ∧ w'.cell? ⟨b, off + i * 7 + 3, none⟩ = some (.slice a0 ms[i].vs.length c0) ∧ w'.cell? ⟨b, off + i * 7 + 4, none⟩ = some (.bool ms[i].en) ∧ w'.cell? ⟨b, off + i * 7 + 5, none⟩ = some (.slice a1 ms[i].hs.length c1) ∧ w'.cell? ⟨b, off + i * 7 + 6, none⟩ = some (.int .i64 ms[i].vr) := by
  obtain ⟨b, off, ha, hb, hr⟩ := h.rows (by rintro rfl; simp at hi)
  obtain ⟨a0, a1, c0, c1, hf0⟩ := hr i hi
  have hf := hf0.mono hb hl
  exact ⟨b, off, a0, a1, c0, c1, ha, hb, hf.small, hf.l0, hf.l1, hf.cell 0 (by omega), hf.cell 1 (by omega), hf.cell 2 (by omega), hf.cell 3 (by omega), hf.cell 4 (by omega), hf.cell 5 (by omega), hf.cell 6 (by omega)⟩

def sumOb (ms : List Ob) : Nat := (ms.map Ob.sz).sum
def szObs (ms : List Ob) : Nat := ms.length + sumOb ms

structure ObsSmall (ms : List Ob) : Prop where
  small : ∀ i (h : i < ms.length), ms[i].Small ∧ (ms[i].vs.length ≤ maxLen ∧ ∀ s ∈ ms[i].vs, s.size ≤ maxLen) ∧ (ms[i].hs.length ≤ maxLen ∧ ∀ s ∈ ms[i].hs, s.size ≤ maxLen)

theorem ObsAt.smalls {w : World} {a : Option Addr} {ms : List Ob} (h : ObsAt w a ms) : ObsSmall ms :=
  ⟨fun i hi => by
    obtain ⟨b, off, _, _, hr⟩ := h.rows (by rintro rfl; simp at hi)
    obtain ⟨a0, a1, c0, c1, hf⟩ := hr i hi
    exact ⟨hf.small, ⟨hf.l0.len, hf.l0.small⟩, ⟨hf.l1.len, hf.l1.small⟩⟩⟩

theorem Obs_few {ms : List Ob} {left : Int} (h : (szObs ms : Int) ≤ left) (hl : left ≤ 1048576) : ms.length ≤ 1048576 ∧ ∀ i (h : i < ms.length), ms[i].vs.length ≤ 1048576 ∧ ms[i].hs.length ≤ 1048576 := by
  unfold szObs at h
  refine ⟨by omega, fun i hi => ?_⟩
  have h1 : ms[i].sz ≤ sumOb ms := sum_mem Ob.sz ms i hi
  exact Ob.few_of (by omega)

set_option maxHeartbeats 1000000 in
theorem szGateObjectS_any (a : Option Addr) (cap : Nat) (ms : List Ob) (left : Int) (w : World) (hw : ObsAt w a ms) (h0 : 0 ≤ left) (h1 : left ≤ 1048576) :
    Calls Try.prog 34 #[.slice a ms.length cap, .int .i64 left] w fun e w' => e = .returned (.int .i64 (szRes (szObs ms) left)) ∧ Below w.heap.size w w' := by
  have hl := hw.len
  unfold maxLen at hl
  by_cases hfit : (ms.length : Int) ≤ left
  · go_enter Try.func34, Try.ntmps34
    go_wp2_with fail
    go_loopw [1, 5] (fun l i wr => ∃ k : Nat, k ≤ ms.length ∧ i = .int .i64 k ∧ 0 ≤ left - ms.length - sumOb (ms.take k) ∧ l = .int .i64 (left - ms.length - sumOb (ms.take k)) ∧ Below w.heap.size w wr) (fun _ i _ => ms.length - (intOf i).toNat)
    case atStart => exact ⟨0, Nat.zero_le _, rfl, by simp [sumOb]; omega, by simp [sumOb], Below.refl _ _⟩
    case round =>
      obtain ⟨k, hk, rfl, hpos, rfl, hB⟩ := hrel
      by_cases hlt : k < ms.length
      · obtain ⟨b, off, a0, a1, c0, c1, rfl, hb, hsm, hl0, hl1, d0, d1, d2, d3, d4, d5, d6⟩ := hw.load hB k hlt
        have hbr : b < wr.heap.size := Nat.lt_of_lt_of_le hb hB.size
        have HS : Hid (sumOb (ms.take (k + 1)) = sumOb (ms.take k) + ms[k].sz) := sum_snoc Ob.sz ms k hlt
        have hle : sumOb (ms.take (k + 1)) ≤ sumOb ms := sum_le Ob.sz ms (k + 1)
        have HI : Hid (StrsAt wr a0 ms[k].vs ∧ StrsAt wr a1 ms[k].hs) := ⟨hl0, hl1⟩
        clear hw hl0 hl1
        by_cases hneg : (ms[k].sz : Int) ≤ left - ms.length - sumOb (ms.take k)
        · have HNG : Hid ((ms[k].sz : Int) ≤ left - ms.length - sumOb (ms.take k)) := hneg
          clear hle
          go_wp2_with fail
          refine (szGateObject_row ms[k] a0 a1 c0 c1 _ _ hsm HI.out.1 HI.out.2 hpos (by omega)).mono ?_
          rintro e w1 ⟨rfl, hb1⟩
          rw [szRes_yes HNG.out]
          have hB1 := hB.trans (hb1.mono hB.size)
          clear hb1
          go_wp2_with fail
          exact ⟨⟨k + 1, by omega, by go_num, by rw [HS.out]; omega, by rw [HS.out]; congr 1; omega, hB1⟩, by simp [intOf]; omega⟩
        · have HF : Hid (szRes (szObs ms) left = -1) := szRes_no (by have := HS.out; unfold szObs; omega)
          have HNG : Hid (¬ (ms[k].sz : Int) ≤ left - ms.length - sumOb (ms.take k)) := hneg
          clear hneg hle
          go_wp2_with fail
          refine (szGateObject_row ms[k] a0 a1 c0 c1 _ _ hsm HI.out.1 HI.out.2 hpos (by omega)).mono ?_
          rintro e w1 ⟨rfl, hb1⟩
          rw [szRes_no (by have := HNG.out; omega)]
          have hB1 := hB.trans (hb1.mono hB.size)
          clear hb1
          go_wp2_with fail
          go_ret
          exact ⟨ret_int HF.out.symm, hB1⟩
      · have HF : Hid (szRes (szObs ms) left = left - ms.length - sumOb (ms.take k)) := by
          rw [List.take_of_length_le (by omega)] at hpos ⊢
          have e : szRes (szObs ms) left = left - szObs ms := szRes_yes (by unfold szObs; omega)
          unfold Hid; rw [e]; unfold szObs; omega
        clear hw
        go_wp2
        go_ret
        exact ⟨ret_int HF.out.symm, hB⟩
  · have HF : Hid (szRes (szObs ms) left = -1) := szRes_no (by unfold szObs; omega)
    clear hw
    go_enter Try.func34, Try.ntmps34
    go_wp2
    go_ret
    exact ⟨ret_int HF.out.symm, Below.refl _ _⟩

set_option maxHeartbeats 2000000 in
theorem eqGateObjectS_yes (a a' : Option Addr) (cap cap' : Nat) (ms : List Ob) (w : World) (hw : ObsAt w a ms) (hw' : ObsAt w a' ms) :
    Calls Try.prog 44 #[.slice a ms.length cap, .slice a' ms.length cap'] w fun e w' => e = .returned (.bool true) ∧ Below w.heap.size w w' := by
  have hl := hw.len
  unfold maxLen at hl
  have hnn : ((ms.length : Int) != ms.length) = false := by simp
  go_enter Try.func44, Try.ntmps44
  go_wp2_with fail
  go_loopw [5] (fun i wr => ∃ k : Nat, k ≤ ms.length ∧ i = .int .i64 k ∧ Below w.heap.size w wr) (fun i _ => ms.length - (intOf i).toNat)
  case atStart => exact ⟨0, Nat.zero_le _, rfl, Below.refl _ _⟩
  case round =>
    obtain ⟨k, hk, rfl, hB⟩ := hrel
    by_cases hlt : k < ms.length
    · obtain ⟨b, off, a0, a1, c0, c1, rfl, hb, hsm, hl0, hl1, d0, d1, d2, d3, d4, d5, d6⟩ := hw.load hB k hlt
      obtain ⟨b', off', a0', a1', c0', c1', rfl, hb', _, hl0', hl1', f0, f1, f2, f3, f4, f5, f6⟩ := hw'.load hB k hlt
      have hltI : (k : Int) < (ms.length : Int) := by omega
      clear hw hw'
      go_wp2_with fail
      go_region_with (go_at_call 12; refine (eqGateObject_row ms[k] a0 a1 c0 c1 a0' a1' c0' c1' _ hsm (by exact hl0.mono ((Below.refl _ _).drew)) (by exact hl1.mono ((Below.refl _ _).drew)) (by exact hl0'.mono ((Below.refl _ _).drew)) (by exact hl1'.mono ((Below.refl _ _).drew))).mono ?_; rintro e w1 ⟨rfl, hb1'⟩; have hb1 := (Below.refl wr.heap.size wr).drew.trans hb1'; clear hb1')
      all_goals go_wp2_with fail
      all_goals exact ⟨⟨k + 1, by omega, by go_num, hB.trans (hb1.mono hB.size)⟩, by simp [intOf]; omega⟩
    · clear hw hw'
      go_wp2_with fail
      go_ret
      exact ⟨rfl, hB⟩

/-- A row in memory of its own, the first k laid; each item's lists in blocks of their own. -/
structure ObsOwn (lo : Nat) (w : World) (bo : Nat) (ms : List Ob) (k : Nat) : Prop where
  low : lo ≤ bo
  rows : ∃ C, w.heap[bo]? = some (.cells C 39) ∧ C.size = ms.length * 7 ∧
    ∀ i (h : i < ms.length), i < k → ∃ g0 g1, lo ≤ g0 ∧ g0 ≠ bo ∧ w.heap[g0]? = some (.cells (strArr ms[i].vs) 9) ∧ lo ≤ g1 ∧ g1 ≠ bo ∧ w.heap[g1]? = some (.cells (strArr ms[i].hs) 9) ∧ ∀ j, j < 7 → C[i * 7 + j]? = (Ob.row ms[i] (some ⟨g0, 0, none⟩) (some ⟨g1, 0, none⟩) ms[i].vs.length ms[i].hs.length)[j]?

theorem ObsOwn.at {lo : Nat} {w : World} {bo : Nat} {ms : List Ob} (h : ObsOwn lo w bo ms ms.length) (hs : ObsSmall ms) (hl : ms.length ≤ maxLen) : ObsAt w (some ⟨bo, 0, none⟩) ms := by
  obtain ⟨C, hC, hsz, hr⟩ := h.rows
  refine ⟨hl, fun _ => ⟨bo, 0, rfl, (Array.getElem?_eq_some_iff.1 hC).1, fun i hi => ?_⟩⟩
  obtain ⟨g0, g1, _, _, hk0, _, _, hk1, hc⟩ := hr i hi hi
  obtain ⟨s0, s1, s2⟩ := hs.small i hi
  refine ⟨some ⟨g0, 0, none⟩, some ⟨g1, 0, none⟩, ms[i].vs.length, ms[i].hs.length, s0, heap_strs hk0 s1.1 s1.2, heap_strs hk1 s2.1 s2.2, fun j hj => ?_⟩
  rw [cell_of_block hC, Nat.zero_add]
  exact hc j hj

theorem ObsOwn.above {lo : Nat} {w w' : World} {bo : Nat} {ms : List Ob} {k : Nat} (h : ObsOwn lo w bo ms k) (ha : Above lo w w') : ObsOwn lo w' bo ms k := by
  obtain ⟨C, hC, hsz, hr⟩ := h.rows
  refine ⟨h.low, C, (ha.same _ h.low (Array.getElem?_eq_some_iff.1 hC).1).trans hC, hsz, fun i hi hk => ?_⟩
  obtain ⟨g0, g1, p0, q0, r0, p1, q1, r1, hc⟩ := hr i hi hk
  exact ⟨g0, g1, p0, q0, (ha.same _ p0 (Array.getElem?_eq_some_iff.1 r0).1).trans r0, p1, q1, (ha.same _ p1 (Array.getElem?_eq_some_iff.1 r1).1).trans r1, hc⟩

theorem ObsOwn.later {lo : Nat} {w w' : World} {bo : Nat} {ms : List Ob} {k : Nat} (h : ObsOwn lo w bo ms k) (hb : Below w.heap.size w w') : ObsOwn lo w' bo ms k := h.above (Above.below hb)

theorem ObsOwn.weaken {lo lo' : Nat} {w : World} {bo : Nat} {ms : List Ob} {k : Nat} (h : ObsOwn lo w bo ms k) (hl : lo' ≤ lo) : ObsOwn lo' w bo ms k := by
  obtain ⟨C, hC, hsz, hr⟩ := h.rows
  refine ⟨Nat.le_trans hl h.low, C, hC, hsz, fun i hi hk => ?_⟩
  obtain ⟨g0, g1, p0, q0, r0, p1, q1, r1, hc⟩ := hr i hi hk
  exact ⟨g0, g1, Nat.le_trans hl p0, q0, r0, Nat.le_trans hl p1, q1, r1, hc⟩

def putOb (w : World) (b o : Nat) (v0 v1 v2 v3 v4 v5 v6 : Value) : World := (((((((w.setCell ⟨b, o, none⟩ v0).setCell ⟨b, o + 1, none⟩ v1).setCell ⟨b, o + 2, none⟩ v2).setCell ⟨b, o + 3, none⟩ v3).setCell ⟨b, o + 4, none⟩ v4).setCell ⟨b, o + 5, none⟩ v5).setCell ⟨b, o + 6, none⟩ v6)
def setOb (C : Array Value) (o : Nat) (v0 v1 v2 v3 v4 v5 v6 : Value) : Array Value := (((((((C.setIfInBounds (o) v0).setIfInBounds (o + 1) v1).setIfInBounds (o + 2) v2).setIfInBounds (o + 3) v3).setIfInBounds (o + 4) v4).setIfInBounds (o + 5) v5).setIfInBounds (o + 6) v6)
theorem putOb_block {w : World} {b o : Nat} {C : Array Value} {t : TypeId} (h : w.heap[b]? = some (.cells C t)) (v0 v1 v2 v3 v4 v5 v6 : Value) : (putOb w b o v0 v1 v2 v3 v4 v5 v6).heap[b]? = some (.cells (setOb C o v0 v1 v2 v3 v4 v5 v6) t) :=
  heap_setCell_at (heap_setCell_at (heap_setCell_at (heap_setCell_at (heap_setCell_at (heap_setCell_at (heap_setCell_at h v0) v1) v2) v3) v4) v5) v6
theorem putOb_below {B : Nat} {a w : World} (h : Below B a w) {b : Nat} (hb : B ≤ b) (o : Nat) (v0 v1 v2 v3 v4 v5 v6 : Value) : Below B a (putOb w b o v0 v1 v2 v3 v4 v5 v6) :=
  ((((((h.setCell hb v0).setCell hb v1).setCell hb v2).setCell hb v3).setCell hb v4).setCell hb v5).setCell hb v6
theorem putOb_other (w : World) (b o : Nat) (v0 v1 v2 v3 v4 v5 v6 : Value) {b' : Nat} (h : b' ≠ b) : (putOb w b o v0 v1 v2 v3 v4 v5 v6).heap[b']? = w.heap[b']? := by
  unfold putOb
  iterate 7 rw [setCell_other h]
theorem setOb_size (C : Array Value) (o : Nat) (v0 v1 v2 v3 v4 v5 v6 : Value) : (setOb C o v0 v1 v2 v3 v4 v5 v6).size = C.size := by simp [setOb]
theorem setOb_out (C : Array Value) (o i : Nat) (v0 v1 v2 v3 v4 v5 v6 : Value) (h : i < o ∨ o + 7 ≤ i) : (setOb C o v0 v1 v2 v3 v4 v5 v6)[i]? = C[i]? := by
  unfold setOb
  iterate 7 rw [Array.getElem?_setIfInBounds, if_neg (by omega)]
theorem setOb_in (C : Array Value) (o j : Nat) (v0 v1 v2 v3 v4 v5 v6 : Value) (hj : j < 7) (ho : o + 7 ≤ C.size) : (setOb C o v0 v1 v2 v3 v4 v5 v6)[o + j]? = (#[v0, v1, v2, v3, v4, v5, v6] : Array Value)[j]? := by
  have hc : j = 0 ∨ j = 1 ∨ j = 2 ∨ j = 3 ∨ j = 4 ∨ j = 5 ∨ j = 6 := by omega
  unfold setOb
  rcases hc with h | h | h | h | h | h | h <;> subst h <;> simp [Array.getElem?_setIfInBounds] <;> omega

theorem ObsOwn.put {lo : Nat} {w : World} {bo : Nat} {ms : List Ob} {k : Nat} (h : ObsOwn lo w bo ms k) (hk : k < ms.length) (g0 g1 : Nat) (p0 : lo ≤ g0) (q0 : g0 ≠ bo) (r0 : w.heap[g0]? = some (.cells (strArr ms[k].vs) 9)) (p1 : lo ≤ g1) (q1 : g1 ≠ bo) (r1 : w.heap[g1]? = some (.cells (strArr ms[k].hs) 9)) :
    ObsOwn lo (putOb w bo (k * 7) (.string ms[k].kd) (.string ms[k].nm) (.string ms[k].tm) (.slice (some ⟨g0, 0, none⟩) ms[k].vs.length ms[k].vs.length) (.bool ms[k].en) (.slice (some ⟨g1, 0, none⟩) ms[k].hs.length ms[k].hs.length) (.int .i64 ms[k].vr)) bo ms (k + 1) := by
  obtain ⟨C, hC, hsz, hr⟩ := h.rows
  refine ⟨h.low, _, putOb_block hC _ _ _ _ _ _ _, by rw [setOb_size]; exact hsz, fun i hi hik => ?_⟩
  rcases Nat.lt_or_ge i k with hlt | hge
  · obtain ⟨g0', g1', x0, y0, z0, x1, y1, z1, hc⟩ := hr i hi hlt
    refine ⟨g0', g1', x0, y0, (by rw [putOb_other _ _ _ _ _ _ _ _ _ _ y0]; exact z0), x1, y1, (by rw [putOb_other _ _ _ _ _ _ _ _ _ _ y1]; exact z1), fun j hj => ?_⟩
    rw [setOb_out _ _ _ _ _ _ _ _ _ _ (by omega)]
    exact hc j hj
  · have e : i = k := by omega
    subst e
    refine ⟨g0, g1, p0, q0, (by rw [putOb_other _ _ _ _ _ _ _ _ _ _ q0]; exact r0), p1, q1, (by rw [putOb_other _ _ _ _ _ _ _ _ _ _ q1]; exact r1), fun j hj => ?_⟩
    rw [setOb_in _ _ _ _ _ _ _ _ _ _ hj (by omega)]
    rfl

def zeroOb : Array Value := #[.string ByteArray.empty, .string ByteArray.empty, .string ByteArray.empty, .slice none 0 0, .bool false, .slice none 0 0, .int .i64 0]
def zeroObs (n : Nat) : Array Value := madeCells zeroOb (n * 7)

set_option maxHeartbeats 2000000 in
theorem toGateObjectS_any (a : Option Addr) (cap : Nat) (ms : List Ob) (w : World) (hw : ObsAt w a ms) (hl : ms.length ≤ 1048576) (hls : ∀ i (h : i < ms.length), ms[i].vs.length ≤ 1048576 ∧ ms[i].hs.length ≤ 1048576) :
    Calls Try.prog 39 #[.slice a ms.length cap] w fun e w' => e = .returned (.slice (some ⟨w.heap.size, 0, none⟩) ms.length ms.length) ∧ ObsOwn w.heap.size w' w.heap.size ms ms.length ∧ Below w.heap.size w w' := by
  have hmk : ∀ w : World, (Instr.makeSlice 52 (.int .i64 ms.length) (.int .i64 ms.length)).run Try.prog w = .ok (.slice (some ⟨w.heap.size, 0, none⟩) ms.length ms.length) (w.alloc (.cells (zeroObs ms.length) 39)) :=
    fun w => run_make_rows (P := Try.prog) 52 39 (.agg zeroOb) 7 112 Try.underlying52 (by kernel_rfl) ms.length (by omega) (by omega) w
  go_enter Try.func39, Try.ntmps39
  go_wp2_with fail
  clear hmk
  go_loopw [4] (fun i wr => ∃ k : Nat, k ≤ ms.length ∧ i = .int .i64 k ∧ Hid (ObsOwn w.heap.size wr w.heap.size ms k) ∧ Below w.heap.size w wr) (fun i _ => ms.length - (intOf i).toNat)
  case atStart => exact ⟨0, Nat.zero_le _, rfl, ⟨Nat.le_refl _, zeroObs ms.length, (MapKept.heap_alloc w _).1, size_madeCells _ _, fun i _ h => absurd h (by omega)⟩, (Below.refl _ _).alloc (Nat.le_refl _) _⟩
  case round =>
    obtain ⟨k, hk, rfl, HOW, hB⟩ := hrel
    by_cases hlt : k < ms.length
    · obtain ⟨b, off, a0, a1, c0, c1, rfl, hb, hsm, hl0, hl1, d0, d1, d2, d3, d4, d5, d6⟩ := hw.load hB k hlt
      have HLS : Hid (ms[k].vs.length ≤ 1048576 ∧ ms[k].hs.length ≤ 1048576) := hls k hlt
      have hltI : (k : Int) < (ms.length : Int) := by omega
      clear hw
      go_wp2_with fail
      refine (toGateObject_row ms[k] a0 a1 c0 c1 _ hsm hl0 hl1 HLS.out).mono ?_
      rintro e w1 ⟨g0, g1, rfl, p0, r0, p1, r1, hb1⟩
      have hB1 := hB.trans (hb1.mono hB.size)
      have hbo : w.heap.size < wr.heap.size := by
        obtain ⟨C', hC', _⟩ := HOW.out.rows
        exact (Array.getElem?_eq_some_iff.1 hC').1
      have HP : Hid (ObsOwn w.heap.size w1 w.heap.size ms k) := HOW.out.later hb1
      obtain ⟨C, hC, hsz, _⟩ := HP.out.rows
      have hfz : ∀ o, w1.frozen? ⟨w.heap.size, o, none⟩ = false := fun o => frozen_of_block hC
      have hex : ∀ o, o < ms.length * 7 → ∃ v, w1.cell? ⟨w.heap.size, o, none⟩ = some v := fun o ho => ⟨C[o]'(by omega), by rw [cell_of_block hC]; exact Array.getElem?_eq_getElem (by omega)⟩
      obtain ⟨v0, hv0⟩ := hex (k * 7) (by omega)
      obtain ⟨v1, hv1⟩ := hex (k * 7 + 1) (by omega)
      obtain ⟨v2, hv2⟩ := hex (k * 7 + 2) (by omega)
      obtain ⟨v3, hv3⟩ := hex (k * 7 + 3) (by omega)
      obtain ⟨v4, hv4⟩ := hex (k * 7 + 4) (by omega)
      obtain ⟨v5, hv5⟩ := hex (k * 7 + 5) (by omega)
      obtain ⟨v6, hv6⟩ := hex (k * 7 + 6) (by omega)
      have HR : Hid (wr.heap.size ≤ g0 ∧ w1.heap[g0]? = some (.cells (strArr ms[k].vs) 9) ∧ wr.heap.size ≤ g1 ∧ w1.heap[g1]? = some (.cells (strArr ms[k].hs) 9)) := ⟨p0, r0, p1, r1⟩
      clear hex hC hsz d0 d1 d2 d3 d4 d5 d6 p0 r0 p1 r1 hl0 hl1
      unfold Ob.row
      go_wp2_with fail
      obtain ⟨p0, r0, p1, r1⟩ := HR.out
      exact ⟨⟨k + 1, by omega, by go_num, HP.out.put hlt g0 g1 (by omega) (by omega) r0 (by omega) (by omega) r1, putOb_below hB1 (Nat.le_refl _) _ _ _ _ _ _ _ _⟩, by simp [intOf]; omega⟩
    · have HF : Hid (ObsOwn w.heap.size wr w.heap.size ms ms.length) := by
        have e : k = ms.length := by omega
        subst e; exact HOW.out
      clear hw HOW
      go_wp2_with fail
      go_ret
      exact ⟨rfl, HF.out, hB⟩

end Go.Proofs.Ytniokfnigmmiiaa

namespace Go.Proofs.Ytniokfnigmmiiaa
open Go.RowKit

theorem lt_of_some {w : World} {b : Nat} {o : Obj} (h : w.heap[b]? = some o) : b < w.heap.size := (Array.getElem?_eq_some_iff.1 h).1
theorem own_weakenms {lo lo' : Nat} {w : World} {bo : Nat} {ms : List Mnd} {k : Nat} (h : MndsOwn lo w bo ms k) (hl : lo' ≤ lo) : MndsOwn lo' w bo ms k := ⟨Nat.le_trans hl h.low, h.rows⟩
theorem own_weakents {ty : TypeId} {lo lo' : Nat} {w : World} {bo : Nat} {ts : List Tm} {k : Nat} (h : TmsOwn ty lo w bo ts k) (hl : lo' ≤ lo) : TmsOwn ty lo' w bo ts k := ⟨Nat.le_trans hl h.low, h.rows⟩

set_option maxHeartbeats 2000000 in
theorem toGateLaw_own (l : Lw) (a b c : Option Addr) (ca cb cc : Nat) (w : World) (hl : LwAt w l a b c) (hf : l.Few) :
    Calls Try.prog 8 #[.agg (l.cells a b c ca cb cc)] w fun e w' => ∃ lo a' b' c', e = .returned (.agg (l.cells (some ⟨a', 0, none⟩) (some ⟨b', 0, none⟩) (some ⟨c', 0, none⟩) l.ss.length l.ms.length l.ts.length)) ∧ w.heap.size ≤ lo ∧ LwOwn lo w' l a' b' c' ∧ Below w.heap.size w w' := by
  have HL : Hid (LwAt w l a b c) := hl
  have HF : Hid l.Few := hf
  clear hl hf
  unfold Lw.cells
  go_enter Try.func8, Try.ntmps8
  go_wp2_with fail
  have k0 := blk3 w (.cells #[.slice a l.ss.length ca, .slice b l.ms.length cb, .slice c l.ts.length cc] 26) (.cells #[.slice none 0 0, .slice none 0 0, .slice none 0 0] 37) (.cells #[.slice none 0 0, .slice none 0 0, .slice none 0 0] 37)
  have hB0 := below3' w (.cells #[.slice a l.ss.length ca, .slice b l.ms.length cb, .slice c l.ts.length cc] 26) (.cells #[.slice none 0 0, .slice none 0 0, .slice none 0 0] 37) (.cells #[.slice none 0 0, .slice none 0 0, .slice none 0 0] 37)
  obtain ⟨W0, hW0⟩ : ∃ W0, W0 = ((w.alloc (.cells #[.slice a l.ss.length ca, .slice b l.ms.length cb, .slice c l.ts.length cc] 26)).alloc (.cells #[.slice none 0 0, .slice none 0 0, .slice none 0 0] 37)).alloc (.cells #[.slice none 0 0, .slice none 0 0, .slice none 0 0] 37) := ⟨_, rfl⟩
  have hz0 : w.heap.size + 1 + 1 < W0.heap.size := by rw [hW0]; simp
  rw [← hW0] at k0 hB0 ⊢
  clear hW0
  have HLO : Hid (w.heap.size + 1 + 1 < W0.heap.size) := hz0
  refine (toGateShapeS_any _ _ l.ss _ (HL.out.ss.mono hB0) HF.out.ss.1 HF.out.ss.2).mono ?_
  rintro e w1 ⟨rfl, hown, hb⟩
  obtain ⟨a', ha'⟩ : ∃ a', a' = W0.heap.size := ⟨_, rfl⟩
  have HO1 : Hid (ShpsOwn W0.heap.size w1 a' l.ss l.ss.length) := by rw [ha']; exact hown
  have hX1 := (hb.block _ (by omega)).trans k0.1
  have hR1 := (hb.block _ (by omega)).trans k0.2.1
  have hO1 := (hb.block _ hz0).trans k0.2.2
  have HZ1 : Hid (W0.heap.size ≤ w1.heap.size) := hb.size
  have HB1 : Hid (Below w.heap.size w w1) := hB0.trans (hb.mono hB0.size)
  rw [← ha']
  clear hown hb k0 hB0 hz0 ha'
  have cO1 := fun j => cell_of_block (o := j) hO1
  have fO1 := fun j => frozen_of_block (o := j) hO1
  have HX1' : Hid ((w1.setCell ⟨w.heap.size + 1 + 1, 0, none⟩ (.slice (some ⟨a', 0, none⟩) l.ss.length l.ss.length)).heap[w.heap.size]? = some (.cells #[.slice a l.ss.length ca, .slice b l.ms.length cb, .slice c l.ts.length cc] 26)) := (setCell_other (by omega)).trans hX1
  have HR1' : Hid ((w1.setCell ⟨w.heap.size + 1 + 1, 0, none⟩ (.slice (some ⟨a', 0, none⟩) l.ss.length l.ss.length)).heap[w.heap.size + 1]? = some (.cells #[.slice none 0 0, .slice none 0 0, .slice none 0 0] 37)) := (setCell_other (by omega)).trans hR1
  have HO1' : Hid ((w1.setCell ⟨w.heap.size + 1 + 1, 0, none⟩ (.slice (some ⟨a', 0, none⟩) l.ss.length l.ss.length)).heap[w.heap.size + 1 + 1]? = some (.cells #[.slice (some ⟨a', 0, none⟩) l.ss.length l.ss.length, .slice none 0 0, .slice none 0 0] 37)) := heap_setCell_at hO1 _
  have HAB1 : Hid (Above W0.heap.size w1 (w1.setCell ⟨w.heap.size + 1 + 1, 0, none⟩ (.slice (some ⟨a', 0, none⟩) l.ss.length l.ss.length))) := Above.setCell HLO.out _
  have HBB1 : Hid (Below w.heap.size w (w1.setCell ⟨w.heap.size + 1 + 1, 0, none⟩ (.slice (some ⟨a', 0, none⟩) l.ss.length l.ss.length))) := HB1.out.setCell (by show w.heap.size ≤ w.heap.size + 1 + 1; omega) _
  have HZZ1 : Hid (W0.heap.size ≤ (w1.setCell ⟨w.heap.size + 1 + 1, 0, none⟩ (.slice (some ⟨a', 0, none⟩) l.ss.length l.ss.length)).heap.size) := by unfold Hid; rw [World.size_setCell]; exact HZ1.out
  clear hX1 hR1 hO1
  have cX1 := fun j => cell_of_block (o := j) HX1'.out
  have cR1 := fun j => cell_of_block (o := j) HR1'.out
  have fR1 := fun j => frozen_of_block (o := j) HR1'.out
  have cOO1 := fun j => cell_of_block (o := j) HO1'.out
  go_wp2_with fail
  refine (toGateMendS_any _ _ l.ms _ (HL.out.ms.mono HBB1.out) HF.out.ms).mono ?_
  rintro e w2 ⟨rfl, hown, hb⟩
  obtain ⟨b', hp'⟩ : ∃ b', b' = (w1.setCell ⟨w.heap.size + 1 + 1, 0, none⟩ (.slice (some ⟨a', 0, none⟩) l.ss.length l.ss.length)).heap.size := ⟨_, rfl⟩
  have HN2 : Hid (MndsOwn W0.heap.size w2 b' l.ms l.ms.length) := by rw [hp']; exact own_weakenms hown HZZ1.out
  have HAA2 : Hid (Above W0.heap.size w1 w2) := HAB1.out.trans (Above.below hb)
  have hX2 := (hb.block _ (lt_of_some HX1'.out)).trans HX1'.out
  have hR2 := (hb.block _ (lt_of_some HR1'.out)).trans HR1'.out
  have hO2 := (hb.block _ (lt_of_some HO1'.out)).trans HO1'.out
  have HZ2 : Hid (W0.heap.size ≤ w2.heap.size) := Nat.le_trans HZZ1.out hb.size
  have HB2 : Hid (Below w.heap.size w w2) := HBB1.out.trans (hb.mono HBB1.out.size)
  rw [← hp']
  clear hown hb hp' cX1 cR1 fR1 cOO1
  have cO2 := fun j => cell_of_block (o := j) hO2
  have fO2 := fun j => frozen_of_block (o := j) hO2
  have HX2' : Hid ((w2.setCell ⟨w.heap.size + 1 + 1, 1, none⟩ (.slice (some ⟨b', 0, none⟩) l.ms.length l.ms.length)).heap[w.heap.size]? = some (.cells #[.slice a l.ss.length ca, .slice b l.ms.length cb, .slice c l.ts.length cc] 26)) := (setCell_other (by omega)).trans hX2
  have HR2' : Hid ((w2.setCell ⟨w.heap.size + 1 + 1, 1, none⟩ (.slice (some ⟨b', 0, none⟩) l.ms.length l.ms.length)).heap[w.heap.size + 1]? = some (.cells #[.slice none 0 0, .slice none 0 0, .slice none 0 0] 37)) := (setCell_other (by omega)).trans hR2
  have HO2' : Hid ((w2.setCell ⟨w.heap.size + 1 + 1, 1, none⟩ (.slice (some ⟨b', 0, none⟩) l.ms.length l.ms.length)).heap[w.heap.size + 1 + 1]? = some (.cells #[.slice (some ⟨a', 0, none⟩) l.ss.length l.ss.length, .slice (some ⟨b', 0, none⟩) l.ms.length l.ms.length, .slice none 0 0] 37)) := heap_setCell_at hO2 _
  have HAB2 : Hid (Above W0.heap.size w2 (w2.setCell ⟨w.heap.size + 1 + 1, 1, none⟩ (.slice (some ⟨b', 0, none⟩) l.ms.length l.ms.length))) := Above.setCell HLO.out _
  have HBB2 : Hid (Below w.heap.size w (w2.setCell ⟨w.heap.size + 1 + 1, 1, none⟩ (.slice (some ⟨b', 0, none⟩) l.ms.length l.ms.length))) := HB2.out.setCell (by show w.heap.size ≤ w.heap.size + 1 + 1; omega) _
  have HZZ2 : Hid (W0.heap.size ≤ (w2.setCell ⟨w.heap.size + 1 + 1, 1, none⟩ (.slice (some ⟨b', 0, none⟩) l.ms.length l.ms.length)).heap.size) := by unfold Hid; rw [World.size_setCell]; exact HZ2.out
  clear hX2 hR2 hO2
  have cX2 := fun j => cell_of_block (o := j) HX2'.out
  have cR2 := fun j => cell_of_block (o := j) HR2'.out
  have fR2 := fun j => frozen_of_block (o := j) HR2'.out
  have cOO2 := fun j => cell_of_block (o := j) HO2'.out
  go_wp2_with fail
  refine (toGateTeamS_any _ _ l.ts _ (HL.out.ts.mono HBB2.out) HF.out.ts).mono ?_
  rintro e w3 ⟨rfl, hown, hb⟩
  obtain ⟨c', hp'⟩ : ∃ c', c' = (w2.setCell ⟨w.heap.size + 1 + 1, 1, none⟩ (.slice (some ⟨b', 0, none⟩) l.ms.length l.ms.length)).heap.size := ⟨_, rfl⟩
  have HN3 : Hid (TmsOwn 113 W0.heap.size w3 c' l.ts l.ts.length) := by rw [hp']; exact own_weakents hown HZZ2.out
  have HAA3 : Hid (Above W0.heap.size w2 w3) := HAB2.out.trans (Above.below hb)
  have hX3 := (hb.block _ (lt_of_some HX2'.out)).trans HX2'.out
  have hR3 := (hb.block _ (lt_of_some HR2'.out)).trans HR2'.out
  have hO3 := (hb.block _ (lt_of_some HO2'.out)).trans HO2'.out
  have HZ3 : Hid (W0.heap.size ≤ w3.heap.size) := Nat.le_trans HZZ2.out hb.size
  have HB3 : Hid (Below w.heap.size w w3) := HBB2.out.trans (hb.mono HBB2.out.size)
  rw [← hp']
  clear hown hb hp' cX2 cR2 fR2 cOO2
  have cO3 := fun j => cell_of_block (o := j) hO3
  have fO3 := fun j => frozen_of_block (o := j) hO3
  have HX3' : Hid ((w3.setCell ⟨w.heap.size + 1 + 1, 2, none⟩ (.slice (some ⟨c', 0, none⟩) l.ts.length l.ts.length)).heap[w.heap.size]? = some (.cells #[.slice a l.ss.length ca, .slice b l.ms.length cb, .slice c l.ts.length cc] 26)) := (setCell_other (by omega)).trans hX3
  have HR3' : Hid ((w3.setCell ⟨w.heap.size + 1 + 1, 2, none⟩ (.slice (some ⟨c', 0, none⟩) l.ts.length l.ts.length)).heap[w.heap.size + 1]? = some (.cells #[.slice none 0 0, .slice none 0 0, .slice none 0 0] 37)) := (setCell_other (by omega)).trans hR3
  have HO3' : Hid ((w3.setCell ⟨w.heap.size + 1 + 1, 2, none⟩ (.slice (some ⟨c', 0, none⟩) l.ts.length l.ts.length)).heap[w.heap.size + 1 + 1]? = some (.cells #[.slice (some ⟨a', 0, none⟩) l.ss.length l.ss.length, .slice (some ⟨b', 0, none⟩) l.ms.length l.ms.length, .slice (some ⟨c', 0, none⟩) l.ts.length l.ts.length] 37)) := heap_setCell_at hO3 _
  have HAB3 : Hid (Above W0.heap.size w3 (w3.setCell ⟨w.heap.size + 1 + 1, 2, none⟩ (.slice (some ⟨c', 0, none⟩) l.ts.length l.ts.length))) := Above.setCell HLO.out _
  have HBB3 : Hid (Below w.heap.size w (w3.setCell ⟨w.heap.size + 1 + 1, 2, none⟩ (.slice (some ⟨c', 0, none⟩) l.ts.length l.ts.length))) := HB3.out.setCell (by show w.heap.size ≤ w.heap.size + 1 + 1; omega) _
  have HZZ3 : Hid (W0.heap.size ≤ (w3.setCell ⟨w.heap.size + 1 + 1, 2, none⟩ (.slice (some ⟨c', 0, none⟩) l.ts.length l.ts.length)).heap.size) := by unfold Hid; rw [World.size_setCell]; exact HZ3.out
  clear hX3 hR3 hO3
  have cX3 := fun j => cell_of_block (o := j) HX3'.out
  have cR3 := fun j => cell_of_block (o := j) HR3'.out
  have fR3 := fun j => frozen_of_block (o := j) HR3'.out
  have cOO3 := fun j => cell_of_block (o := j) HO3'.out
  go_wp2_with fail
  refine bodyPost_ret (v := .agg #[.slice (some ⟨a', 0, none⟩) l.ss.length l.ss.length, .slice (some ⟨b', 0, none⟩) l.ms.length l.ms.length, .slice (some ⟨c', 0, none⟩) l.ts.length l.ts.length]) (by simp [results, Try.results8, go_sem, cR3]) rfl ⟨W0.heap.size, a', b', c', rfl, by have := HLO.out; omega, ?_, ?_⟩
  · have hlt1 : w.heap.size + 1 < W0.heap.size := by have := HLO.out; omega
    have hA3 : ∀ v0 v1 v2, Above W0.heap.size w3 ((((w3.setCell ⟨w.heap.size + 1 + 1, 2, none⟩ (.slice (some ⟨c', 0, none⟩) l.ts.length l.ts.length)).setCell ⟨w.heap.size + 1, 0, none⟩ v0).setCell ⟨w.heap.size + 1, 1, none⟩ v1).setCell ⟨w.heap.size + 1, 2, none⟩ v2) := fun v0 v1 v2 => HAB3.out.trans (((Above.setCell (p := ⟨w.heap.size + 1, 0, none⟩) hlt1 v0).trans (Above.setCell (p := ⟨w.heap.size + 1, 1, none⟩) hlt1 v1)).trans (Above.setCell (p := ⟨w.heap.size + 1, 2, none⟩) hlt1 v2))
    exact ⟨HO1.out.above ((HAA2.out.trans HAA3.out).trans (hA3 _ _ _)), HN2.out.above (HAA3.out.trans (hA3 _ _ _)), HN3.out.above (hA3 _ _ _)⟩
  · exact ((HBB3.out.setCell (Nat.le_succ _) _).setCell (Nat.le_succ _) _).setCell (Nat.le_succ _) _

theorem toGateLaw_any (l : Lw) (a b c : Option Addr) (ca cb cc : Nat) (w : World) (hl : LwAt w l a b c) (hf : l.Few) :
    Calls Try.prog 8 #[.agg (l.cells a b c ca cb cc)] w fun e w' => ∃ a' b' c', e = .returned (.agg (l.cells a' b' c' l.ss.length l.ms.length l.ts.length)) ∧ LwAt w' l a' b' c' ∧ Below w.heap.size w w' := by
  refine (toGateLaw_own l a b c ca cb cc w hl hf).mono ?_
  rintro e w' ⟨lo, a', b', c', he, _, ho, hb⟩
  exact ⟨_, _, _, he, ho.at hl.small, hb⟩

end Go.Proofs.Ytniokfnigmmiiaa

namespace Go.Proofs.Ytniokfnigmmiiaa
open Go.RowKit

/-- A book. -/
structure Bk where
  now : Int
  tick : Int
  given : Int
  os : List Ob
  gs : List Gr
  ls : List Lg
  ps : List Pu

def Bk.cells (b : Bk) (a0 a1 a2 a3 : Option Addr) (c0 c1 c2 c3 : Nat) : Array Value := #[.int .i64 b.now, .int .i64 b.tick, .int .i64 b.given, .slice a0 b.os.length c0, .slice a1 b.gs.length c1, .slice a2 b.ls.length c2, .slice a3 b.ps.length c3]

structure BkAt (w : World) (b : Bk) (a0 a1 a2 a3 : Option Addr) : Prop where
  os : ObsAt w a0 b.os
  gs : GrsAt w a1 b.gs
  ls : LgsAt w a2 b.ls
  ps : PusAt w a3 b.ps

theorem BkAt.mono {w w' : World} {b : Bk} {a0 a1 a2 a3 : Option Addr} (h : BkAt w b a0 a1 a2 a3) (hb : Below w.heap.size w w') : BkAt w' b a0 a1 a2 a3 := ⟨h.os.mono hb, h.gs.mono hb, h.ls.mono hb, h.ps.mono hb⟩

def Bk.sz (b : Bk) : Nat := szObs b.os + szGrs b.gs + szLgs b.ls + szPus b.ps

structure Bk.Few (b : Bk) : Prop where
  os : b.os.length ≤ 1048576 ∧ ∀ i (h : i < b.os.length), b.os[i].vs.length ≤ 1048576 ∧ b.os[i].hs.length ≤ 1048576
  gs : b.gs.length ≤ 1048576 ∧ ∀ i (h : i < b.gs.length), b.gs[i].r.vs.length ≤ 1048576
  ls : b.ls.length ≤ 1048576
  ps : b.ps.length ≤ 1048576

theorem Bk.few {b : Bk} (h : (b.sz : Int) ≤ 1048576) : b.Few := by
  unfold Bk.sz at h
  refine ⟨Obs_few (left := 1048576) (by omega) (by omega), Grs_few (left := 1048576) (by omega) (by omega), ?_, ?_⟩
  · unfold szLgs at h; omega
  · unfold szPus at h; omega

structure Bk.Small (b : Bk) : Prop where
  os : ObsSmall b.os
  lo : b.os.length ≤ maxLen
  gs : GrsSmall b.gs
  lg : b.gs.length ≤ maxLen
  ls : ∀ i (h : i < b.ls.length), b.ls[i].Small
  ll : b.ls.length ≤ maxLen
  ps : ∀ i (h : i < b.ps.length), b.ps[i].Small
  lp : b.ps.length ≤ maxLen

theorem BkAt.small {w : World} {b : Bk} {a0 a1 a2 a3 : Option Addr} (h : BkAt w b a0 a1 a2 a3) : b.Small := ⟨h.os.smalls, h.os.len, h.gs.smalls, h.gs.len, h.ls.small, h.ls.len, h.ps.small, h.ps.len⟩

/-- A book in memory of its own, from lo on. -/
structure BkOwn (lo : Nat) (w : World) (b : Bk) (g0 g1 g2 g3 : Nat) : Prop where
  os : ObsOwn lo w g0 b.os b.os.length
  gs : GrsOwn lo w g1 b.gs b.gs.length
  ls : LgsOwn lo w g2 b.ls b.ls.length
  ps : PusOwn lo w g3 b.ps b.ps.length

theorem BkOwn.above {lo : Nat} {w w' : World} {b : Bk} {g0 g1 g2 g3 : Nat} (h : BkOwn lo w b g0 g1 g2 g3) (ha : Above lo w w') : BkOwn lo w' b g0 g1 g2 g3 := ⟨h.os.above ha, h.gs.above ha, h.ls.above ha, h.ps.above ha⟩
theorem BkOwn.at {lo : Nat} {w : World} {b : Bk} {g0 g1 g2 g3 : Nat} (h : BkOwn lo w b g0 g1 g2 g3) (hs : b.Small) : BkAt w b (some ⟨g0, 0, none⟩) (some ⟨g1, 0, none⟩) (some ⟨g2, 0, none⟩) (some ⟨g3, 0, none⟩) := ⟨h.os.at hs.os hs.lo, h.gs.at hs.gs hs.lg, h.ls.at hs.ls hs.ll, h.ps.at hs.ps hs.lp⟩

set_option maxHeartbeats 2000000 in
theorem szGateBook_any (b : Bk) (a0 a1 a2 a3 : Option Addr) (c0 c1 c2 c3 : Nat) (left : Int) (w : World) (hl : BkAt w b a0 a1 a2 a3) (h0 : 0 ≤ left) (h1 : left ≤ 1048576) :
    Calls Try.prog 13 #[.agg (b.cells a0 a1 a2 a3 c0 c1 c2 c3), .int .i64 left] w fun e w' => e = .returned (.int .i64 (szRes b.sz left)) ∧ Below w.heap.size w w' := by
  have HL : Hid (BkAt w b a0 a1 a2 a3) := hl
  clear hl
  unfold Bk.cells
  go_enter Try.func13, Try.ntmps13
  go_wp2_with fail
  refine (szGateObjectS_any _ _ b.os _ _ (HL.out.os.mono ((Below.refl _ _).alloc (Nat.le_refl _) _)) h0 h1).mono ?_
  rintro e w1 ⟨rfl, hb⟩
  have hX1 := box_later (box_new w #[.int .i64 b.now, .int .i64 b.tick, .int .i64 b.given, .slice a0 b.os.length c0, .slice a1 b.gs.length c1, .slice a2 b.ls.length c2, .slice a3 b.ps.length c3] 49) (by simp) hb
  have hz1 : w.heap.size < w1.heap.size := by have := hb.size; simp at this; omega
  have hB1 : Below w.heap.size w w1 := ((Below.refl _ _).alloc (Nat.le_refl _) _).trans (hb.mono (by simp))
  clear hb
  by_cases q1 : (szObs b.os : Int) ≤ left
  rotate_left
  · have HF : Hid (szRes b.sz left = -1) := szRes_no (by unfold Bk.sz; omega)
    rw [szRes_no q1]
    go_wp2_with fail
    go_ret
    exact ⟨ret_int HF.out.symm, hB1⟩
  rw [szRes_yes q1]
  go_wp2_with fail
  refine (szGateGrantS_any _ _ b.gs _ _ (HL.out.gs.mono hB1) (by omega) (by omega)).mono ?_
  rintro e w2 ⟨rfl, hb⟩
  have hX2 := box_later hX1 hz1 hb
  have hz2 := Nat.lt_of_lt_of_le hz1 hb.size
  have hB2 := hB1.trans (hb.mono hB1.size)
  clear hb hX1 hz1 hB1
  by_cases q2 : (szGrs b.gs : Int) ≤ left - szObs b.os
  rotate_left
  · have HF : Hid (szRes b.sz left = -1) := szRes_no (by unfold Bk.sz; omega)
    rw [szRes_no q2]
    go_wp2_with fail
    go_ret
    exact ⟨ret_int HF.out.symm, hB2⟩
  rw [szRes_yes q2]
  go_wp2_with fail
  refine (szGateLedgerS_any _ _ b.ls _ _ (HL.out.ls.mono hB2) (by omega) (by omega)).mono ?_
  rintro e w3 ⟨rfl, hb⟩
  have hX3 := box_later hX2 hz2 hb
  have hz3 := Nat.lt_of_lt_of_le hz2 hb.size
  have hB3 := hB2.trans (hb.mono hB2.size)
  clear hb hX2 hz2 hB2
  by_cases q3 : (szLgs b.ls : Int) ≤ left - szObs b.os - szGrs b.gs
  rotate_left
  · have HF : Hid (szRes b.sz left = -1) := szRes_no (by unfold Bk.sz; omega)
    rw [szRes_no q3]
    go_wp2_with fail
    go_ret
    exact ⟨ret_int HF.out.symm, hB3⟩
  rw [szRes_yes q3]
  go_wp2_with fail
  refine (szGatePurseS_any _ _ b.ps _ _ (HL.out.ps.mono hB3) (by omega) (by omega)).mono ?_
  rintro e w4 ⟨rfl, hb⟩
  have hX4 := box_later hX3 hz3 hb
  have hz4 := Nat.lt_of_lt_of_le hz3 hb.size
  have hB4 := hB3.trans (hb.mono hB3.size)
  clear hb hX3 hz3 hB3
  by_cases q4 : (szPus b.ps : Int) ≤ left - szObs b.os - szGrs b.gs - szLgs b.ls
  rotate_left
  · have HF : Hid (szRes b.sz left = -1) := szRes_no (by unfold Bk.sz; omega)
    rw [szRes_no q4]
    go_wp2_with fail
    go_ret
    exact ⟨ret_int HF.out.symm, hB4⟩
  have HF : Hid (szRes b.sz left = left - szObs b.os - szGrs b.gs - szLgs b.ls - szPus b.ps) := by
    unfold Hid; rw [szRes_yes (by unfold Bk.sz; omega)]; unfold Bk.sz; omega
  rw [szRes_yes q4]
  go_wp2_with fail
  go_ret
  exact ⟨ret_int HF.out.symm, hB4⟩

set_option maxHeartbeats 1000000 in
theorem eqGateBook_yes (b : Bk) (a0 a1 a2 a3 : Option Addr) (c0 c1 c2 c3 : Nat) (a0' a1' a2' a3' : Option Addr) (c0' c1' c2' c3' : Nat) (w : World) (hl : BkAt w b a0 a1 a2 a3) (hl' : BkAt w b a0' a1' a2' a3') :
    Calls Try.prog 17 #[.agg (b.cells a0 a1 a2 a3 c0 c1 c2 c3), .agg (b.cells a0' a1' a2' a3' c0' c1' c2' c3')] w fun e w' => e = .returned (.bool true) ∧ Below w.heap.size w w' := by
  have HL : Hid (BkAt w b a0 a1 a2 a3 ∧ BkAt w b a0' a1' a2' a3') := ⟨hl, hl'⟩
  clear hl hl'
  have n1 : (b.now != b.now) = false := by simp
  have n2 : (b.tick != b.tick) = false := by simp
  have n3 : (b.given != b.given) = false := by simp
  unfold Bk.cells
  go_enter Try.func17, Try.ntmps17
  go_wp2_with fail
  refine (eqGateObjectS_yes _ _ _ _ b.os _ (HL.out.1.os.mono (below2' _ _ _)) (HL.out.2.os.mono (below2' _ _ _))).mono ?_
  rintro e w1 ⟨rfl, hb⟩
  have hX1 := box_later (box_later (box_new w _ _) (by simp) ((Below.refl _ _).alloc (Nat.le_refl _) _)) (by simp; omega) hb
  have hY1 := box_later (box_new (w.alloc (.cells #[.int .i64 b.now, .int .i64 b.tick, .int .i64 b.given, .slice a0 b.os.length c0, .slice a1 b.gs.length c1, .slice a2 b.ls.length c2, .slice a3 b.ps.length c3] 57)) #[.int .i64 b.now, .int .i64 b.tick, .int .i64 b.given, .slice a0' b.os.length c0', .slice a1' b.gs.length c1', .slice a2' b.ls.length c2', .slice a3' b.ps.length c3'] 57) (by simp) hb
  have hz1 : w.heap.size + 1 < w1.heap.size := by have := hb.size; simp at this; omega
  have hB1 := (below2' w _ _).trans (hb.mono (by simp; omega))
  rw [World.size_alloc] at hY1
  clear hb
  go_wp2_with fail
  refine (eqGateGrantS_yes _ _ _ _ b.gs _ (HL.out.1.gs.mono hB1) (HL.out.2.gs.mono hB1)).mono ?_
  rintro e w2 ⟨rfl, hb⟩
  have hX2 := box_later hX1 (Nat.lt_of_succ_lt hz1) hb
  have hY2 := box_later hY1 hz1 hb
  have hz2 := Nat.lt_of_lt_of_le hz1 hb.size
  have hB2 := hB1.trans (hb.mono hB1.size)
  clear hb hX1 hY1 hz1 hB1
  go_wp2_with fail
  refine (eqGateLedgerS_yes _ _ _ _ b.ls _ (HL.out.1.ls.mono hB2) (HL.out.2.ls.mono hB2)).mono ?_
  rintro e w3 ⟨rfl, hb⟩
  have hX3 := box_later hX2 (Nat.lt_of_succ_lt hz2) hb
  have hY3 := box_later hY2 hz2 hb
  have hz3 := Nat.lt_of_lt_of_le hz2 hb.size
  have hB3 := hB2.trans (hb.mono hB2.size)
  clear hb hX2 hY2 hz2 hB2
  go_wp2_with fail
  refine (eqGatePurseS_yes _ _ _ _ b.ps _ (HL.out.1.ps.mono hB3) (HL.out.2.ps.mono hB3)).mono ?_
  rintro e w4 ⟨rfl, hb⟩
  have hX4 := box_later hX3 (Nat.lt_of_succ_lt hz3) hb
  have hY4 := box_later hY3 hz3 hb
  have hz4 := Nat.lt_of_lt_of_le hz3 hb.size
  have hB4 := hB3.trans (hb.mono hB3.size)
  clear hb hX3 hY3 hz3 hB3
  go_wp2_with fail
  go_ret
  exact ⟨rfl, hB4⟩

end Go.Proofs.Ytniokfnigmmiiaa
