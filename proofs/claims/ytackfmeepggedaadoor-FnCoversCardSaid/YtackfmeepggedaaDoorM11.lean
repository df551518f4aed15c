import Derived.Test.YtackfmeepggedaaDoorRows
import Derived.Test.YtackfmeepggedaaDoorM08
import Derived.Test.YtackfmeepggedaaDoorM02
import Derived.WalkKit
import Derived.WalkSpells
import Derived.WalkLawsBesides
import Derived.Deep.QuietTactic
import Derived.BigQuiet
import Derived.Deep.RegionWith
import Derived.Deep.RegionHeld3
import Derived.Test.YtackfmeepggedaaDoorM05
namespace Go.Proofs.YtackfmeepggedaaDoor
open Go.RowKit

/-- The world with one block emptied. -/
def clr (r : Nat) (w : World) : World := { w with heap := w.heap.setIfInBounds r (.cells #[] 0) }
theorem clr_size (r : Nat) (w : World) : (clr r w).heap.size = w.heap.size := by simp [clr]
theorem clr_other {r k : Nat} (w : World) (h : k ≠ r) : (clr r w).heap[k]? = w.heap[k]? := by simp [clr, Array.getElem?_setIfInBounds_ne (Ne.symm h)]
theorem clr_same {r : Nat} (w : World) (h : r < w.heap.size) : (clr r w).heap[r]? = some (.cells #[] 0) := by simp [clr, h]
theorem unclr {r b o : Nat} {w : World} {v : Value} (h : (clr r w).cell? ⟨b, o, none⟩ = some v) : w.cell? ⟨b, o, none⟩ = some v := by
  by_cases e : b = r
  · subst e
    by_cases hb : b < w.heap.size
    · rw [cell_of_block (clr_same w hb)] at h; simp at h
    · simp [World.cell?, clr, hb] at h
  · have : (clr r w).cell? ⟨b, o, none⟩ = w.cell? ⟨b, o, none⟩ := by simp only [World.cell?, clr_other w e]
    rw [← this]; exact h
theorem unclr_ne {r b o : Nat} {w : World} {v : Value} (hr : r < w.heap.size) (h : (clr r w).cell? ⟨b, o, none⟩ = some v) : b ≠ r := by
  rintro rfl
  rw [cell_of_block (clr_same w hr)] at h; simp at h
theorem below_clr {r B : Nat} {w w' : World} (h : Below B w w') : Below B (clr r w) (clr r w') :=
  ⟨h.os, h.tape, h.output, by rw [clr_size, clr_size]; exact h.size, fun k hk => by
    by_cases e : k = r
    · subst e
      by_cases hb : k < w.heap.size
      · rw [clr_same w hb, clr_same w' (Nat.lt_of_lt_of_le hb h.size)]
      · have h1 : (Go.Proofs.YtackfmeepggedaaDoor.clr k w).heap[k]? = none := by rw [Array.getElem?_eq_none]; rw [clr_size]; omega
        have h2 := h.block k hk
        have h3 : w.heap[k]? = none := Array.getElem?_eq_none (by omega)
        rw [h3] at h2
        have h4 := Array.getElem?_eq_none_iff.1 h2
        rw [h1, Array.getElem?_eq_none]; rw [clr_size]; omega
    · rw [clr_other w e, clr_other w' e]; exact h.block k hk⟩
theorem clr_setCell (r B : Nat) (w : World) (o : Nat) (v : Value) : Below B (clr r w) (clr r (w.setCell ⟨r, o, none⟩ v)) := by
  have hz : (w.setCell ⟨r, o, none⟩ v).heap.size = w.heap.size := by simp
  refine ⟨rfl, rfl, rfl, by rw [clr_size, clr_size, hz]; exact Nat.le_refl _, fun k _ => ?_⟩
  by_cases e : k = r
  · subst e
    by_cases hb : k < w.heap.size
    · rw [clr_same w hb, clr_same _ (by rw [hz]; exact hb)]
    · have h1 : (clr k w).heap[k]? = none := Array.getElem?_eq_none (by rw [clr_size]; omega)
      have h2 : (clr k (w.setCell ⟨k, o, none⟩ v)).heap[k]? = none := Array.getElem?_eq_none (by rw [clr_size, hz]; omega)
      rw [h1, h2]
  · rw [clr_other _ e, clr_other _ e, setCell_other e]
theorem TmsAt.unclr {r : Nat} {w : World} {a : Option Addr} {ts : List Tm} (h : TmsAt (clr r w) a ts) : TmsAt w a ts :=
  ⟨h.len, h.small, fun hne => by
    obtain ⟨b, off, ha, hb, hr⟩ := h.rows hne
    refine ⟨b, off, ha, by rw [clr_size] at hb; exact hb, fun i hi j hj => ?_⟩
    have hc := hr i hi j hj
    have hs : ∃ v, ts[i].cells[j]? = some v := by
      have : j < ts[i].cells.size := by simpa [Tm.cells] using hj
      exact ⟨_, Array.getElem?_eq_getElem this⟩
    obtain ⟨v, hv⟩ := hs
    rw [hv] at hc ⊢
    exact Go.Proofs.YtackfmeepggedaaDoor.unclr hc⟩
theorem IntsAt.unclr {r : Nat} {w : World} {a : Option Addr} {vs : List Int} (h : IntsAt (clr r w) a vs) : IntsAt w a vs :=
  ⟨h.len, fun hne => by
    obtain ⟨b, off, ha, hb, hr⟩ := h.cells hne
    exact ⟨b, off, ha, by rw [clr_size] at hb; exact hb, fun i hi => Go.Proofs.YtackfmeepggedaaDoor.unclr (hr i hi)⟩⟩
theorem RlIn.unclr {r : Nat} {w : World} {b off : Nat} {q : Rl} {a : Option Addr} {cap : Nat} (h : RlIn (clr r w) b off q a cap) : RlIn w b off q a cap :=
  ⟨h.small, h.ints.unclr, fun j hj => by
    have hc := h.cell j hj
    have hs : ∃ v, (q.cells a cap)[j]? = some v := by
      have : j < (q.cells a cap).size := by simpa [Rl.cells] using hj
      exact ⟨_, Array.getElem?_eq_getElem this⟩
    obtain ⟨v, hv⟩ := hs
    rw [hv] at hc ⊢
    exact Go.Proofs.YtackfmeepggedaaDoor.unclr hc⟩
theorem RlsAt.unclr {r : Nat} {w : World} {a : Option Addr} {rs : List Rl} (h : RlsAt (clr r w) a rs) : RlsAt w a rs :=
  ⟨h.len, fun hne => by
    obtain ⟨b, off, ha, hb, hr⟩ := h.rows hne
    refine ⟨b, off, ha, by rw [clr_size] at hb; exact hb, fun i hi => ?_⟩
    obtain ⟨va, vcap, hf⟩ := hr i hi
    exact ⟨va, vcap, hf.unclr⟩⟩

/-- Bytes that lie in memory. -/
structure U8sAt (w : World) (a : Option Addr) (n : Nat) : Prop where
  len : n ≤ maxLen
  cells : 0 < n → ∃ b off, a = some ⟨b, off, none⟩ ∧ b < w.heap.size ∧ ∀ i, i < n → ∃ x : Int, 0 ≤ x ∧ x ≤ 255 ∧ w.cell? ⟨b, off + i, none⟩ = some (.int .u8 x)
theorem U8sAt.mono {w w' : World} {a : Option Addr} {n : Nat} (h : U8sAt w a n) (hb : Below w.heap.size w w') : U8sAt w' a n :=
  ⟨h.len, fun hp => by
    obtain ⟨b, off, ha, hbs, hc⟩ := h.cells hp
    refine ⟨b, off, ha, Nat.lt_of_lt_of_le hbs hb.size, fun i hi => ?_⟩
    obtain ⟨x, h0, h1, hx⟩ := hc i hi
    exact ⟨x, h0, h1, (hb.cell (p := ⟨b, off + i, none⟩) hbs).trans hx⟩⟩

/-- A reader: its code, which lies ahead of it, and its place. -/
structure RdAt (w : World) (r p : Nat) : Prop where
  rd : ∃ a n cap, n ≤ 2000 ∧ w.heap[r]? = some (.cells #[.slice a n cap, .int .i64 (p : Int)] 62) ∧ (0 < n → ∃ b off, a = some ⟨b, off, none⟩ ∧ b < r ∧ ∀ i, i < n → ∃ x : Int, 0 ≤ x ∧ x ≤ 255 ∧ w.cell? ⟨b, off + i, none⟩ = some (.int .u8 x))
theorem RdAt.lt {w : World} {r p : Nat} (h : RdAt w r p) : r < w.heap.size := by
  obtain ⟨a, n, cap, _, hr, _⟩ := h.rd
  exact (Array.getElem?_eq_some_iff.1 hr).1
theorem RdAt.keep {w w' : World} {r p : Nat} (h : RdAt w r p) (hb : Below (r + 1) w w') : RdAt w' r p := by
  obtain ⟨a, n, cap, hn, hr, hu⟩ := h.rd
  refine ⟨a, n, cap, hn, (hb.block r (by omega)).trans hr, fun hp => ?_⟩
  obtain ⟨b, off, ha, hbr, hc⟩ := hu hp
  refine ⟨b, off, ha, hbr, fun i hi => ?_⟩
  obtain ⟨x, h0, h1, hx⟩ := hc i hi
  exact ⟨x, h0, h1, (hb.cell (p := ⟨b, off + i, none⟩) (by show b < r + 1; omega)).trans hx⟩
theorem RdAt.mono {w w' : World} {r p : Nat} (h : RdAt w r p) (hb : Below w.heap.size w w') : RdAt w' r p := h.keep (hb.mono h.lt)

end Go.Proofs.YtackfmeepggedaaDoor

namespace Go.Proofs.YtackfmeepggedaaDoor
open Go.RowKit

set_option maxHeartbeats 400000 in
theorem isGiven_any (v : Int) (w : World) :
    Calls Tryd.prog 52 #[.int .i64 v] w fun e w' => e = .returned (.bool (Gate.verbOk v)) ∧ w' = w := by
  go_enter Tryd.func52, Tryd.ntmps52
  go_wp2
  all_goals
    go_ret
    refine ⟨ret_bool ?_, rfl⟩
    rw [Bool.eq_iff_iff]; simp [Gate.verbOk]; try omega

theorem Gate.verbAt_no {vs : List Int} {k : Nat} (h : k < vs.length) (hn : Gate.verbOk vs[k] = false) : Gate.verbAt vs k = false := by
  unfold Gate.verbAt; rw [Gate.getD_at vs k _ h, hn]; rfl
theorem Gate.verbAt_first {vs : List Int} (h : 0 < vs.length) (hn : Gate.verbOk vs[0] = true) : Gate.verbAt vs 0 = true := by
  unfold Gate.verbAt; rw [Gate.getD_at vs 0 _ h, hn]; rfl
theorem Gate.verbAt_more {vs : List Int} {k : Nat} (h : k + 1 < vs.length) (hn : Gate.verbOk vs[k + 1] = true) : Gate.verbAt vs (k + 1) = decide (vs[k] < vs[k + 1]) := by
  unfold Gate.verbAt; rw [Gate.getD_at vs (k + 1) _ h, Nat.add_sub_cancel, Gate.getD_at vs k _ (by omega), hn]; simp

set_option maxHeartbeats 1000000 in
theorem areVerbs_any (a : Option Addr) (cap : Nat) (vs : List Int) (w : World) (hw : IntsAt w a vs) :
    Calls Tryd.prog 39 #[.slice a vs.length cap] w fun e w' => e = .returned (.bool (Gate.verbsOk vs)) ∧ w' = w := by
  have hl := hw.len
  unfold maxLen at hl
  have HG : Hid (Gate.up (Gate.verbAt vs) vs.length = false → Gate.verbsOk vs = false) := fun h => by unfold Gate.verbsOk; rw [h, Bool.and_false]
  go_enter Tryd.func39, Tryd.ntmps39
  go_wp2_with fail
  go_loop [7] (fun i => ∃ k : Nat, k ≤ vs.length ∧ i = .int .i64 k ∧ Gate.up (Gate.verbAt vs) k = true) (fun i => vs.length - (intOf i).toNat)
  case atStart => exact ⟨0, Nat.zero_le _, rfl, rfl⟩
  case round =>
    obtain ⟨k, hk, rfl, hup⟩ := hrel
    by_cases hlt : k < vs.length
    · obtain ⟨b, off, rfl, hb, hck⟩ := hw.load (Below.refl _ _) k hlt
      have hltI : (k : Int) < (vs.length : Int) := by omega
      by_cases hn : Gate.verbOk vs[k] = true
      · by_cases hk0 : k = 0
        · have HF : Hid (Gate.up (Gate.verbAt vs) (k + 1) = true) := by subst hk0; unfold Hid; rw [Gate.up_succ, Gate.verbAt_first hlt hn]; rfl
          have hg : decide (0 < k) = false := by simp; omega
          have HN : Hid (Gate.verbOk vs[k] = true) := hn
          clear hn hup hk0 hw
          go_wp2_with (go_at_call 52; refine (as_bool HN.out (isGiven_any _ _)).mono ?_; rintro e w' ⟨rfl, rfl⟩)
          go_round
          case rel => exact ⟨k + 1, by omega, by go_num, HF.out⟩
          case measure => simp [intOf]; omega
        · obtain ⟨m, rfl⟩ : ∃ m, k = m + 1 := ⟨k - 1, by omega⟩
          obtain ⟨b', off', e', hb', hcm⟩ := hw.load (Below.refl _ _) m (by omega)
          simp only [Option.some.injEq, Addr.mk.injEq] at e'
          obtain ⟨rfl, rfl, _⟩ := e'
          have HU : Hid (Gate.up (Gate.verbAt vs) (m + 1 + 1) = decide (vs[m] < vs[m + 1])) := by unfold Hid; rw [Gate.up_succ, hup, Gate.verbAt_more hlt hn]; rfl
          have HNN : Hid (¬ vs[m] < vs[m + 1] → Gate.verbsOk vs = false) := fun h => HG.out (Gate.up_not hlt (by rw [Gate.verbAt_more hlt hn]; simpa using h))
          have HN : Hid (Gate.verbOk vs[m + 1] = true) := hn
          clear hn hup hk0 hw
          by_cases hls : vs[m] < vs[m + 1]
          · have hls' : decide (vs[m + 1] ≤ vs[m]) = false := by simp; omega
            have HLS : Hid (vs[m] < vs[m + 1]) := hls
            clear hls
            go_wp2_with (go_at_call 52; refine (as_bool HN.out (isGiven_any _ _)).mono ?_; rintro e w' ⟨rfl, rfl⟩)
            go_round
            case rel => exact ⟨m + 1 + 1, by omega, by go_num, by rw [HU.out]; simpa using HLS.out⟩
            case measure => simp [intOf]; omega
          · have hls' : vs[m + 1] ≤ vs[m] := by omega
            have HLS : Hid (¬ vs[m] < vs[m + 1]) := hls
            clear hls
            go_wp2_with (go_at_call 52; refine (as_bool HN.out (isGiven_any _ _)).mono ?_; rintro e w' ⟨rfl, rfl⟩)
            go_ret
            exact ⟨ret_bool (HNN.out HLS.out).symm, rfl⟩
      · have hn' : Gate.verbOk vs[k] = false := by simpa using hn
        have HF : Hid (Gate.verbsOk vs = false) := HG.out (Gate.up_not hlt (Gate.verbAt_no hlt hn'))
        have HN : Hid (Gate.verbOk vs[k] = false) := hn'
        clear hn hn' hup hw
        go_wp2_with (go_at_call 52; refine (as_bool HN.out (isGiven_any _ _)).mono ?_; rintro e w' ⟨rfl, rfl⟩)
        go_ret
        exact ⟨ret_bool HF.out.symm, rfl⟩
    · have HF : Hid (Gate.verbsOk vs = decide (0 < vs.length)) := by
        have e : k = vs.length := by omega
        subst e; unfold Hid Gate.verbsOk; rw [hup, Bool.and_true]
      clear hw hup
      go_wp2_with fail
      go_ret
      exact ⟨ret_bool (by rw [HF.out]), rfl⟩

end Go.Proofs.YtackfmeepggedaaDoor

namespace Go.Proofs.YtackfmeepggedaaDoor
open Go.RowKit

set_option maxHeartbeats 800000 in
theorem specUnder_any (a : Option Addr) (cap : Nat) (ts : List Tm) (x y : ByteArray) (w : World) (hw : TmsAt w a ts) :
    Calls Tryd.prog 49 #[.slice a ts.length cap, .string x, .string y] w fun e w' => e = .returned (.bool (Gate.under ts 4 x y)) ∧ w' = w := by
  by_cases hxy : x = y
  · have HF : Hid (Gate.under ts 4 x y = true) := Gate.under_same ts 4 x y hxy
    have hbe : (x.toList == y.toList) = true := by rw [Gate.beq_toList]; simpa using hxy
    clear hxy
    go_enter Tryd.func49, Tryd.ntmps49
    go_wp2_with fail
    go_ret
    exact ⟨ret_bool HF.out.symm, rfl⟩
  have hbe : (x.toList == y.toList) = false := by rw [Gate.beq_toList]; simpa using hxy
  have HXY : Hid (¬ x = y) := hxy
  clear hxy
  go_enter Tryd.func49, Tryd.ntmps49
  go_wp2_with fail
  go_loop [1, 7] (fun p i => ∃ (k : Nat) (z : ByteArray), k ≤ 4 ∧ p = .string z ∧ i = .int .i64 k ∧ ¬ z = y ∧ Gate.under ts 4 x y = Gate.under ts (4 - k) z y) (fun _ i => 4 - (intOf i).toNat)
  case atStart => exact ⟨0, x, Nat.zero_le _, rfl, rfl, HXY.out, rfl⟩
  case round =>
    obtain ⟨k, z, hk, rfl, rfl, hz, hu⟩ := hrel
    have HZ : Hid (¬ z = y ∧ Gate.under ts 4 x y = Gate.under ts (4 - k) z y) := ⟨hz, hu⟩
    clear hz hu hbe
    by_cases hlt : k < 4
    · have hltI : (k : Int) < 4 := by omega
      obtain ⟨m, hm⟩ : ∃ m, 4 - k = m + 1 := ⟨3 - k, by omega⟩
      by_cases h0 : (Gate.over ts z).size = 0
      · have HF : Hid (Gate.under ts 4 x y = false) := by rw [HZ.out.2, hm]; exact Gate.under_stop ts m HZ.out.1 h0
        have h0' : (Gate.over ts z).toList.isEmpty = true := by rw [Gate.isEmpty_of_size]; simpa using h0
        clear h0 hm
        go_wp2_with (go_at_call 64; refine (l4Over_any _ _ _ _ _ hw).mono ?_; rintro e w' ⟨rfl, rfl⟩)
        go_ret
        exact ⟨ret_bool HF.out.symm, rfl⟩
      · have HO : Hid (Gate.under ts 4 x y = Gate.under ts m (Gate.over ts z) y) := by rw [Hid, HZ.out.2, hm]; exact Gate.under_on ts m HZ.out.1 h0
        have h0' : (Gate.over ts z).toList.isEmpty = false := by rw [Gate.isEmpty_of_size]; simpa using h0
        clear h0
        by_cases hy : Gate.over ts z = y
        · have HF : Hid (Gate.under ts 4 x y = true) := by rw [Hid, HO.out]; exact Gate.under_same ts m _ _ hy
          have hy' : ((Gate.over ts z).toList == y.toList) = true := by rw [Gate.beq_toList]; simpa using hy
          clear hy
          go_wp2_with (go_at_call 64; refine (l4Over_any _ _ _ _ _ hw).mono ?_; rintro e w' ⟨rfl, rfl⟩)
          go_ret
          exact ⟨ret_bool HF.out.symm, rfl⟩
        · have hy' : ((Gate.over ts z).toList == y.toList) = false := by rw [Gate.beq_toList]; simpa using hy
          have HY : Hid (¬ Gate.over ts z = y) := hy
          clear hy
          go_wp2_with (go_at_call 64; refine (l4Over_any _ _ _ _ _ hw).mono ?_; rintro e w' ⟨rfl, rfl⟩)
          go_round
          case rel => exact ⟨k + 1, Gate.over ts z, by omega, rfl, by go_num, HY.out, by rw [HO.out, show 4 - (k + 1) = m by omega]⟩
          case measure => simp [intOf]; omega
    · have HF : Hid (Gate.under ts 4 x y = false) := by
        have e : 4 - k = 0 := by omega
        rw [Hid, HZ.out.2, e]; exact Gate.under_end ts HZ.out.1
      go_wp2_with fail
      go_ret
      exact ⟨ret_bool HF.out.symm, rfl⟩

set_option maxHeartbeats 800000 in
theorem implUnder_any (a : Option Addr) (cap : Nat) (ts : List Tm) (x y : ByteArray) (w : World) (hw : TmsAt w a ts) :
    Calls Tryd.prog 67 #[.slice a ts.length cap, .string x, .string y] w fun e w' => e = .returned (.bool (Gate.under ts 4 x y)) ∧ Below w.heap.size w w' := by
  by_cases hxy : x = y
  · have HF : Hid (Gate.under ts 4 x y = true) := Gate.under_same ts 4 x y hxy
    have hbe : (x.toList == y.toList) = true := by rw [Gate.beq_toList]; simpa using hxy
    clear hxy
    go_enter Tryd.func67, Tryd.ntmps67
    go_wp2_with fail
    go_ret
    exact ⟨ret_bool HF.out.symm, Below.refl _ _⟩
  have hbe : (x.toList == y.toList) = false := by rw [Gate.beq_toList]; simpa using hxy
  have HXY : Hid (¬ x = y) := hxy
  clear hxy
  go_enter Tryd.func67, Tryd.ntmps67
  go_wp2_with fail
  go_loopw [1, 10] (fun p i wr => ∃ (k : Nat) (z : ByteArray), k ≤ 4 ∧ p = .string z ∧ i = .int .i64 k ∧ ¬ z = y ∧ Gate.under ts 4 x y = Gate.under ts (4 - k) z y ∧ Below w.heap.size w wr) (fun _ i _ => 4 - (intOf i).toNat)
  case atStart => exact ⟨0, x, Nat.zero_le _, rfl, rfl, HXY.out, rfl, Below.refl _ _⟩
  case round =>
    obtain ⟨k, z, hk, rfl, rfl, hz, hu, hB⟩ := hrel
    have HZ : Hid (¬ z = y ∧ Gate.under ts 4 x y = Gate.under ts (4 - k) z y) := ⟨hz, hu⟩
    clear hz hu hbe
    by_cases hlt : k < 4
    · have hltI : (k : Int) < 4 := by omega
      obtain ⟨m, hm⟩ : ∃ m, 4 - k = m + 1 := ⟨3 - k, by omega⟩
      by_cases h0 : (Gate.over ts z).size = 0
      · have HF : Hid (Gate.under ts 4 x y = false) := by rw [HZ.out.2, hm]; exact Gate.under_stop ts m HZ.out.1 h0
        have h0' : (Gate.over ts z).toList.isEmpty = true := by rw [Gate.isEmpty_of_size]; simpa using h0
        clear h0 hm
        go_wp2_with fail
        refine (overOf_any _ _ _ _ _ (hw.mono hB)).mono ?_
        rintro e w1 ⟨rfl, hb1⟩
        have hB1 := hB.trans (hb1.mono hB.size)
        clear hb1
        go_wp2_with fail
        go_ret
        exact ⟨ret_bool HF.out.symm, hB1⟩
      · have HO : Hid (Gate.under ts 4 x y = Gate.under ts m (Gate.over ts z) y) := by rw [Hid, HZ.out.2, hm]; exact Gate.under_on ts m HZ.out.1 h0
        have h0' : (Gate.over ts z).toList.isEmpty = false := by rw [Gate.isEmpty_of_size]; simpa using h0
        clear h0
        by_cases hy : Gate.over ts z = y
        · have HF : Hid (Gate.under ts 4 x y = true) := by rw [Hid, HO.out]; exact Gate.under_same ts m _ _ hy
          have hy' : ((Gate.over ts z).toList == y.toList) = true := by rw [Gate.beq_toList]; simpa using hy
          clear hy
          go_wp2_with fail
          refine (overOf_any _ _ _ _ _ (hw.mono hB)).mono ?_
          rintro e w1 ⟨rfl, hb1⟩
          have hB1 := hB.trans (hb1.mono hB.size)
          clear hb1
          go_wp2_with fail
          go_ret
          exact ⟨ret_bool HF.out.symm, hB1⟩
        · have hy' : ((Gate.over ts z).toList == y.toList) = false := by rw [Gate.beq_toList]; simpa using hy
          have HY : Hid (¬ Gate.over ts z = y) := hy
          clear hy
          go_wp2_with fail
          refine (overOf_any _ _ _ _ _ (hw.mono hB)).mono ?_
          rintro e w1 ⟨rfl, hb1⟩
          have hB1 := hB.trans (hb1.mono hB.size)
          clear hb1
          go_wp2_with fail
          exact ⟨⟨k + 1, Gate.over ts z, by omega, rfl, by go_num, HY.out, by rw [HO.out, show 4 - (k + 1) = m by omega], hB1⟩, by simp [intOf]; omega⟩
    · have HF : Hid (Gate.under ts 4 x y = false) := by
        have e : 4 - k = 0 := by omega
        rw [Hid, HZ.out.2, e]; exact Gate.under_end ts HZ.out.1
      go_wp2_with fail
      go_ret
      exact ⟨ret_bool HF.out.symm, hB⟩

end Go.Proofs.YtackfmeepggedaaDoor

namespace Go.Proofs.YtackfmeepggedaaDoor
open Go.RowKit

theorem any_take_snoc {α : Type} (p : α → Bool) (l : List α) (k : Nat) (h : k < l.length) : (l.take (k + 1)).any p = ((l.take k).any p || p l[k]) := by
  rw [List.take_succ_eq_append_getElem h, List.any_append]; simp
theorem any_at {α : Type} (p : α → Bool) (l : List α) (k : Nat) (h : k < l.length) (hp : p l[k] = true) : l.any p = true := by
  rw [List.any_eq_true]; exact ⟨l[k], List.getElem_mem h, hp⟩

/-- A function value of one captured box, called at each team: what it answers. -/
def TeamFn (P : Program) (fid : Nat) (q : Value) (ts : List Tm) (w : World) (p : Tm → Bool) : Prop :=
  ∀ w1, Below w.heap.size w w1 → ∀ i (h : i < ts.length), Calls P fid #[.agg ts[i].cells, q] w1 fun e w' => e = .returned (.bool (p ts[i])) ∧ Below w1.heap.size w1 w'

set_option maxHeartbeats 1000000 in
theorem IndexFuncT_any (a : Option Addr) (cap : Nat) (ts : List Tm) (q : Value) (p : Tm → Bool) (w : World) (hw : TmsAt w a ts) (hf : TeamFn Tryd.prog 56 q ts w p) :
    Calls Tryd.prog 57 #[.slice a ts.length cap, .func (.func 56) #[] #[q]] w fun e w' => ∃ r : Int, e = .returned (.int .i64 r) ∧ decide (0 ≤ r) = ts.any p ∧ Below w.heap.size w w' := by
  have hl := hw.len
  unfold maxLen at hl
  go_enter Tryd.func57, Tryd.ntmps57
  go_wp2_with fail
  go_loopw [8] (fun i wr => ∃ k : Nat, k ≤ ts.length ∧ i = .int .i64 k ∧ (ts.take k).any p = false ∧ Below w.heap.size w wr) (fun i _ => ts.length - (intOf i).toNat)
  case atStart => exact ⟨0, Nat.zero_le _, rfl, rfl, Below.refl _ _⟩
  case round =>
    obtain ⟨k, hk, rfl, hno, hB⟩ := hrel
    by_cases hlt : k < ts.length
    · obtain ⟨b, off, rfl, hb, c0, c1⟩ := hw.load hB k hlt
      have hltI : (k : Int) < (ts.length : Int) := by omega
      have hc := hf wr hB k hlt
      clear hw hf
      by_cases he : p ts[k] = true
      · have HA : Hid (ts.any p = true) := any_at p ts k hlt he
        have HE : Hid (p ts[k] = true) := he
        clear he hno
        go_wp2_with fail
        refine (as_bool HE.out hc).mono ?_
        rintro e w2 ⟨rfl, hb2⟩
        go_wp2_with fail
        go_ret
        exact ⟨_, rfl, by rw [HA.out]; simp, hB.trans (hb2.mono hB.size)⟩
      · have he' : p ts[k] = false := by simpa using he
        have HS : Hid ((ts.take (k + 1)).any p = false) := by unfold Hid; rw [any_take_snoc p ts k hlt, hno, he']; rfl
        have HE : Hid (p ts[k] = false) := he'
        clear he he' hno
        go_wp2_with fail
        refine (as_bool HE.out hc).mono ?_
        rintro e w2 ⟨rfl, hb2⟩
        go_wp2_with fail
        exact ⟨⟨k + 1, by omega, by go_num, HS.out, hB.trans (hb2.mono hB.size)⟩, by simp [intOf]; omega⟩
    · have HA : Hid (ts.any p = false) := by unfold Hid; rw [← hno, List.take_of_length_le (by omega)]
      clear hno hw hf
      go_wp2_with fail
      go_ret
      exact ⟨_, rfl, by rw [HA.out]; rfl, hB⟩

set_option maxHeartbeats 400000 in
theorem ContainsFuncT_any (a : Option Addr) (cap : Nat) (ts : List Tm) (q : Value) (p : Tm → Bool) (w : World) (hw : TmsAt w a ts) (hf : TeamFn Tryd.prog 56 q ts w p) :
    Calls Tryd.prog 36 #[.slice a ts.length cap, .func (.func 56) #[] #[q]] w fun e w' => e = .returned (.bool (ts.any p)) ∧ Below w.heap.size w w' := by
  go_enter Tryd.func36, Tryd.ntmps36
  go_wp2_with fail
  refine (IndexFuncT_any _ _ _ _ _ _ hw hf).mono ?_
  rintro e w2 ⟨r, rfl, hr, hb2⟩
  go_wp2_with fail
  go_ret
  exact ⟨rfl, hb2⟩

set_option maxHeartbeats 1000000 in
theorem IndexFuncU_any (a : Option Addr) (cap : Nat) (ts : List Tm) (q : Value) (p : Tm → Bool) (w : World) (hw : TmsAt w a ts) (hf : TeamFn Tryd.prog 37 q ts w p) :
    Calls Tryd.prog 57 #[.slice a ts.length cap, .func (.func 37) #[] #[q]] w fun e w' => ∃ r : Int, e = .returned (.int .i64 r) ∧ decide (0 ≤ r) = ts.any p ∧ Below w.heap.size w w' := by
  have hl := hw.len
  unfold maxLen at hl
  go_enter Tryd.func57, Tryd.ntmps57
  go_wp2_with fail
  go_loopw [8] (fun i wr => ∃ k : Nat, k ≤ ts.length ∧ i = .int .i64 k ∧ (ts.take k).any p = false ∧ Below w.heap.size w wr) (fun i _ => ts.length - (intOf i).toNat)
  case atStart => exact ⟨0, Nat.zero_le _, rfl, rfl, Below.refl _ _⟩
  case round =>
    obtain ⟨k, hk, rfl, hno, hB⟩ := hrel
    by_cases hlt : k < ts.length
    · obtain ⟨b, off, rfl, hb, c0, c1⟩ := hw.load hB k hlt
      have hltI : (k : Int) < (ts.length : Int) := by omega
      have hc := hf wr hB k hlt
      clear hw hf
      by_cases he : p ts[k] = true
      · have HA : Hid (ts.any p = true) := any_at p ts k hlt he
        have HE : Hid (p ts[k] = true) := he
        clear he hno
        go_wp2_with fail
        refine (as_bool HE.out hc).mono ?_
        rintro e w2 ⟨rfl, hb2⟩
        go_wp2_with fail
        go_ret
        exact ⟨_, rfl, by rw [HA.out]; simp, hB.trans (hb2.mono hB.size)⟩
      · have he' : p ts[k] = false := by simpa using he
        have HS : Hid ((ts.take (k + 1)).any p = false) := by unfold Hid; rw [any_take_snoc p ts k hlt, hno, he']; rfl
        have HE : Hid (p ts[k] = false) := he'
        clear he he' hno
        go_wp2_with fail
        refine (as_bool HE.out hc).mono ?_
        rintro e w2 ⟨rfl, hb2⟩
        go_wp2_with fail
        exact ⟨⟨k + 1, by omega, by go_num, HS.out, hB.trans (hb2.mono hB.size)⟩, by simp [intOf]; omega⟩
    · have HA : Hid (ts.any p = false) := by unfold Hid; rw [← hno, List.take_of_length_le (by omega)]
      clear hno hw hf
      go_wp2_with fail
      go_ret
      exact ⟨_, rfl, by rw [HA.out]; rfl, hB⟩

set_option maxHeartbeats 400000 in
theorem ContainsFuncU_any (a : Option Addr) (cap : Nat) (ts : List Tm) (q : Value) (p : Tm → Bool) (w : World) (hw : TmsAt w a ts) (hf : TeamFn Tryd.prog 37 q ts w p) :
    Calls Tryd.prog 36 #[.slice a ts.length cap, .func (.func 37) #[] #[q]] w fun e w' => e = .returned (.bool (ts.any p)) ∧ Below w.heap.size w w' := by
  go_enter Tryd.func36, Tryd.ntmps36
  go_wp2_with fail
  refine (IndexFuncU_any _ _ _ _ _ _ hw hf).mono ?_
  rintro e w2 ⟨r, rfl, hr, hb2⟩
  go_wp2_with fail
  go_ret
  exact ⟨rfl, hb2⟩

set_option maxHeartbeats 400000 in
theorem isTeamFn_any (t : Tm) (v : ByteArray) (bn : Nat) (w : World) (hb : bn < w.heap.size) (hn : w.cell? ⟨bn, 0, none⟩ = some (.string v)) :
    Calls Tryd.prog 56 #[.agg t.cells, .pointer (some ⟨bn, 0, none⟩)] w fun e w' => e = .returned (.bool (t.nm.toList == v.toList)) ∧ Below w.heap.size w w' := by
  unfold Tm.cells
  go_enter Tryd.func56, Tryd.ntmps56
  go_wp2_with fail
  go_ret
  exact ⟨rfl, (Below.refl _ _).alloc (Nat.le_refl _) _⟩

theorem isTeamFn_fn (ts : List Tm) (v : ByteArray) (bn : Nat) (w : World) (hb : bn < w.heap.size) (hn : w.cell? ⟨bn, 0, none⟩ = some (.string v)) :
    TeamFn Tryd.prog 56 (.pointer (some ⟨bn, 0, none⟩)) ts w (fun t => decide (t.nm = v)) := fun w1 hB i hi => by
  refine (isTeamFn_any ts[i] v bn w1 (Nat.lt_of_lt_of_le hb hB.size) ((hB.cell (p := ⟨bn, 0, none⟩) hb).trans hn)).mono ?_
  rintro e w' ⟨rfl, hb'⟩
  exact ⟨ret_bool (Gate.beq_toList _ _), hb'⟩

set_option maxHeartbeats 400000 in
theorem isTeam_any (a : Option Addr) (cap : Nat) (ts : List Tm) (v : ByteArray) (w : World) (hw : TmsAt w a ts) :
    Calls Tryd.prog 35 #[.slice a ts.length cap, .string v] w fun e w' => e = .returned (.bool (Gate.hasTeam ts v)) ∧ Below w.heap.size w w' := by
  go_enter Tryd.func35, Tryd.ntmps35
  go_wp2_with fail
  refine (ContainsFuncT_any _ _ _ _ _ _ (hw.mono ((Below.refl _ _).alloc (Nat.le_refl _) _)) (isTeamFn_fn ts v _ _ (by simp) (by rw [World.cell?_alloc_at _ _ _ _ rfl]; rfl))).mono ?_
  rintro e w2 ⟨rfl, hb2⟩
  go_wp2_with fail
  go_ret
  exact ⟨rfl, ((Below.refl _ _).alloc (Nat.le_refl _) _).trans (hb2.mono (by simp))⟩

set_option maxHeartbeats 800000 in
theorem isTooDeep_any (a : Option Addr) (cap : Nat) (ts : List Tm) (t : Tm) (w : World) (hw : TmsAt w a ts) :
    Calls Tryd.prog 38 #[.slice a ts.length cap, .agg t.cells] w fun e w' => e = .returned (.bool (!Gate.deepOk ts t)) ∧ Below w.heap.size w w' := by
  unfold Tm.cells
  go_enter Tryd.func38, Tryd.ntmps38
  go_wp2_with fail
  go_loopw [5, 8] (fun p i wr => ∃ (k : Nat) (z : ByteArray), k ≤ 4 ∧ p = .string z ∧ i = .int .i64 k ∧ Gate.climb ts 4 t.ov = Gate.climb ts (4 - k) z ∧ Below w.heap.size w wr) (fun _ i _ => 4 - (intOf i).toNat)
  case atStart => exact ⟨0, t.ov, Nat.zero_le _, rfl, rfl, rfl, (Below.refl _ _).alloc (Nat.le_refl _) _⟩
  case round =>
    obtain ⟨k, z, hk, rfl, rfl, hz, hB⟩ := hrel
    by_cases hlt : k < 4
    · have hltI : (k : Int) < 4 := by omega
      have HZ : Hid (Gate.climb ts 4 t.ov = Gate.climb ts (4 - (k + 1)) (Gate.over ts z)) := by
        obtain ⟨m, hm⟩ : ∃ m, 4 - k = m + 1 := ⟨3 - k, by omega⟩
        rw [Hid, hz, hm, show 4 - (k + 1) = m by omega]; rfl
      clear hz
      go_wp2_with fail
      refine (overOf_any _ _ _ _ _ (hw.mono hB)).mono ?_
      rintro e w1 ⟨rfl, hb1⟩
      have hB1 := hB.trans (hb1.mono hB.size)
      clear hb1
      go_wp2_with fail
      exact ⟨⟨k + 1, Gate.over ts z, by omega, rfl, by go_num, HZ.out, hB1⟩, by simp [intOf]; omega⟩
    · have HF : Hid (Gate.deepOk ts t = z.toList.isEmpty) := by
        have e : 4 - k = 0 := by omega
        rw [e] at hz
        unfold Hid Gate.deepOk
        rw [hz, Gate.isEmpty_of_size]; rfl
      clear hz
      go_wp2_with fail
      go_ret
      exact ⟨ret_bool (by rw [HF.out]), hB⟩

set_option maxHeartbeats 400000 in
theorem deepFn_any (a : Option Addr) (cap : Nat) (ts : List Tm) (t : Tm) (bn : Nat) (w : World) (hw : TmsAt w a ts) (hb : bn < w.heap.size) (hn : w.cell? ⟨bn, 0, none⟩ = some (.slice a ts.length cap)) :
    Calls Tryd.prog 37 #[.agg t.cells, .pointer (some ⟨bn, 0, none⟩)] w fun e w' => e = .returned (.bool (!Gate.deepOk ts t)) ∧ Below w.heap.size w w' := by
  unfold Tm.cells
  go_enter Tryd.func37, Tryd.ntmps37
  go_wp2_with fail
  refine (isTooDeep_any _ _ _ t _ (hw.mono ((Below.refl _ _).alloc (Nat.le_refl _) _))).mono ?_
  rintro e w2 ⟨rfl, hb2⟩
  go_wp2_with fail
  go_ret
  exact ⟨rfl, ((Below.refl _ _).alloc (Nat.le_refl _) _).trans (hb2.mono (by simp))⟩

theorem deepFn_fn (a : Option Addr) (cap : Nat) (ts : List Tm) (bn : Nat) (w : World) (hw : TmsAt w a ts) (hb : bn < w.heap.size) (hn : w.cell? ⟨bn, 0, none⟩ = some (.slice a ts.length cap)) :
    TeamFn Tryd.prog 37 (.pointer (some ⟨bn, 0, none⟩)) ts w (fun t => !Gate.deepOk ts t) := fun w1 hB i _ =>
  deepFn_any a cap ts ts[i] bn w1 (hw.mono hB) (Nat.lt_of_lt_of_le hb hB.size) ((hB.cell (p := ⟨bn, 0, none⟩) hb).trans hn)

end Go.Proofs.YtackfmeepggedaaDoor

namespace Go.Proofs.YtackfmeepggedaaDoor
namespace Gate

/-- What begins with what begins with a text begins with it. -/
theorem begins_iff (s p : ByteArray) : begins s p = true ↔ p.size ≤ s.size ∧ s.extract 0 p.size = p := by
  unfold begins
  rw [Bool.and_eq_true, decide_eq_true_eq, beq_toList, decide_eq_true_eq]
theorem begins_trans {a b c : ByteArray} (h : begins a b = true) (k : begins b c = true) : begins a c = true := by
  rw [begins_iff] at h k ⊢
  refine ⟨Nat.le_trans k.1 h.1, ?_⟩
  have e : (a.extract 0 b.size).extract 0 c.size = c := by rw [h.2]; exact k.2
  rw [← e]
  apply ByteArray.ext
  simp only [ByteArray.data_extract, Array.extract_extract, ByteArray.size_extract]
  have h1 := h.1
  have h2 := k.1
  congr 1
  omega

/-- So many steps up, none of them to nothing. -/
def upIn (ts : List Tm) : Nat → ByteArray → ByteArray → Prop
  | 0, a, b => a = b
  | n + 1, a, b => ¬ (over ts a).size = 0 ∧ upIn ts n (over ts a) b
theorem under_upIn (ts : List Tm) : ∀ (n : Nat) (a b : ByteArray), under ts n a b = true ↔ ∃ k, k ≤ n ∧ upIn ts k a b
  | 0, a, b => by
    constructor
    · intro h
      have e : a = b := by simpa [under] using h
      exact ⟨0, Nat.le_refl _, e⟩
    · rintro ⟨k, hk, h⟩
      obtain rfl : k = 0 := by omega
      have e : a = b := h
      simp [under, e]
  | n + 1, a, b => by
    have ih := under_upIn ts n (over ts a) b
    constructor
    · intro h
      unfold under at h
      simp only [Bool.or_eq_true, Bool.and_eq_true, decide_eq_true_eq] at h
      rcases h with h | ⟨h1, h2⟩
      · exact ⟨0, Nat.zero_le _, h⟩
      · obtain ⟨k, hk, hu⟩ := ih.1 h2
        exact ⟨k + 1, by omega, h1, hu⟩
    · rintro ⟨k, hk, h⟩
      unfold under
      simp only [Bool.or_eq_true, Bool.and_eq_true, decide_eq_true_eq]
      cases k with
      | zero => exact Or.inl h
      | succ k => exact Or.inr ⟨h.1, ih.2 ⟨k, by omega, h.2⟩⟩
theorem upIn_add (ts : List Tm) : ∀ (k m : Nat) {a b c : ByteArray}, upIn ts k a b → upIn ts m b c → upIn ts (k + m) a c
  | 0, m, a, b, c, h, h' => by
    have e : a = b := h
    subst e
    rw [Nat.zero_add]; exact h'
  | k + 1, m, a, b, c, h, h' => by
    rw [show k + 1 + m = (k + m) + 1 by omega]
    exact ⟨h.1, upIn_add ts k m h.2 h'⟩
theorem upIn_climb (ts : List Tm) : ∀ (k : Nat) {a b : ByteArray}, upIn ts k a b → climb ts k a = b
  | 0, _, _, h => h
  | k + 1, _, _, h => upIn_climb ts k h.2
theorem upIn_end (ts : List Tm) : ∀ (k : Nat) {a b : ByteArray}, upIn ts (k + 1) a b → ¬ b.size = 0
  | 0, a, b, h => by
    have e : over ts a = b := h.2
    rw [← e]; exact h.1
  | k + 1, _, _, h => upIn_end ts k h.2
theorem climb_add (ts : List Tm) : ∀ (k m : Nat) (a : ByteArray), climb ts (k + m) a = climb ts m (climb ts k a)
  | 0, m, a => by rw [Nat.zero_add]; rfl
  | k + 1, m, a => by rw [show k + 1 + m = (k + m) + 1 by omega]; exact climb_add ts k m (over ts a)
theorem climb_nothing {ts : List Tm} (hup : up (teamAt ts) ts.length = true) : ∀ k, climb ts k ByteArray.empty = ByteArray.empty
  | 0 => rfl
  | k + 1 => by show climb ts k (over ts ByteArray.empty) = _; rw [over_empty hup]; exact climb_nothing hup k
/-- In teams that are ok nobody has more than four over them. -/
theorem upIn_few {ts : List Tm} (hok : teamsOk ts = true) : ∀ (k : Nat) {a b : ByteArray}, upIn ts k a b → k ≤ 4 := by
  intro k a b h
  have hup : up (teamAt ts) ts.length = true := by unfold teamsOk at hok; simp only [Bool.and_eq_true] at hok; exact hok.2.1
  have hdp : up (deepAt ts) ts.length = true := by unfold teamsOk at hok; simp only [Bool.and_eq_true] at hok; exact hok.2.2
  rcases Nat.lt_or_ge 4 k with h4 | h4
  · exfalso
    obtain ⟨m, rfl⟩ : ∃ m, k = m + 1 := ⟨k - 1, by omega⟩
    have hb := upIn_end ts m h
    have hc := upIn_climb ts (m + 1) h
    -- a is a team: else nothing stands over it
    cases hh : hasTeam ts a with
    | false => exact h.1 (by rw [over_none ts a hh]; rfl)
    | true =>
      unfold hasTeam at hh
      obtain ⟨t, ht, e⟩ := List.any_eq_true.1 hh
      obtain ⟨x, hx, hxt⟩ : ∃ x ∈ ts, over ts a = x.ov := by
        unfold over
        cases hf : ts.find? (fun t => decide (t.nm = a)) with
        | none => rw [List.find?_eq_none] at hf; exact absurd e (hf t ht)
        | some x => exact ⟨x, List.mem_of_find?_eq_some hf, rfl⟩
      obtain ⟨i, hi, rfl⟩ := List.mem_iff_getElem.1 hx
      have hd := up_at hi hdp
      unfold deepAt deepOk at hd
      rw [getD_at ts i _ hi] at hd
      simp only [decide_eq_true_eq] at hd
      have e5 : climb ts (m + 1) a = climb ts (m - 4) (climb ts 4 (over ts a)) := by
        show climb ts m (over ts a) = _
        rw [← climb_add]; congr 1; omega
      rw [hc, hxt, empty_of_size _ hd, climb_nothing hup] at e5
      rw [e5] at hb
      exact hb rfl
  · exact h4
theorem under_trans {ts : List Tm} (hok : teamsOk ts = true) {a b c : ByteArray} (h : under ts 4 a b = true) (k : under ts 4 b c = true) : under ts 4 a c = true := by
  obtain ⟨m, _, hm⟩ := (under_upIn ts 4 a b).1 h
  obtain ⟨n, _, hn⟩ := (under_upIn ts 4 b c).1 k
  have hs := upIn_add ts m n hm hn
  exact (under_upIn ts 4 a c).2 ⟨m + n, upIn_few hok _ hs, hs⟩

/-- What meets a rule that meets another one's own meets that. -/
theorem meets_trans {ts : List Tm} (hok : teamsOk ts = true) {q r : Rl} {kd tm nm : ByteArray} (h : meets ts q r.kd r.tm r.px = true) (k : meets ts r kd tm nm = true) : meets ts q kd tm nm = true := by
  have hup : up (teamAt ts) ts.length = true := by unfold teamsOk at hok; simp only [Bool.and_eq_true] at hok; exact hok.2.1
  unfold meets at h k ⊢
  simp only [Bool.and_eq_true, Bool.or_eq_true, decide_eq_true_eq] at h k ⊢
  refine ⟨?_, ?_, begins_trans k.2.2 h.2.2⟩
  · rcases h.1 with h1 | h1
    · exact Or.inl h1
    · rcases k.1 with k1 | k1
      · exact Or.inl (by rw [h1]; exact k1)
      · exact Or.inr (h1.trans k1)
  · rcases h.2.1 with h1 | h1
    · exact Or.inl h1
    · rcases k.2.1 with k1 | k1
      · cases hq : q.tm.toList.isEmpty with
        | true => exact Or.inl rfl
        | false =>
          exfalso
          have h0 : r.tm = ByteArray.empty := empty_of_size _ (by rw [isEmpty_of_size] at k1; simpa using k1)
          rw [h0, under_empty hup 4 q.tm (by rw [isEmpty_of_size] at hq; simpa using hq)] at h1
          cases h1
      · exact Or.inr (under_trans hok k1 h1)

theorem covers_iff {ts : List Tm} {rs : List Rl} {r : Rl} : covers ts rs r = true ↔ teamsOk ts = true ∧ ruleOk r = true ∧ rulesOk rs = true ∧ ∀ v ∈ r.vs, ∃ q ∈ rs, hasVerb q.vs v = true ∧ meets ts q r.kd r.tm r.px = true := by
  unfold covers allOk
  simp only [Bool.and_eq_true]
  constructor
  · rintro ⟨⟨h1, h2, h3⟩, h4⟩
    have hv : verbsOk r.vs = true := by unfold ruleOk at h2; simp only [Bool.and_eq_true] at h2; exact h2.2.1
    refine ⟨h1, h2, h3, fun v hvm => ?_⟩
    obtain ⟨q, hq, hc⟩ := List.any_eq_true.1 ((left_zero_iff rs hv).1 h4 v hvm)
    unfold covs at hc
    simp only [Bool.and_eq_true] at hc
    exact ⟨q, hq, hc.1, hc.2⟩
  · rintro ⟨h1, h2, h3, h4⟩
    have hv : verbsOk r.vs = true := by unfold ruleOk at h2; simp only [Bool.and_eq_true] at h2; exact h2.2.1
    refine ⟨⟨h1, h2, h3⟩, (left_zero_iff rs hv).2 (fun v hvm => ?_)⟩
    obtain ⟨q, hq, hc⟩ := h4 v hvm
    exact List.any_eq_true.2 ⟨q, hq, by unfold covs; rw [hc.1, hc.2]; rfl⟩

/-- Covering is sound: what a covered rule allows one of the rules allows. -/
theorem covers_sound {ts : List Tm} {rs : List Rl} {r : Rl} {a : Ac} (h : covers ts rs r = true) (ha : allows ts r a = true) : ∃ q ∈ rs, allows ts q a = true := by
  obtain ⟨h1, _, h3, h4⟩ := covers_iff.1 h
  unfold allows allowsOf at ha
  simp only [Bool.and_eq_true] at ha
  have hm : a.vb ∈ r.vs := by
    have := ha.2.2.1
    unfold hasVerb at this
    obtain ⟨x, hx, e⟩ := List.any_eq_true.1 this
    simp only [decide_eq_true_eq] at e
    rw [← e]; exact hx
  obtain ⟨q, hq, hv, hme⟩ := h4 _ hm
  refine ⟨q, hq, ?_⟩
  unfold allows allowsOf
  unfold rulesOk at h3
  rw [h1, List.all_eq_true.1 h3 q hq, hv, meets_trans h1 hme ha.2.2.2]; rfl

/-- Covering leads on: what is covered by rules that are covered is covered. -/
theorem covers_trans {ts : List Tm} {rs os : List Rl} {r : Rl} (h : covers ts rs r = true) (k : ∀ q ∈ rs, covers ts os q = true) : covers ts os r = true := by
  obtain ⟨h1, h2, h3, h4⟩ := covers_iff.1 h
  have hne : ∃ v, v ∈ r.vs := by
    unfold ruleOk verbsOk at h2
    simp only [Bool.and_eq_true, decide_eq_true_eq] at h2
    exact ⟨_, List.getElem_mem h2.2.1.1⟩
  refine covers_iff.2 ⟨h1, h2, ?_, fun v hv => ?_⟩
  · obtain ⟨v, hv⟩ := hne
    obtain ⟨q, hq, _⟩ := h4 v hv
    exact (covers_iff.1 (k q hq)).2.2.1
  · obtain ⟨q, hq, hvq, hme⟩ := h4 v hv
    have hm : v ∈ q.vs := by
      unfold hasVerb at hvq
      obtain ⟨x, hx, e⟩ := List.any_eq_true.1 hvq
      simp only [decide_eq_true_eq] at e
      rw [← e]; exact hx
    obtain ⟨o, ho, hvo, hmo⟩ := (covers_iff.1 (k q hq)).2.2.2 v hm
    exact ⟨o, ho, hvo, meets_trans h1 hmo hme⟩

end Gate
end Go.Proofs.YtackfmeepggedaaDoor
