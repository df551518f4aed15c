import Derived.Test.YtpmlngcljbkchaaGreatM08
import Derived.Deep.RegionWith
import Derived.Test.YtpmlngcljbkchaaGreatM07
import Derived.Deep.RegionHeld3
import Derived.Test.YtpmlngcljbkchaaGreatM06
namespace Go.Proofs.YtpmlngcljbkchaaGreat
open Go.RowKit

set_option maxHeartbeats 2000000 in
theorem eqGateFieldS_yes (a a' : Option Addr) (cap cap' : Nat) (fs : List Fld) (w : World) (hw : FldsAt w a fs) (hw' : FldsAt w a' fs) :
    Calls Tryz.prog 76 #[.slice a fs.length cap, .slice a' fs.length cap'] w fun e w' => e = .returned (.bool true) ∧ Below w.heap.size w w' := by
  have hl := hw.len
  unfold maxLen at hl
  have hnn : ((fs.length : Int) != fs.length) = false := by simp
  go_enter Tryz.func76, Tryz.ntmps76
  go_wp2_with fail
  go_loopw [5] (fun i wr => ∃ k : Nat, k ≤ fs.length ∧ i = .int .i64 k ∧ Below w.heap.size w wr) (fun i _ => fs.length - (intOf i).toNat)
  case atStart => exact ⟨0, Nat.zero_le _, rfl, Below.refl _ _⟩
  case round =>
    obtain ⟨k, hk, rfl, hB⟩ := hrel
    by_cases hlt : k < fs.length
    · obtain ⟨b, off, rfl, hb, hr⟩ := hw.rows (by rintro rfl; simp at hlt)
      obtain ⟨b', off', rfl, hb', hr'⟩ := hw'.rows (by rintro rfl; simp at hlt)
      obtain ⟨wa, wcap, hf0⟩ := hr k hlt
      obtain ⟨wa', wcap', hf0'⟩ := hr' k hlt
      have hf := hf0.mono hb hB
      have hf' := hf0'.mono hb' hB
      obtain ⟨c0, c1, c2, c3, c4, c5, c6, c7, c8, c9, c10⟩ := hf.load
      obtain ⟨d0, d1, d2, d3, d4, d5, d6, d7, d8, d9, d10⟩ := hf'.load
      have hst := hf.strs
      have hst' := hf'.strs
      have hltI : (k : Int) < (fs.length : Int) := by omega
      clear hw hw' hr hr' hf0 hf0' hf hf'
      go_wp2_with fail
      go_region_with (go_at_call 101; refine (eqGateField_yes _ _ _ _ _ _ _ _ _ _ _ _ _ _ _ _ (by exact hst.mono ((Below.refl _ _).drew)) (by exact hst'.mono ((Below.refl _ _).drew))).mono ?_; rintro e w1 ⟨rfl, hb1'⟩; have hb1 := (Below.refl wr.heap.size wr).drew.trans hb1'; clear hb1')
      all_goals go_wp2_with fail
      all_goals exact ⟨⟨k + 1, by omega, by go_num, hB.trans (hb1.mono hB.size)⟩, by simp [intOf]; omega⟩
    · clear hw hw'
      go_wp2_with fail
      go_ret
      exact ⟨rfl, hB⟩

set_option maxHeartbeats 1000000 in
theorem eqGateShape_yes (kd : ByteArray) (a a' : Option Addr) (cap cap' : Nat) (fs : List Fld) (w : World) (hw : FldsAt w a fs) (hw' : FldsAt w a' fs) :
    Calls Tryz.prog 55 #[.agg #[.string kd, .slice a fs.length cap], .agg #[.string kd, .slice a' fs.length cap']] w fun e w' => e = .returned (.bool true) ∧ Below w.heap.size w w' := by
  go_enter Tryz.func55, Tryz.ntmps55
  go_wp2_with fail
  refine (eqGateFieldS_yes _ _ _ _ _ _ (hw.mono (below2' _ _ _)) (hw'.mono (below2' _ _ _))).mono ?_
  rintro e w1 ⟨rfl, hb1⟩
  go_wp2_with fail
  go_ret
  exact ⟨rfl, (below2' _ _ _).trans (hb1.mono (by simp; omega))⟩

set_option maxHeartbeats 2000000 in
theorem eqGateShapeS_yes (a a' : Option Addr) (cap cap' : Nat) (ss : List Shp) (w : World) (hw : ShpsAt w a ss) (hw' : ShpsAt w a' ss) :
    Calls Tryz.prog 26 #[.slice a ss.length cap, .slice a' ss.length cap'] w fun e w' => e = .returned (.bool true) ∧ Below w.heap.size w w' := by
  have hl := hw.len
  unfold maxLen at hl
  have hnn : ((ss.length : Int) != ss.length) = false := by simp
  go_enter Tryz.func26, Tryz.ntmps26
  go_wp2_with fail
  go_loopw [5] (fun i wr => ∃ k : Nat, k ≤ ss.length ∧ i = .int .i64 k ∧ Below w.heap.size w wr) (fun i _ => ss.length - (intOf i).toNat)
  case atStart => exact ⟨0, Nat.zero_le _, rfl, Below.refl _ _⟩
  case round =>
    obtain ⟨k, hk, rfl, hB⟩ := hrel
    by_cases hlt : k < ss.length
    · obtain ⟨b, off, rfl, hb, hr⟩ := hw.rows (by rintro rfl; simp at hlt)
      obtain ⟨b', off', rfl, hb', hr'⟩ := hw'.rows (by rintro rfl; simp at hlt)
      obtain ⟨wa, wcap, hf0⟩ := hr k hlt
      obtain ⟨wa', wcap', hf0'⟩ := hr' k hlt
      have hf := hf0.mono hb hB
      have hf' := hf0'.mono hb' hB
      have c0 := hf.kind
      have c1 := hf.list
      have d0 := hf'.kind
      have d1 := hf'.list
      have hst := hf.flds
      have hst' := hf'.flds
      have hltI : (k : Int) < (ss.length : Int) := by omega
      clear hw hw' hr hr' hf0 hf0' hf hf'
      go_wp2_with fail
      go_region_with (go_at_call 55; refine (eqGateShape_yes _ _ _ _ _ _ _ (by exact hst.mono ((Below.refl _ _).drew)) (by exact hst'.mono ((Below.refl _ _).drew))).mono ?_; rintro e w1 ⟨rfl, hb1'⟩; have hb1 := (Below.refl wr.heap.size wr).drew.trans hb1'; clear hb1')
      all_goals go_wp2_with fail
      all_goals exact ⟨⟨k + 1, by omega, by go_num, hB.trans (hb1.mono hB.size)⟩, by simp [intOf]; omega⟩
    · clear hw hw'
      go_wp2_with fail
      go_ret
      exact ⟨rfl, hB⟩

end Go.Proofs.YtpmlngcljbkchaaGreat

namespace Go.Proofs.YtpmlngcljbkchaaGreat
open Go.RowKit

theorem shps_few {ss : List Shp} (h : (shpsSz ss : Int) ≤ 1048576) : ss.length ≤ 1048576 ∧ ∀ i (h : i < ss.length), ss[i].fs.length ≤ 1048576 ∧ ∀ j (h' : j < ss[i].fs.length), ss[i].fs[j].ws.length ≤ 1048576 := by
  unfold shpsSz at h
  refine ⟨by omega, fun i hi => ?_⟩
  have h1 : Shp.sz ss[i] ≤ sumS ss := sum_mem Shp.sz ss i hi
  unfold Shp.sz fldsSz at h1
  refine ⟨by omega, fun j hj => ?_⟩
  have h2 : Fld.sz ss[i].fs[j] ≤ sumF ss[i].fs := sum_mem Fld.sz ss[i].fs j hj
  unfold Fld.sz fldSz strsSz at h2
  omega

end Go.Proofs.YtpmlngcljbkchaaGreat

namespace Go.Proofs.YtpmlngcljbkchaaGreat
open Go.RowKit

def Mnd.sz (m : Mnd) : Nat := m.kd.size + m.fd.size + m.wh.size + m.wi.size + m.pt.size + m.fr.size
def sumM (ms : List Mnd) : Nat := (ms.map Mnd.sz).sum
def mndsSz (ms : List Mnd) : Nat := ms.length + sumM ms

set_option maxHeartbeats 1000000 in
theorem szGateMend_any (m : Mnd) (left : Int) (w : World) (hm : m.Small) (h0 : 0 ≤ left) (h1 : left ≤ 1048576) :
    Calls Tryz.prog 32 #[.agg m.cells, .int .i64 left] w fun e w' => e = .returned (.int .i64 (szRes m.sz left)) ∧ Below w.heap.size w w' := by
  have k1 := hm.kd
  have k2 := hm.fd
  have k3 := hm.wh
  have k4 := hm.wi
  have k5 := hm.pt
  have k6 := hm.fr
  unfold maxLen at k1 k2 k3 k4 k5 k6
  unfold Mnd.cells
  have hB : ∀ ob, Below w.heap.size w (w.alloc ob) := fun ob => (Below.refl _ _).alloc (Nat.le_refl _) _
  by_cases hf : (m.sz : Int) ≤ left
  · have HF : Hid (szRes m.sz left = left - m.kd.size - m.fd.size - m.wh.size - m.wi.size - m.pt.size - m.fr.size) := by
      unfold Hid; rw [szRes_yes hf]; unfold Mnd.sz; omega
    unfold Mnd.sz at hf
    go_enter Tryz.func32, Tryz.ntmps32
    go_wp2_with fail
    go_ret
    exact ⟨ret_int HF.out.symm, hB _⟩
  · have HF : Hid (szRes m.sz left = -1) := szRes_no hf
    have HN : Hid (¬ ((m.kd.size + m.fd.size + m.wh.size + m.wi.size + m.pt.size + m.fr.size : Nat) : Int) ≤ left) := hf
    clear hf
    go_enter Tryz.func32, Tryz.ntmps32
    go_wp2_with fail
    all_goals go_ret
    all_goals first | exact ⟨ret_int HF.out.symm, hB _⟩ | (exfalso; have := HN.out; simp at *; omega)

theorem szGateMend_yes (m : Mnd) (left : Int) (w : World) (hm : m.Small) (h0 : 0 ≤ left) (h1 : left ≤ 1048576) (h : (m.sz : Int) ≤ left) :
    Calls Tryz.prog 32 #[.agg m.cells, .int .i64 left] w fun e w' => e = .returned (.int .i64 (left - m.sz)) ∧ Below w.heap.size w w' := by
  refine (szGateMend_any m left w hm h0 h1).mono ?_
  rintro e w' ⟨rfl, hb⟩
  exact ⟨ret_int (szRes_yes h), hb⟩

theorem szGateMend_no (m : Mnd) (left : Int) (w : World) (hm : m.Small) (h0 : 0 ≤ left) (h1 : left ≤ 1048576) (h : ¬ (m.sz : Int) ≤ left) :
    Calls Tryz.prog 32 #[.agg m.cells, .int .i64 left] w fun e w' => e = .returned (.int .i64 (-1)) ∧ Below w.heap.size w w' := by
  refine (szGateMend_any m left w hm h0 h1).mono ?_
  rintro e w' ⟨rfl, hb⟩
  exact ⟨ret_int (szRes_no h), hb⟩

set_option maxHeartbeats 1000000 in
theorem szGateMendS_any (a : Option Addr) (cap : Nat) (ms : List Mnd) (left : Int) (w : World) (hw : MndsAt w a ms) (h0 : 0 ≤ left) (h1 : left ≤ 1048576) :
    Calls Tryz.prog 13 #[.slice a ms.length cap, .int .i64 left] w fun e w' => e = .returned (.int .i64 (szRes (mndsSz ms) left)) ∧ Below w.heap.size w w' := by
  have hl := hw.len
  unfold maxLen at hl
  by_cases hfit : (ms.length : Int) ≤ left
  · go_enter Tryz.func13, Tryz.ntmps13
    go_wp2_with fail
    go_loopw [1, 5] (fun l i wr => ∃ k : Nat, k ≤ ms.length ∧ i = .int .i64 k ∧ 0 ≤ left - ms.length - sumM (ms.take k) ∧ l = .int .i64 (left - ms.length - sumM (ms.take k)) ∧ Below w.heap.size w wr) (fun _ i _ => ms.length - (intOf i).toNat)
    case atStart => exact ⟨0, Nat.zero_le _, rfl, by simp [sumM]; omega, by simp [sumM], Below.refl _ _⟩
    case round =>
      obtain ⟨k, hk, rfl, hpos, rfl, hB⟩ := hrel
      by_cases hlt : k < ms.length
      · obtain ⟨b, off, rfl, hb, c0, c1, c2, c3, c4, c5⟩ := hw.load hB k hlt
        have hsm := hw.small k hlt
        have HS : Hid (sumM (ms.take (k + 1)) = sumM (ms.take k) + ms[k].sz) := sum_snoc Mnd.sz ms k hlt
        have hle : sumM (ms.take (k + 1)) ≤ sumM ms := sum_le Mnd.sz ms (k + 1)
        clear hw
        by_cases hneg : (ms[k].sz : Int) ≤ left - ms.length - sumM (ms.take k)
        · have HNG : Hid ((ms[k].sz : Int) ≤ left - ms.length - sumM (ms.take k)) := hneg
          clear hle
          go_wp2_with fail
          refine (szGateMend_yes _ _ _ hsm hpos (by omega) HNG.out).mono ?_
          rintro e w1 ⟨rfl, hb1⟩
          have hB1 := hB.trans (hb1.mono hB.size)
          clear hb1
          go_wp2_with fail
          exact ⟨⟨k + 1, by omega, by go_num, by rw [HS.out]; omega, by rw [HS.out]; congr 1; omega, hB1⟩, by simp [intOf]; omega⟩
        · have HF : Hid (szRes (mndsSz ms) left = -1) := szRes_no (by have := HS.out; unfold mndsSz; omega)
          have HNG : Hid (¬ (ms[k].sz : Int) ≤ left - ms.length - sumM (ms.take k)) := hneg
          clear hneg hle
          go_wp2_with fail
          refine (szGateMend_no _ _ _ hsm hpos (by omega) (by have := HNG.out; omega)).mono ?_
          rintro e w1 ⟨rfl, hb1⟩
          have hB1 := hB.trans (hb1.mono hB.size)
          clear hb1
          go_wp2_with fail
          go_ret
          exact ⟨ret_int HF.out.symm, hB1⟩
      · have HF : Hid (szRes (mndsSz ms) left = left - ms.length - sumM (ms.take k)) := by
          rw [List.take_of_length_le (by omega)] at hpos ⊢
          have e : szRes (mndsSz ms) left = left - mndsSz ms := szRes_yes (by unfold mndsSz; omega)
          unfold Hid; rw [e]; unfold mndsSz; omega
        clear hw
        go_wp2
        go_ret
        exact ⟨ret_int HF.out.symm, hB⟩
  · have HF : Hid (szRes (mndsSz ms) left = -1) := szRes_no (by unfold mndsSz; omega)
    clear hw
    go_enter Tryz.func13, Tryz.ntmps13
    go_wp2
    go_ret
    exact ⟨ret_int HF.out.symm, Below.refl _ _⟩

theorem eqGateMend_yes (m : Mnd) (w : World) : Calls Tryz.prog 56 #[.agg m.cells, .agg m.cells] w fun e w' => e = .returned (.bool true) ∧ Below w.heap.size w w' := by
  unfold Mnd.cells
  go_enter Tryz.func56, Tryz.ntmps56
  go_wp2_with fail
  go_ret
  exact ⟨rfl, below2' _ _ _⟩

set_option maxHeartbeats 2000000 in
theorem eqGateMendS_yes (a a' : Option Addr) (cap cap' : Nat) (ms : List Mnd) (w : World) (hw : MndsAt w a ms) (hw' : MndsAt w a' ms) :
    Calls Tryz.prog 27 #[.slice a ms.length cap, .slice a' ms.length cap'] w fun e w' => e = .returned (.bool true) ∧ Below w.heap.size w w' := by
  have hl := hw.len
  unfold maxLen at hl
  have hnn : ((ms.length : Int) != ms.length) = false := by simp
  go_enter Tryz.func27, Tryz.ntmps27
  go_wp2_with fail
  go_loopw [5] (fun i wr => ∃ k : Nat, k ≤ ms.length ∧ i = .int .i64 k ∧ Below w.heap.size w wr) (fun i _ => ms.length - (intOf i).toNat)
  case atStart => exact ⟨0, Nat.zero_le _, rfl, Below.refl _ _⟩
  case round =>
    obtain ⟨k, hk, rfl, hB⟩ := hrel
    by_cases hlt : k < ms.length
    · obtain ⟨b, off, rfl, hb, c0, c1, c2, c3, c4, c5⟩ := hw.load hB k hlt
      obtain ⟨b', off', rfl, hb', d0, d1, d2, d3, d4, d5⟩ := hw'.load hB k hlt
      have hltI : (k : Int) < (ms.length : Int) := by omega
      clear hw hw'
      go_wp2_with fail
      go_region_with (go_at_call 56; refine (eqGateMend_yes ms[k] _).mono ?_; rintro e w1 ⟨rfl, hb1'⟩; have hb1 := (Below.refl wr.heap.size wr).drew.trans hb1'; clear hb1')
      all_goals go_wp2_with fail
      all_goals exact ⟨⟨k + 1, by omega, by go_num, hB.trans (hb1.mono hB.size)⟩, by simp [intOf]; omega⟩
    · clear hw hw'
      go_wp2_with fail
      go_ret
      exact ⟨rfl, hB⟩

/-- A row of mends in memory of its own, the first k laid. -/
structure MndsOwn (lo : Nat) (w : World) (bo : Nat) (ms : List Mnd) (k : Nat) : Prop where
  low : lo ≤ bo
  rows : ∃ C, w.heap[bo]? = some (.cells C 90) ∧ C.size = ms.length * 6 ∧ ∀ i (h : i < ms.length), i < k → ∀ j, j < 6 → C[i * 6 + j]? = ms[i].cells[j]?

theorem MndsOwn.at {lo : Nat} {w : World} {bo : Nat} {ms : List Mnd} (h : MndsOwn lo w bo ms ms.length) (hs : ∀ i (h : i < ms.length), ms[i].Small) (hl : ms.length ≤ maxLen) : MndsAt w (some ⟨bo, 0, none⟩) ms := by
  obtain ⟨C, hC, hsz, hr⟩ := h.rows
  refine ⟨hl, hs, fun _ => ⟨bo, 0, rfl, (Array.getElem?_eq_some_iff.1 hC).1, fun i hi j hj => ?_⟩⟩
  rw [cell_of_block hC, Nat.zero_add]
  exact hr i hi hi j hj

theorem MndsOwn.later {lo : Nat} {w w' : World} {bo : Nat} {ms : List Mnd} {k : Nat} (h : MndsOwn lo w bo ms k) (hb : Below w.heap.size w w') : MndsOwn lo w' bo ms k := by
  obtain ⟨C, hC, hsz, hr⟩ := h.rows
  exact ⟨h.low, C, (hb.block bo (Array.getElem?_eq_some_iff.1 hC).1).trans hC, hsz, hr⟩

end Go.Proofs.YtpmlngcljbkchaaGreat

namespace Go.Proofs.YtpmlngcljbkchaaGreat
open Go.RowKit

def Tm.cells (m : Tm) : Array Value := #[.string m.nm, .string m.ov]

structure Tm.Small (m : Tm) : Prop where
  nm : m.nm.size ≤ maxLen
  ov : m.ov.size ≤ maxLen

/-- A slice of teams that lies in memory. -/
structure TmsAt (w : World) (a : Option Addr) (ts : List Tm) : Prop where
  len : ts.length ≤ maxLen
  small : ∀ i (h : i < ts.length), ts[i].Small
  rows : ts ≠ [] → ∃ b off, a = some ⟨b, off, none⟩ ∧ b < w.heap.size ∧ ∀ i (h : i < ts.length), ∀ j, j < 2 → w.cell? ⟨b, off + i * 2 + j, none⟩ = ts[i].cells[j]?

theorem TmsAt.mono {w w' : World} {a : Option Addr} {ts : List Tm} (h : TmsAt w a ts) (hl : Below w.heap.size w w') : TmsAt w' a ts :=
  ⟨h.len, h.small, fun hne => by
    obtain ⟨b, off, ha, hb, hr⟩ := h.rows hne
    exact ⟨b, off, ha, Nat.lt_of_lt_of_le hb hl.size, fun i hi j hj => (hl.cell (p := ⟨b, off + i * 2 + j, none⟩) hb).trans (hr i hi j hj)⟩⟩

/-- The two cells of a team, in a later world. -/
theorem TmsAt.load {w w' : World} {a : Option Addr} {ts : List Tm} (h : TmsAt w a ts) (hl : Below w.heap.size w w') (i : Nat) (hi : i < ts.length) : ∃ b off, a = some ⟨b, off, none⟩ ∧ b < w.heap.size ∧
    w'.cell? ⟨b, off + i * 2, none⟩ = some (.string ts[i].nm) ∧ w'.cell? ⟨b, off + i * 2 + 1, none⟩ = some (.string ts[i].ov) := by
  obtain ⟨b, off, ha, hb, hr⟩ := h.rows (by rintro rfl; simp at hi)
  have hc : ∀ j, j < 2 → w'.cell? ⟨b, off + i * 2 + j, none⟩ = ts[i].cells[j]? := fun j hj => (hl.cell (p := ⟨b, off + i * 2 + j, none⟩) hb).trans (hr i hi j hj)
  exact ⟨b, off, ha, hb, hc 0 (by omega), hc 1 (by omega)⟩

def Tm.sz (m : Tm) : Nat := m.nm.size + m.ov.size
def sumT (ts : List Tm) : Nat := (ts.map Tm.sz).sum
def tmsSz (ts : List Tm) : Nat := ts.length + sumT ts

def put2 (w : World) (b o : Nat) (v0 v1 : Value) : World := (w.setCell ⟨b, o, none⟩ v0).setCell ⟨b, o + 1, none⟩ v1
def set2 (C : Array Value) (o : Nat) (v0 v1 : Value) : Array Value := (C.setIfInBounds o v0).setIfInBounds (o + 1) v1
theorem put2_block {w : World} {b o : Nat} {C : Array Value} {t : TypeId} (h : w.heap[b]? = some (.cells C t)) (v0 v1 : Value) : (put2 w b o v0 v1).heap[b]? = some (.cells (set2 C o v0 v1) t) :=
  heap_setCell_at (heap_setCell_at h v0) v1
theorem put2_below {B : Nat} {a w : World} (h : Below B a w) {b : Nat} (hb : B ≤ b) (o : Nat) (v0 v1 : Value) : Below B a (put2 w b o v0 v1) :=
  (h.setCell hb v0).setCell hb v1
theorem set2_size (C : Array Value) (o : Nat) (v0 v1 : Value) : (set2 C o v0 v1).size = C.size := by simp [set2]
theorem set2_out (C : Array Value) (o i : Nat) (v0 v1 : Value) (h : i < o ∨ o + 2 ≤ i) : (set2 C o v0 v1)[i]? = C[i]? := by
  unfold set2
  iterate 2 rw [Array.getElem?_setIfInBounds, if_neg (by omega)]
theorem set2_in (C : Array Value) (o j : Nat) (v0 v1 : Value) (hj : j < 2) (ho : o + 2 ≤ C.size) : (set2 C o v0 v1)[o + j]? = (#[v0, v1] : Array Value)[j]? := by
  have hc : j = 0 ∨ j = 1 := by omega
  unfold set2
  rcases hc with h | h <;> subst h <;> simp [Array.getElem?_setIfInBounds] <;> omega

/-- A row of teams in memory of its own, the first k laid. -/
structure TmsOwn (ty : TypeId) (lo : Nat) (w : World) (bo : Nat) (ts : List Tm) (k : Nat) : Prop where
  low : lo ≤ bo
  rows : ∃ C, w.heap[bo]? = some (.cells C ty) ∧ C.size = ts.length * 2 ∧ ∀ i (h : i < ts.length), i < k → ∀ j, j < 2 → C[i * 2 + j]? = ts[i].cells[j]?

theorem TmsOwn.at {ty : TypeId} {lo : Nat} {w : World} {bo : Nat} {ts : List Tm} (h : TmsOwn ty lo w bo ts ts.length) (hs : ∀ i (h : i < ts.length), ts[i].Small) (hl : ts.length ≤ maxLen) : TmsAt w (some ⟨bo, 0, none⟩) ts := by
  obtain ⟨C, hC, hsz, hr⟩ := h.rows
  refine ⟨hl, hs, fun _ => ⟨bo, 0, rfl, (Array.getElem?_eq_some_iff.1 hC).1, fun i hi j hj => ?_⟩⟩
  rw [cell_of_block hC, Nat.zero_add]
  exact hr i hi hi j hj

theorem TmsOwn.later {ty : TypeId} {lo : Nat} {w w' : World} {bo : Nat} {ts : List Tm} {k : Nat} (h : TmsOwn ty lo w bo ts k) (hb : Below w.heap.size w w') : TmsOwn ty lo w' bo ts k := by
  obtain ⟨C, hC, hsz, hr⟩ := h.rows
  exact ⟨h.low, C, (hb.block bo (Array.getElem?_eq_some_iff.1 hC).1).trans hC, hsz, hr⟩

theorem TmsOwn.put {ty : TypeId} {lo : Nat} {w : World} {bo : Nat} {ts : List Tm} {k : Nat} (h : TmsOwn ty lo w bo ts k) (hk : k < ts.length) :
    TmsOwn ty lo (put2 w bo (k * 2) (.string ts[k].nm) (.string ts[k].ov)) bo ts (k + 1) := by
  obtain ⟨C, hC, hsz, hr⟩ := h.rows
  refine ⟨h.low, _, put2_block hC _ _, by rw [set2_size]; exact hsz, fun i hi hik j hj => ?_⟩
  rcases Nat.lt_or_ge i k with hlt | hge
  · rw [set2_out _ _ _ _ _ (by omega)]
    exact hr i hi hlt j hj
  · have e : i = k := by omega
    subst e
    rw [set2_in _ _ _ _ _ hj (by omega)]
    rfl

def tmZero : Array Value := #[.string ByteArray.empty, .string ByteArray.empty]
def tmsZero (n : Nat) : Array Value := madeCells tmZero (n * 2)

end Go.Proofs.YtpmlngcljbkchaaGreat

namespace Go.Proofs.YtpmlngcljbkchaaGreat

/-- A rule, and an act. -/
structure Rl where
  vs : List Int
  kd : ByteArray
  tm : ByteArray
  px : ByteArray
structure Ac where
  vb : Int
  kd : ByteArray
  tm : ByteArray
  nm : ByteArray

namespace Gate

def verbOk (v : Int) : Bool := decide (1 ≤ v) && decide (v ≤ 5)
def verbAt (vs : List Int) (i : Nat) : Bool := verbOk (vs.getD i 0) && (decide (i = 0) || decide (vs.getD (i - 1) 0 < vs.getD i 0))
def verbsOk (vs : List Int) : Bool := decide (0 < vs.length) && up (verbAt vs) vs.length
def kindsOk (r : Rl) : Bool := (r.kd.toList.isEmpty || nameOk r.kd) && (r.tm.toList.isEmpty || nameOk r.tm)
def ruleOk (r : Rl) : Bool := kindsOk r && (verbsOk r.vs && (decide (r.px.size ≤ 16) && allName r.px))
def rulesOk (rs : List Rl) : Bool := rs.all ruleOk

def begins (s p : ByteArray) : Bool := decide (p.size ≤ s.size) && ((s.extract 0 p.size).toList == p.toList)
/-- What a rule is held to besides its verbs. -/
def meets (ts : List Tm) (r : Rl) (kd tm nm : ByteArray) : Bool := (r.kd.toList.isEmpty || decide (r.kd = kd)) && ((r.tm.toList.isEmpty || under ts 4 tm r.tm) && begins nm r.px)
def hasVerb (vs : List Int) (v : Int) : Bool := vs.any fun x => decide (x = v)
def allowsOf (ts : List Tm) (r : Rl) (a : Ac) : Bool := hasVerb r.vs a.vb && meets ts r a.kd a.tm a.nm
def allows (ts : List Tm) (r : Rl) (a : Ac) : Bool := teamsOk ts && (ruleOk r && allowsOf ts r a)

theorem hasVerb_snoc (vs : List Int) (v : Int) (k : Nat) (h : k < vs.length) : hasVerb (vs.take (k + 1)) v = (hasVerb (vs.take k) v || decide (vs[k] = v)) := by
  unfold hasVerb; rw [List.take_succ_eq_append_getElem h, List.any_append]; simp
theorem hasVerb_at (vs : List Int) (v : Int) (k : Nat) (h : k < vs.length) (e : vs[k] = v) : hasVerb vs v = true := by
  unfold hasVerb; rw [List.any_eq_true]; exact ⟨vs[k], List.getElem_mem h, by simpa using e⟩
theorem hasVerb_all (vs : List Int) (v : Int) (k : Nat) (h : vs.length ≤ k) : hasVerb (vs.take k) v = hasVerb vs v := by rw [List.take_of_length_le h]

theorem verbsOk_at {vs : List Int} (h : verbsOk vs = true) (i : Nat) (hi : i < vs.length) : 1 ≤ vs[i] ∧ vs[i] ≤ 5 := by
  unfold verbsOk at h
  rw [Bool.and_eq_true] at h
  have h1 := up_at hi h.2
  unfold verbAt at h1
  rw [getD_at vs i _ hi, Bool.and_eq_true] at h1
  have h2 := h1.1
  simpa [verbOk] using h2

theorem hasVerb_given {vs : List Int} (h : verbsOk vs = true) (v : Int) (hv : hasVerb vs v = true) : 1 ≤ v ∧ v ≤ 5 := by
  unfold hasVerb at hv
  rw [List.any_eq_true] at hv
  obtain ⟨x, hx, he⟩ := hv
  obtain ⟨i, hi, rfl⟩ := List.mem_iff_getElem.1 hx
  have := verbsOk_at h i hi
  have e : vs[i] = v := by simpa using he
  rw [e] at this; exact this

/-- A set of verbs, a bit each. -/
def bits5 (a b c d e : Bool) : Int := (cond a 2 0) + (cond b 4 0) + (cond c 8 0) + (cond d 16 0) + (cond e 32 0)
def bitsOf (f : Int → Bool) : Int := bits5 (f 1) (f 2) (f 3) (f 4) (f 5)
def orI (x y : Int) : Int := bits BinOp.or IntKind.u8 x y
def andI (x y : Int) : Int := bits BinOp.and IntKind.u8 x y
def clrI (x y : Int) : Int := bits BinOp.andNot IntKind.u8 x y
def oneAt (v : Int) : Int := 2 ^ v.toNat % 256

theorem five (P : Int → Prop) (h1 : P 1) (h2 : P 2) (h3 : P 3) (h4 : P 4) (h5 : P 5) (v : Int) (hv : 1 ≤ v ∧ v ≤ 5) : P v := by
  have hc : v = 1 ∨ v = 2 ∨ v = 3 ∨ v = 4 ∨ v = 5 := by omega
  rcases hc with rfl | rfl | rfl | rfl | rfl <;> assumption

theorem bits_congr {f g : Int → Bool} (h : ∀ v, 1 ≤ v ∧ v ≤ 5 → f v = g v) : bitsOf f = bitsOf g := by
  unfold bitsOf; rw [h 1 (by omega), h 2 (by omega), h 3 (by omega), h 4 (by omega), h 5 (by omega)]

theorem or_all : ∀ a b c d e : Bool, orI (bits5 a b c d e) (oneAt 1) = bits5 (a || true) (b || false) (c || false) (d || false) (e || false) ∧ orI (bits5 a b c d e) (oneAt 2) = bits5 (a || false) (b || true) (c || false) (d || false) (e || false) ∧
    orI (bits5 a b c d e) (oneAt 3) = bits5 (a || false) (b || false) (c || true) (d || false) (e || false) ∧ orI (bits5 a b c d e) (oneAt 4) = bits5 (a || false) (b || false) (c || false) (d || true) (e || false) ∧ orI (bits5 a b c d e) (oneAt 5) = bits5 (a || false) (b || false) (c || false) (d || false) (e || true) := by decide +kernel
theorem and_all : ∀ a b c d e : Bool, (andI (bits5 a b c d e) (oneAt 1) != 0) = a ∧ (andI (bits5 a b c d e) (oneAt 2) != 0) = b ∧ (andI (bits5 a b c d e) (oneAt 3) != 0) = c ∧ (andI (bits5 a b c d e) (oneAt 4) != 0) = d ∧ (andI (bits5 a b c d e) (oneAt 5) != 0) = e := by decide +kernel
theorem clr_all : ∀ a b c d e a' b' c' d' e' : Bool, clrI (bits5 a b c d e) (bits5 a' b' c' d' e') = bits5 (a && !a') (b && !b') (c && !c') (d && !d') (e && !e') := by decide +kernel
theorem zero_all : ∀ a b c d e : Bool, (bits5 a b c d e == 0) = !(a || b || c || d || e) := by decide +kernel
theorem range_all : ∀ a b c d e : Bool, 0 ≤ bits5 a b c d e ∧ bits5 a b c d e ≤ 62 := by decide +kernel

theorem bits_or (f : Int → Bool) (v : Int) (hv : 1 ≤ v ∧ v ≤ 5) : orI (bitsOf f) (oneAt v) = bitsOf (fun u => f u || decide (v = u)) := by
  obtain ⟨h1, h2, h3, h4, h5⟩ := or_all (f 1) (f 2) (f 3) (f 4) (f 5)
  exact five (fun v => orI (bitsOf f) (oneAt v) = bitsOf (fun u => f u || decide (v = u))) h1 h2 h3 h4 h5 v hv
theorem bits_and (f : Int → Bool) (v : Int) (hv : 1 ≤ v ∧ v ≤ 5) : (andI (bitsOf f) (oneAt v) != 0) = f v := by
  obtain ⟨h1, h2, h3, h4, h5⟩ := and_all (f 1) (f 2) (f 3) (f 4) (f 5)
  exact five (fun v => (andI (bitsOf f) (oneAt v) != 0) = f v) h1 h2 h3 h4 h5 v hv
theorem bits_clr (f g : Int → Bool) : clrI (bitsOf f) (bitsOf g) = bitsOf (fun v => f v && !g v) := clr_all _ _ _ _ _ _ _ _ _ _
theorem bits_zero (f : Int → Bool) : (bitsOf f == 0) = !(f 1 || f 2 || f 3 || f 4 || f 5) := zero_all _ _ _ _ _
theorem bits_range (f : Int → Bool) : 0 ≤ bitsOf f ∧ bitsOf f ≤ 62 := range_all _ _ _ _ _
theorem bits_none : bitsOf (fun _ => false) = 0 := rfl

end Gate
end Go.Proofs.YtpmlngcljbkchaaGreat
