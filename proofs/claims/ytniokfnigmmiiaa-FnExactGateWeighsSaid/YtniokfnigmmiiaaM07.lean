import Derived.Test.YtniokfnigmmiiaaM06
import Derived.Test.YtniokfnigmmiiaaM03
import Derived.Test.YtniokfnigmmiiaaM04
import Derived.Deep.RegionHeld3
namespace Go.Proofs.Ytniokfnigmmiiaa
open Go.RowKit

def Mnd.sz (m : Mnd) : Nat := m.kd.size + m.fd.size + m.wh.size + m.wi.size + m.pt.size + m.fr.size
def sumM (ms : List Mnd) : Nat := (ms.map Mnd.sz).sum
def mndsSz (ms : List Mnd) : Nat := ms.length + sumM ms

set_option maxHeartbeats 1000000 in
theorem szGateMend_any (m : Mnd) (left : Int) (w : World) (hm : m.Small) (h0 : 0 ≤ left) (h1 : left ≤ 1048576) :
    Calls Try.prog 49 #[.agg m.cells, .int .i64 left] w fun e w' => e = .returned (.int .i64 (szRes m.sz left)) ∧ Below w.heap.size w w' := by
  have k1 := hm.kd
  have k2 := hm.fd
  have k3 := hm.wh
  have k4 := hm.wi
  have k5 := hm.pt
  have k6 := hm.fr
  unfold maxLen at k1 k2 k3 k4 k5 k6
  unfold Mnd.cells
  have hB : ∀ ob, Below w.heap.size w (w.alloc ob) := fun ob => (Below.refl _ _).alloc (Nat.le_refl _) _
  by_cases hf : (m.sz : Int) ≤ left
  · have HF : Hid (szRes m.sz left = left - m.kd.size - m.fd.size - m.wh.size - m.wi.size - m.pt.size - m.fr.size) := by
      unfold Hid; rw [szRes_yes hf]; unfold Mnd.sz; omega
    unfold Mnd.sz at hf
    go_enter Try.func49, Try.ntmps49
    go_wp2_with fail
    go_ret
    exact ⟨ret_int HF.out.symm, hB _⟩
  · have HF : Hid (szRes m.sz left = -1) := szRes_no hf
    have HN : Hid (¬ ((m.kd.size + m.fd.size + m.wh.size + m.wi.size + m.pt.size + m.fr.size : Nat) : Int) ≤ left) := hf
    clear hf
    go_enter Try.func49, Try.ntmps49
    go_wp2_with fail
    all_goals go_ret
    all_goals first | exact ⟨ret_int HF.out.symm, hB _⟩ | (exfalso; have := HN.out; simp at *; omega)

theorem szGateMend_yes (m : Mnd) (left : Int) (w : World) (hm : m.Small) (h0 : 0 ≤ left) (h1 : left ≤ 1048576) (h : (m.sz : Int) ≤ left) :
    Calls Try.prog 49 #[.agg m.cells, .int .i64 left] w fun e w' => e = .returned (.int .i64 (left - m.sz)) ∧ Below w.heap.size w w' := by
  refine (szGateMend_any m left w hm h0 h1).mono ?_
  rintro e w' ⟨rfl, hb⟩
  exact ⟨ret_int (szRes_yes h), hb⟩

theorem szGateMend_no (m : Mnd) (left : Int) (w : World) (hm : m.Small) (h0 : 0 ≤ left) (h1 : left ≤ 1048576) (h : ¬ (m.sz : Int) ≤ left) :
    Calls Try.prog 49 #[.agg m.cells, .int .i64 left] w fun e w' => e = .returned (.int .i64 (-1)) ∧ Below w.heap.size w w' := by
  refine (szGateMend_any m left w hm h0 h1).mono ?_
  rintro e w' ⟨rfl, hb⟩
  exact ⟨ret_int (szRes_no h), hb⟩

set_option maxHeartbeats 1000000 in
theorem szGateMendS_any (a : Option Addr) (cap : Nat) (ms : List Mnd) (left : Int) (w : World) (hw : MndsAt w a ms) (h0 : 0 ≤ left) (h1 : left ≤ 1048576) :
    Calls Try.prog 19 #[.slice a ms.length cap, .int .i64 left] w fun e w' => e = .returned (.int .i64 (szRes (mndsSz ms) left)) ∧ Below w.heap.size w w' := by
  have hl := hw.len
  unfold maxLen at hl
  by_cases hfit : (ms.length : Int) ≤ left
  · go_enter Try.func19, Try.ntmps19
    go_wp2_with fail
    go_loopw [1, 5] (fun l i wr => ∃ k : Nat, k ≤ ms.length ∧ i = .int .i64 k ∧ 0 ≤ left - ms.length - sumM (ms.take k) ∧ l = .int .i64 (left - ms.length - sumM (ms.take k)) ∧ Below w.heap.size w wr) (fun _ i _ => ms.length - (intOf i).toNat)
    case atStart => exact ⟨0, Nat.zero_le _, rfl, by simp [sumM]; omega, by simp [sumM], Below.refl _ _⟩
    case round =>
      obtain ⟨k, hk, rfl, hpos, rfl, hB⟩ := hrel
      by_cases hlt : k < ms.length
      · obtain ⟨b, off, rfl, hb, c0, c1, c2, c3, c4, c5⟩ := hw.load hB k hlt
        have hsm := hw.small k hlt
        have HS : Hid (sumM (ms.take (k + 1)) = sumM (ms.take k) + ms[k].sz) := sum_snoc Mnd.sz ms k hlt
        have hle : sumM (ms.take (k + 1)) ≤ sumM ms := sum_le Mnd.sz ms (k + 1)
        clear hw
        by_cases hneg : (ms[k].sz : Int) ≤ left - ms.length - sumM (ms.take k)
        · have HNG : Hid ((ms[k].sz : Int) ≤ left - ms.length - sumM (ms.take k)) := hneg
          clear hle
          go_wp2_with fail
          refine (szGateMend_yes _ _ _ hsm hpos (by omega) HNG.out).mono ?_
          rintro e w1 ⟨rfl, hb1⟩
          have hB1 := hB.trans (hb1.mono hB.size)
          clear hb1
          go_wp2_with fail
          exact ⟨⟨k + 1, by omega, by go_num, by rw [HS.out]; omega, by rw [HS.out]; congr 1; omega, hB1⟩, by simp [intOf]; omega⟩
        · have HF : Hid (szRes (mndsSz ms) left = -1) := szRes_no (by have := HS.out; unfold mndsSz; omega)
          have HNG : Hid (¬ (ms[k].sz : Int) ≤ left - ms.length - sumM (ms.take k)) := hneg
          clear hneg hle
          go_wp2_with fail
          refine (szGateMend_no _ _ _ hsm hpos (by omega) (by have := HNG.out; omega)).mono ?_
          rintro e w1 ⟨rfl, hb1⟩
          have hB1 := hB.trans (hb1.mono hB.size)
          clear hb1
          go_wp2_with fail
          go_ret
          exact ⟨ret_int HF.out.symm, hB1⟩
      · have HF : Hid (szRes (mndsSz ms) left = left - ms.length - sumM (ms.take k)) := by
          rw [List.take_of_length_le (by omega)] at hpos ⊢
          have e : szRes (mndsSz ms) left = left - mndsSz ms := szRes_yes (by unfold mndsSz; omega)
          unfold Hid; rw [e]; unfold mndsSz; omega
        clear hw
        go_wp2
        go_ret
        exact ⟨ret_int HF.out.symm, hB⟩
  · have HF : Hid (szRes (mndsSz ms) left = -1) := szRes_no (by unfold mndsSz; omega)
    clear hw
    go_enter Try.func19, Try.ntmps19
    go_wp2
    go_ret
    exact ⟨ret_int HF.out.symm, Below.refl _ _⟩

theorem eqGateMend_yes (m : Mnd) (w : World) : Calls Try.prog 58 #[.agg m.cells, .agg m.cells] w fun e w' => e = .returned (.bool true) ∧ Below w.heap.size w w' := by
  unfold Mnd.cells
  go_enter Try.func58, Try.ntmps58
  go_wp2_with fail
  go_ret
  exact ⟨rfl, below2' _ _ _⟩

set_option maxHeartbeats 2000000 in
theorem eqGateMendS_yes (a a' : Option Addr) (cap cap' : Nat) (ms : List Mnd) (w : World) (hw : MndsAt w a ms) (hw' : MndsAt w a' ms) :
    Calls Try.prog 31 #[.slice a ms.length cap, .slice a' ms.length cap'] w fun e w' => e = .returned (.bool true) ∧ Below w.heap.size w w' := by
  have hl := hw.len
  unfold maxLen at hl
  have hnn : ((ms.length : Int) != ms.length) = false := by simp
  go_enter Try.func31, Try.ntmps31
  go_wp2_with fail
  go_loopw [5] (fun i wr => ∃ k : Nat, k ≤ ms.length ∧ i = .int .i64 k ∧ Below w.heap.size w wr) (fun i _ => ms.length - (intOf i).toNat)
  case atStart => exact ⟨0, Nat.zero_le _, rfl, Below.refl _ _⟩
  case round =>
    obtain ⟨k, hk, rfl, hB⟩ := hrel
    by_cases hlt : k < ms.length
    · obtain ⟨b, off, rfl, hb, c0, c1, c2, c3, c4, c5⟩ := hw.load hB k hlt
      obtain ⟨b', off', rfl, hb', d0, d1, d2, d3, d4, d5⟩ := hw'.load hB k hlt
      have hltI : (k : Int) < (ms.length : Int) := by omega
      clear hw hw'
      go_wp2_with fail
      go_region_with (go_at_call 58; refine (eqGateMend_yes ms[k] _).mono ?_; rintro e w1 ⟨rfl, hb1'⟩; have hb1 := (Below.refl wr.heap.size wr).drew.trans hb1'; clear hb1')
      all_goals go_wp2_with fail
      all_goals exact ⟨⟨k + 1, by omega, by go_num, hB.trans (hb1.mono hB.size)⟩, by simp [intOf]; omega⟩
    · clear hw hw'
      go_wp2_with fail
      go_ret
      exact ⟨rfl, hB⟩

/-- A row of mends in memory of its own, the first k laid. -/
structure MndsOwn (lo : Nat) (w : World) (bo : Nat) (ms : List Mnd) (k : Nat) : Prop where
  low : lo ≤ bo
  rows : ∃ C, w.heap[bo]? = some (.cells C 111) ∧ C.size = ms.length * 6 ∧ ∀ i (h : i < ms.length), i < k → ∀ j, j < 6 → C[i * 6 + j]? = ms[i].cells[j]?

theorem MndsOwn.at {lo : Nat} {w : World} {bo : Nat} {ms : List Mnd} (h : MndsOwn lo w bo ms ms.length) (hs : ∀ i (h : i < ms.length), ms[i].Small) (hl : ms.length ≤ maxLen) : MndsAt w (some ⟨bo, 0, none⟩) ms := by
  obtain ⟨C, hC, hsz, hr⟩ := h.rows
  refine ⟨hl, hs, fun _ => ⟨bo, 0, rfl, (Array.getElem?_eq_some_iff.1 hC).1, fun i hi j hj => ?_⟩⟩
  rw [cell_of_block hC, Nat.zero_add]
  exact hr i hi hi j hj

theorem MndsOwn.later {lo : Nat} {w w' : World} {bo : Nat} {ms : List Mnd} {k : Nat} (h : MndsOwn lo w bo ms k) (hb : Below w.heap.size w w') : MndsOwn lo w' bo ms k := by
  obtain ⟨C, hC, hsz, hr⟩ := h.rows
  exact ⟨h.low, C, (hb.block bo (Array.getElem?_eq_some_iff.1 hC).1).trans hC, hsz, hr⟩

end Go.Proofs.Ytniokfnigmmiiaa

namespace Go.Proofs.Ytniokfnigmmiiaa
open Go.RowKit

def put6 (w : World) (b o : Nat) (v0 v1 v2 v3 v4 v5 : Value) : World := (((((w.setCell ⟨b, o, none⟩ v0).setCell ⟨b, o + 1, none⟩ v1).setCell ⟨b, o + 2, none⟩ v2).setCell ⟨b, o + 3, none⟩ v3).setCell ⟨b, o + 4, none⟩ v4).setCell ⟨b, o + 5, none⟩ v5
def set6 (C : Array Value) (o : Nat) (v0 v1 v2 v3 v4 v5 : Value) : Array Value := (((((C.setIfInBounds o v0).setIfInBounds (o + 1) v1).setIfInBounds (o + 2) v2).setIfInBounds (o + 3) v3).setIfInBounds (o + 4) v4).setIfInBounds (o + 5) v5
theorem put6_block {w : World} {b o : Nat} {C : Array Value} {t : TypeId} (h : w.heap[b]? = some (.cells C t)) (v0 v1 v2 v3 v4 v5 : Value) : (put6 w b o v0 v1 v2 v3 v4 v5).heap[b]? = some (.cells (set6 C o v0 v1 v2 v3 v4 v5) t) :=
  heap_setCell_at (heap_setCell_at (heap_setCell_at (heap_setCell_at (heap_setCell_at (heap_setCell_at h v0) v1) v2) v3) v4) v5
theorem put6_below {B : Nat} {a w : World} (h : Below B a w) {b : Nat} (hb : B ≤ b) (o : Nat) (v0 v1 v2 v3 v4 v5 : Value) : Below B a (put6 w b o v0 v1 v2 v3 v4 v5) :=
  (((((h.setCell hb v0).setCell hb v1).setCell hb v2).setCell hb v3).setCell hb v4).setCell hb v5
theorem set6_size (C : Array Value) (o : Nat) (v0 v1 v2 v3 v4 v5 : Value) : (set6 C o v0 v1 v2 v3 v4 v5).size = C.size := by simp [set6]
theorem set6_out (C : Array Value) (o i : Nat) (v0 v1 v2 v3 v4 v5 : Value) (h : i < o ∨ o + 6 ≤ i) : (set6 C o v0 v1 v2 v3 v4 v5)[i]? = C[i]? := by
  unfold set6
  iterate 6 rw [Array.getElem?_setIfInBounds, if_neg (by omega)]
theorem set6_in (C : Array Value) (o j : Nat) (v0 v1 v2 v3 v4 v5 : Value) (hj : j < 6) (ho : o + 6 ≤ C.size) : (set6 C o v0 v1 v2 v3 v4 v5)[o + j]? = (#[v0, v1, v2, v3, v4, v5] : Array Value)[j]? := by
  have hc : j = 0 ∨ j = 1 ∨ j = 2 ∨ j = 3 ∨ j = 4 ∨ j = 5 := by omega
  unfold set6
  rcases hc with h | h | h | h | h | h <;> subst h <;> simp [Array.getElem?_setIfInBounds] <;> omega

theorem MndsOwn.put {lo : Nat} {w : World} {bo : Nat} {ms : List Mnd} {k : Nat} (h : MndsOwn lo w bo ms k) (hk : k < ms.length) :
    MndsOwn lo (put6 w bo (k * 6) (.string ms[k].kd) (.string ms[k].fd) (.string ms[k].wh) (.string ms[k].wi) (.string ms[k].pt) (.string ms[k].fr)) bo ms (k + 1) := by
  obtain ⟨C, hC, hsz, hr⟩ := h.rows
  refine ⟨h.low, _, put6_block hC _ _ _ _ _ _, by rw [set6_size]; exact hsz, fun i hi hik j hj => ?_⟩
  rcases Nat.lt_or_ge i k with hlt | hge
  · rw [set6_out _ _ _ _ _ _ _ _ _ (by omega)]
    exact hr i hi hlt j hj
  · have e : i = k := by omega
    subst e
    rw [set6_in _ _ _ _ _ _ _ _ _ hj (by omega)]
    rfl

set_option maxHeartbeats 1000000 in
theorem toGateMend_any (m : Mnd) (w : World) :
    Calls Try.prog 54 #[.agg m.cells] w fun e w' => e = .returned (.agg m.cells) ∧ Below w.heap.size w w' := by
  unfold Mnd.cells
  go_enter Try.func54, Try.ntmps54
  go_wp2_with fail
  refine bodyPost_ret (v := .agg #[.string m.kd, .string m.fd, .string m.wh, .string m.wi, .string m.pt, .string m.fr]) (by simp [results, Try.results54, go_sem]) rfl ⟨rfl, ?_⟩
  exact ((((Below.refl _ _).alloc (Nat.le_refl _) _).alloc (by simp) _).alloc (by simp; omega) _)

def mndZero : Array Value := #[.string ByteArray.empty, .string ByteArray.empty, .string ByteArray.empty, .string ByteArray.empty, .string ByteArray.empty, .string ByteArray.empty]
def mndsZero (n : Nat) : Array Value := madeCells mndZero (n * 6)

set_option maxHeartbeats 2000000 in
theorem toGateMendS_any (a : Option Addr) (cap : Nat) (ms : List Mnd) (w : World) (hw : MndsAt w a ms) (hl : ms.length ≤ 1048576) :
    Calls Try.prog 25 #[.slice a ms.length cap] w fun e w' => e = .returned (.slice (some ⟨w.heap.size, 0, none⟩) ms.length ms.length) ∧ MndsOwn w.heap.size w' w.heap.size ms ms.length ∧ Below w.heap.size w w' := by
  have hmk : ∀ w : World, (Instr.makeSlice 34 (.int .i64 ms.length) (.int .i64 ms.length)).run Try.prog w = .ok (.slice (some ⟨w.heap.size, 0, none⟩) ms.length ms.length) (w.alloc (.cells (mndsZero ms.length) 111)) :=
    fun w => run_make_rows (P := Try.prog) 34 111 (.agg mndZero) 6 96 Try.underlying34 (by kernel_rfl) ms.length (by omega) (by omega) w
  go_enter Try.func25, Try.ntmps25
  go_wp2_with fail
  clear hmk
  go_loopw [4] (fun i wr => ∃ k : Nat, k ≤ ms.length ∧ i = .int .i64 k ∧ MndsOwn w.heap.size wr w.heap.size ms k ∧ Below w.heap.size w wr) (fun i _ => ms.length - (intOf i).toNat)
  case atStart => exact ⟨0, Nat.zero_le _, rfl, ⟨Nat.le_refl _, mndsZero ms.length, (MapKept.heap_alloc w _).1, size_madeCells _ _, fun i _ h => absurd h (by omega)⟩, (Below.refl _ _).alloc (Nat.le_refl _) _⟩
  case round =>
    obtain ⟨k, hk, rfl, hown, hB⟩ := hrel
    by_cases hlt : k < ms.length
    · obtain ⟨b, off, rfl, hb, c0, c1, c2, c3, c4, c5⟩ := hw.load hB k hlt
      have hltI : (k : Int) < (ms.length : Int) := by omega
      clear hw
      go_wp2_with fail
      refine (toGateMend_any ms[k] _).mono ?_
      rintro e w1 ⟨rfl, hb1⟩
      have hB1 := hB.trans (hb1.mono hB.size)
      have hown1 := hown.later hb1
      have hbo : w.heap.size < wr.heap.size := by
        obtain ⟨C', hC', _⟩ := hown.rows
        exact (Array.getElem?_eq_some_iff.1 hC').1
      obtain ⟨C, hC, hsz, _⟩ := hown1.rows
      have hfz : ∀ o, w1.frozen? ⟨w.heap.size, o, none⟩ = false := fun o => frozen_of_block hC
      have hex : ∀ o, o < ms.length * 6 → ∃ v, w1.cell? ⟨w.heap.size, o, none⟩ = some v := fun o ho => ⟨C[o]'(by omega), by rw [cell_of_block hC]; exact Array.getElem?_eq_getElem (by omega)⟩
      obtain ⟨v0, hv0⟩ := hex (k * 6) (by omega)
      obtain ⟨v1, hv1⟩ := hex (k * 6 + 1) (by omega)
      obtain ⟨v2, hv2⟩ := hex (k * 6 + 2) (by omega)
      obtain ⟨v3, hv3⟩ := hex (k * 6 + 3) (by omega)
      obtain ⟨v4, hv4⟩ := hex (k * 6 + 4) (by omega)
      obtain ⟨v5, hv5⟩ := hex (k * 6 + 5) (by omega)
      have HP : Hid (MndsOwn w.heap.size w1 w.heap.size ms k) := hown1
      clear hex hC hsz c0 c1 c2 c3 c4 c5 hown hown1
      unfold Mnd.cells
      go_wp2_with fail
      exact ⟨⟨k + 1, by omega, by go_num, HP.out.put hlt, put6_below hB1 (Nat.le_refl _) _ _ _ _ _ _ _⟩, by simp [intOf]; omega⟩
    · have HF : Hid (MndsOwn w.heap.size wr w.heap.size ms ms.length) := by
        have e : k = ms.length := by omega
        subst e; exact hown
      clear hw hown
      go_wp2_with fail
      go_ret
      exact ⟨rfl, HF.out, hB⟩

end Go.Proofs.Ytniokfnigmmiiaa

namespace Go.Proofs.Ytniokfnigmmiiaa

/-- A team: its name, the one over it. -/
structure Tm where
  nm : ByteArray
  ov : ByteArray

namespace Gate

def noTeam : Tm := ⟨ByteArray.empty, ByteArray.empty⟩
def hasTeam (ts : List Tm) (v : ByteArray) : Bool := ts.any fun t => decide (t.nm = v)
/-- What stands over the first team of a name. -/
def over (ts : List Tm) (v : ByteArray) : ByteArray := ((ts.find? fun t => decide (t.nm = v)).getD noTeam).ov

theorem hasTeam_snoc (ts : List Tm) (v : ByteArray) (k : Nat) (h : k < ts.length) : hasTeam (ts.take (k + 1)) v = (hasTeam (ts.take k) v || decide (ts[k].nm = v)) := by
  unfold hasTeam; rw [List.take_succ_eq_append_getElem h, List.any_append]; simp
theorem hasTeam_at (ts : List Tm) (v : ByteArray) (k : Nat) (h : k < ts.length) (e : ts[k].nm = v) : hasTeam ts v = true := by
  unfold hasTeam; rw [List.any_eq_true]; exact ⟨ts[k], List.getElem_mem h, by simpa using e⟩
theorem hasTeam_all (ts : List Tm) (v : ByteArray) (k : Nat) (h : ts.length ≤ k) : hasTeam (ts.take k) v = hasTeam ts v := by rw [List.take_of_length_le h]
theorem over_at (ts : List Tm) (v : ByteArray) (k : Nat) (h : k < ts.length) (hb : hasTeam (ts.take k) v = false) (e : ts[k].nm = v) : over ts v = ts[k].ov := by
  unfold over
  have hn : (ts.take k).find? (fun s => decide (s.nm = v)) = none := by
    rw [List.find?_eq_none]; intro x hx; unfold hasTeam at hb; rw [List.any_eq_false] at hb; exact hb x hx
  have hf : ts.find? (fun s => decide (s.nm = v)) = some ts[k] := by
    conv => lhs; rw [← List.take_append_drop k ts]
    rw [List.find?_append, hn, List.drop_eq_getElem_cons h, List.find?_cons_of_pos (by simpa using e)]; rfl
  rw [hf]; rfl
theorem over_none (ts : List Tm) (v : ByteArray) (hb : hasTeam ts v = false) : over ts v = ByteArray.empty := by
  unfold over
  have hn : ts.find? (fun s => decide (s.nm = v)) = none := by
    rw [List.find?_eq_none]; intro x hx; unfold hasTeam at hb; rw [List.any_eq_false] at hb; exact hb x hx
  rw [hn]; rfl

/-- A stands under b, in at most n steps. -/
def under (ts : List Tm) : Nat → ByteArray → ByteArray → Bool
  | 0, a, b => decide (a = b)
  | n + 1, a, b => decide (a = b) || (decide (¬ (over ts a).size = 0) && under ts n (over ts a) b)

theorem under_same (ts : List Tm) (n : Nat) (a b : ByteArray) (h : a = b) : under ts n a b = true := by
  cases n <;> simp [under, h]
theorem under_end (ts : List Tm) {a b : ByteArray} (h : ¬ a = b) : under ts 0 a b = false := by simp [under, h]
theorem under_stop (ts : List Tm) (n : Nat) {a b : ByteArray} (h : ¬ a = b) (h0 : (over ts a).size = 0) : under ts (n + 1) a b = false := by simp [under, h, h0]
theorem under_on (ts : List Tm) (n : Nat) {a b : ByteArray} (h : ¬ a = b) (h0 : ¬ (over ts a).size = 0) : under ts (n + 1) a b = under ts n (over ts a) b := by simp [under, h, h0]

/-- A team by itself and beside the others. -/
def teamAt (ts : List Tm) (i : Nat) : Bool :=
  nameOk (ts.getD i noTeam).nm && (decide (i = 0) || less (ts.getD (i - 1) noTeam).nm (ts.getD i noTeam).nm) && ((ts.getD i noTeam).ov.toList.isEmpty || hasTeam ts (ts.getD i noTeam).ov)

def climb (ts : List Tm) : Nat → ByteArray → ByteArray
  | 0, a => a
  | n + 1, a => climb ts n (over ts a)
/-- The same, that stands still at the empty name. -/
def climbS (ts : List Tm) : Nat → ByteArray → ByteArray
  | 0, a => a
  | n + 1, a => if a.size = 0 then a else climbS ts n (over ts a)

def deepOk (ts : List Tm) (t : Tm) : Bool := decide ((climb ts 4 t.ov).size = 0)
def deepAt (ts : List Tm) (i : Nat) : Bool := deepOk ts (ts.getD i noTeam)
def deepS (ts : List Tm) (i : Nat) : Bool := decide ((climbS ts 5 (ts.getD i noTeam).nm).size = 0)
def teamsOk (ts : List Tm) : Bool := decide (ts.length ≤ 12) && (up (teamAt ts) ts.length && up (deepAt ts) ts.length)
def teamAtS (ts : List Tm) (i : Nat) : Bool := teamAt ts i && deepS ts i
def teamsOkS (ts : List Tm) : Bool := decide (ts.length ≤ 12) && up (teamAtS ts) ts.length

theorem up_eq_true {P : Nat → Bool} {n : Nat} : up P n = true ↔ ∀ i, i < n → P i = true := by
  unfold up; rw [List.all_eq_true]; simp

theorem team_name {ts : List Tm} {i : Nat} (hi : i < ts.length) (h : teamAt ts i = true) : nameOk ts[i].nm = true := by
  unfold teamAt at h; rw [getD_at ts i _ hi] at h; simp only [Bool.and_eq_true] at h; exact h.1.1
theorem team_less {ts : List Tm} {i : Nat} (hi : i + 1 < ts.length) (h : teamAt ts (i + 1) = true) : less ts[i].nm ts[i + 1].nm = true := by
  unfold teamAt at h; rw [getD_at ts (i + 1) _ hi, Nat.add_sub_cancel, getD_at ts i _ (by omega)] at h; simp only [Bool.and_eq_true] at h
  simpa using h.1.2

theorem teams_less {ts : List Tm} (h : up (teamAt ts) ts.length = true) : ∀ (j : Nat) (hj : j < ts.length) (i : Nat) (hi : i < j), less (ts[i]'(by omega)).nm ts[j].nm = true := by
  intro j
  induction j with
  | zero => intro _ i hi; omega
  | succ j ih =>
    intro hj i hi
    have h2 := team_less hj (up_at hj h)
    rcases Nat.lt_or_ge i j with hlt | hge
    · exact bytesLess_trans _ _ _ (ih (by omega) i hlt) h2
    · have e : i = j := by omega
      subst e; exact h2

theorem over_self {ts : List Tm} (h : up (teamAt ts) ts.length = true) (i : Nat) (hi : i < ts.length) : over ts ts[i].nm = ts[i].ov := by
  refine over_at ts _ i hi ?_ rfl
  unfold hasTeam
  rw [List.any_eq_false]
  intro x hx
  obtain ⟨k, hk, rfl⟩ := List.mem_iff_getElem.1 hx
  have hk' : k < i := by simp at hk; omega
  have h1 := teams_less h i hi k hk'
  simp only [List.getElem_take, decide_eq_true_eq]
  intro e
  unfold less at h1
  rw [e, bytesLess_irrefl] at h1
  cases h1

theorem over_empty {ts : List Tm} (h : up (teamAt ts) ts.length = true) : over ts ByteArray.empty = ByteArray.empty := by
  apply over_none
  unfold hasTeam
  rw [List.any_eq_false]
  intro x hx
  obtain ⟨k, hk, rfl⟩ := List.mem_iff_getElem.1 hx
  have h1 := team_name hk (up_at hk h)
  simp only [decide_eq_true_eq]
  intro e
  rw [e, nameOk_empty _ rfl] at h1
  cases h1

theorem climb_empty {ts : List Tm} (h : over ts ByteArray.empty = ByteArray.empty) : ∀ n, climb ts n ByteArray.empty = ByteArray.empty
  | 0 => rfl
  | n + 1 => by unfold climb; rw [h]; exact climb_empty h n

theorem climb_same {ts : List Tm} (h : over ts ByteArray.empty = ByteArray.empty) : ∀ n a, climbS ts n a = climb ts n a
  | 0, _ => rfl
  | n + 1, a => by
    unfold climbS
    by_cases h0 : a.size = 0
    · rw [if_pos h0, empty_of_size a h0, climb_empty h]
    · rw [if_neg h0, climb_same h n]; rfl

theorem deep_same {ts : List Tm} (h : up (teamAt ts) ts.length = true) (i : Nat) (hi : i < ts.length) : deepS ts i = deepAt ts i := by
  unfold deepS deepAt deepOk
  rw [getD_at ts i _ hi, climb_same (over_empty h), show climb ts 5 ts[i].nm = climb ts 4 (over ts ts[i].nm) from rfl, over_self h i hi]

theorem teamsOk_same (ts : List Tm) : teamsOk ts = teamsOkS ts := by
  unfold teamsOk teamsOkS
  congr 1
  rw [Bool.eq_iff_iff, Bool.and_eq_true]
  constructor
  · rintro ⟨h1, h2⟩
    rw [up_eq_true]
    intro i hi
    unfold teamAtS
    rw [up_at hi h1, deep_same h1 i hi, up_at hi h2]; rfl
  · intro h
    rw [up_eq_true] at h
    have h1 : up (teamAt ts) ts.length = true := by
      rw [up_eq_true]; intro i hi; have := h i hi; unfold teamAtS at this; rw [Bool.and_eq_true] at this; exact this.1
    refine ⟨h1, ?_⟩
    rw [up_eq_true]; intro i hi; have := h i hi; unfold teamAtS at this; rw [Bool.and_eq_true, deep_same h1 i hi] at this; exact this.2

/-- Among teams that are ok nothing stands under a name but the empty one. -/
theorem under_empty {ts : List Tm} (h : up (teamAt ts) ts.length = true) (n : Nat) (b : ByteArray) (hb : ¬ b.size = 0) : under ts n ByteArray.empty b = false := by
  have hne : ¬ ByteArray.empty = b := by rintro rfl; exact hb rfl
  cases n with
  | zero => exact under_end ts hne
  | succ n => exact under_stop ts n hne (by rw [over_empty h]; rfl)

end Gate
end Go.Proofs.Ytniokfnigmmiiaa
