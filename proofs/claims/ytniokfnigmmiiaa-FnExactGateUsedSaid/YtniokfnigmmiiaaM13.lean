import Derived.Test.YtniokfnigmmiiaaM09
import Derived.Deep.RegionHeld3
import Derived.Test.YtniokfnigmmiiaaM08
namespace Go.Proofs.Ytniokfnigmmiiaa
open Go.RowKit

/-- What a purse holds. -/
structure Pu where
  dr : ByteArray
  tm : ByteArray
  rs : ByteArray
  am : Int
  un : Int

def Pu.cells (m : Pu) : Array Value := #[.string m.dr, .string m.tm, .string m.rs, .int .i64 m.am, .int .i64 m.un]

structure Pu.Small (m : Pu) : Prop where
  dr : m.dr.size ≤ maxLen
  tm : m.tm.size ≤ maxLen
  rs : m.rs.size ≤ maxLen

structure PusAt (w : World) (a : Option Addr) (ms : List Pu) : Prop where
  len : ms.length ≤ maxLen
  small : ∀ i (h : i < ms.length), ms[i].Small
  rows : ms ≠ [] → ∃ b off, a = some ⟨b, off, none⟩ ∧ b < w.heap.size ∧ ∀ i (h : i < ms.length), ∀ j, j < 5 → w.cell? ⟨b, off + i * 5 + j, none⟩ = ms[i].cells[j]?

theorem PusAt.mono {w w' : World} {a : Option Addr} {ms : List Pu} (h : PusAt w a ms) (hl : Below w.heap.size w w') : PusAt w' a ms :=
  ⟨h.len, h.small, fun hne => by
    obtain ⟨b, off, ha, hb, hr⟩ := h.rows hne
    exact ⟨b, off, ha, Nat.lt_of_lt_of_le hb hl.size, fun i hi j hj => (hl.cell (p := ⟨b, off + i * 5 + j, none⟩) hb).trans (hr i hi j hj)⟩⟩

theorem PusAt.load {w w' : World} {a : Option Addr} {ms : List Pu} (h : PusAt w a ms) (hl : Below w.heap.size w w') (i : Nat) (hi : i < ms.length) : ∃ b off, a = some ⟨b, off, none⟩ ∧ b < w.heap.size ∧
    w'.cell? ⟨b, off + i * 5, none⟩ = some (.string ms[i].dr) ∧ w'.cell? ⟨b, off + i * 5 + 1, none⟩ = some (.string ms[i].tm) ∧ w'.cell? ⟨b, off + i * 5 + 2, none⟩ = some (.string ms[i].rs) ∧ w'.cell? ⟨b, off + i * 5 + 3, none⟩ = some (.int .i64 ms[i].am) ∧ w'.cell? ⟨b, off + i * 5 + 4, none⟩ = some (.int .i64 ms[i].un) := by
  obtain ⟨b, off, ha, hb, hr⟩ := h.rows (by rintro rfl; simp at hi)
  have hc : ∀ j, j < 5 → w'.cell? ⟨b, off + i * 5 + j, none⟩ = ms[i].cells[j]? := fun j hj => (hl.cell (p := ⟨b, off + i * 5 + j, none⟩) hb).trans (hr i hi j hj)
  exact ⟨b, off, ha, hb, hc 0 (by omega), hc 1 (by omega), hc 2 (by omega), hc 3 (by omega), hc 4 (by omega)⟩

def Pu.sz (m : Pu) : Nat := m.dr.size + m.tm.size + m.rs.size
def sumPu (ms : List Pu) : Nat := (ms.map Pu.sz).sum
def szPus (ms : List Pu) : Nat := ms.length + sumPu ms

set_option maxHeartbeats 1000000 in
theorem szGatePurse_any (m : Pu) (left : Int) (w : World) (hm : m.Small) (h0 : 0 ≤ left) (h1 : left ≤ 1048576) :
    Calls Try.prog 62 #[.agg m.cells, .int .i64 left] w fun e w' => e = .returned (.int .i64 (szRes m.sz left)) ∧ Below w.heap.size w w' := by
  have k0 := hm.dr
  have k1 := hm.tm
  have k2 := hm.rs
  unfold maxLen at k0 k1 k2
  unfold Pu.cells
  have hB : ∀ ob, Below w.heap.size w (w.alloc ob) := fun ob => (Below.refl _ _).alloc (Nat.le_refl _) _
  by_cases hf : (m.sz : Int) ≤ left
  · have HF : Hid (szRes m.sz left = left - m.dr.size - m.tm.size - m.rs.size) := by
      unfold Hid; rw [szRes_yes hf]; unfold Pu.sz; omega
    unfold Pu.sz at hf
    go_enter Try.func62, Try.ntmps62
    go_wp2_with fail
    go_ret
    exact ⟨ret_int HF.out.symm, hB _⟩
  · have HF : Hid (szRes m.sz left = -1) := szRes_no hf
    have HN : Hid (¬ ((m.dr.size + m.tm.size + m.rs.size : Nat) : Int) ≤ left) := hf
    clear hf
    go_enter Try.func62, Try.ntmps62
    go_wp2_with fail
    all_goals go_ret
    all_goals first | exact ⟨ret_int HF.out.symm, hB _⟩ | (exfalso; have := HN.out; simp at *; omega)

theorem szGatePurse_yes (m : Pu) (left : Int) (w : World) (hm : m.Small) (h0 : 0 ≤ left) (h1 : left ≤ 1048576) (h : (m.sz : Int) ≤ left) :
    Calls Try.prog 62 #[.agg m.cells, .int .i64 left] w fun e w' => e = .returned (.int .i64 (left - m.sz)) ∧ Below w.heap.size w w' := by
  refine (szGatePurse_any m left w hm h0 h1).mono ?_
  rintro e w' ⟨rfl, hb⟩
  exact ⟨ret_int (szRes_yes h), hb⟩

theorem szGatePurse_no (m : Pu) (left : Int) (w : World) (hm : m.Small) (h0 : 0 ≤ left) (h1 : left ≤ 1048576) (h : ¬ (m.sz : Int) ≤ left) :
    Calls Try.prog 62 #[.agg m.cells, .int .i64 left] w fun e w' => e = .returned (.int .i64 (-1)) ∧ Below w.heap.size w w' := by
  refine (szGatePurse_any m left w hm h0 h1).mono ?_
  rintro e w' ⟨rfl, hb⟩
  exact ⟨ret_int (szRes_no h), hb⟩

set_option maxHeartbeats 1000000 in
theorem szGatePurseS_any (a : Option Addr) (cap : Nat) (ms : List Pu) (left : Int) (w : World) (hw : PusAt w a ms) (h0 : 0 ≤ left) (h1 : left ≤ 1048576) :
    Calls Try.prog 37 #[.slice a ms.length cap, .int .i64 left] w fun e w' => e = .returned (.int .i64 (szRes (szPus ms) left)) ∧ Below w.heap.size w w' := by
  have hl := hw.len
  unfold maxLen at hl
  by_cases hfit : (ms.length : Int) ≤ left
  · go_enter Try.func37, Try.ntmps37
    go_wp2_with fail
    go_loopw [1, 5] (fun l i wr => ∃ k : Nat, k ≤ ms.length ∧ i = .int .i64 k ∧ 0 ≤ left - ms.length - sumPu (ms.take k) ∧ l = .int .i64 (left - ms.length - sumPu (ms.take k)) ∧ Below w.heap.size w wr) (fun _ i _ => ms.length - (intOf i).toNat)
    case atStart => exact ⟨0, Nat.zero_le _, rfl, by simp [sumPu]; omega, by simp [sumPu], Below.refl _ _⟩
    case round =>
      obtain ⟨k, hk, rfl, hpos, rfl, hB⟩ := hrel
      by_cases hlt : k < ms.length
      · obtain ⟨b, off, rfl, hb, c0, c1, c2, c3, c4⟩ := hw.load hB k hlt
        have hsm := hw.small k hlt
        have HS : Hid (sumPu (ms.take (k + 1)) = sumPu (ms.take k) + ms[k].sz) := sum_snoc Pu.sz ms k hlt
        have hle : sumPu (ms.take (k + 1)) ≤ sumPu ms := sum_le Pu.sz ms (k + 1)
        clear hw
        by_cases hneg : (ms[k].sz : Int) ≤ left - ms.length - sumPu (ms.take k)
        · have HNG : Hid ((ms[k].sz : Int) ≤ left - ms.length - sumPu (ms.take k)) := hneg
          clear hle
          go_wp2_with fail
          refine (szGatePurse_yes _ _ _ hsm hpos (by omega) HNG.out).mono ?_
          rintro e w1 ⟨rfl, hb1⟩
          have hB1 := hB.trans (hb1.mono hB.size)
          clear hb1
          go_wp2_with fail
          exact ⟨⟨k + 1, by omega, by go_num, by rw [HS.out]; omega, by rw [HS.out]; congr 1; omega, hB1⟩, by simp [intOf]; omega⟩
        · have HF : Hid (szRes (szPus ms) left = -1) := szRes_no (by have := HS.out; unfold szPus; omega)
          have HNG : Hid (¬ (ms[k].sz : Int) ≤ left - ms.length - sumPu (ms.take k)) := hneg
          clear hneg hle
          go_wp2_with fail
          refine (szGatePurse_no _ _ _ hsm hpos (by omega) (by have := HNG.out; omega)).mono ?_
          rintro e w1 ⟨rfl, hb1⟩
          have hB1 := hB.trans (hb1.mono hB.size)
          clear hb1
          go_wp2_with fail
          go_ret
          exact ⟨ret_int HF.out.symm, hB1⟩
      · have HF : Hid (szRes (szPus ms) left = left - ms.length - sumPu (ms.take k)) := by
          rw [List.take_of_length_le (by omega)] at hpos ⊢
          have e : szRes (szPus ms) left = left - szPus ms := szRes_yes (by unfold szPus; omega)
          unfold Hid; rw [e]; unfold szPus; omega
        clear hw
        go_wp2
        go_ret
        exact ⟨ret_int HF.out.symm, hB⟩
  · have HF : Hid (szRes (szPus ms) left = -1) := szRes_no (by unfold szPus; omega)
    clear hw
    go_enter Try.func37, Try.ntmps37
    go_wp2
    go_ret
    exact ⟨ret_int HF.out.symm, Below.refl _ _⟩

theorem eqGatePurse_yes (m : Pu) (w : World) : Calls Try.prog 70 #[.agg m.cells, .agg m.cells] w fun e w' => e = .returned (.bool true) ∧ Below w.heap.size w w' := by
  unfold Pu.cells
  have hn3 : (m.am != m.am) = false := by simp
  have hn4 : (m.un != m.un) = false := by simp
  go_enter Try.func70, Try.ntmps70
  go_wp2_with fail
  go_ret
  exact ⟨rfl, below2' _ _ _⟩

set_option maxHeartbeats 2000000 in
theorem eqGatePurseS_yes (a a' : Option Addr) (cap cap' : Nat) (ms : List Pu) (w : World) (hw : PusAt w a ms) (hw' : PusAt w a' ms) :
    Calls Try.prog 47 #[.slice a ms.length cap, .slice a' ms.length cap'] w fun e w' => e = .returned (.bool true) ∧ Below w.heap.size w w' := by
  have hl := hw.len
  unfold maxLen at hl
  have hnn : ((ms.length : Int) != ms.length) = false := by simp
  go_enter Try.func47, Try.ntmps47
  go_wp2_with fail
  go_loopw [5] (fun i wr => ∃ k : Nat, k ≤ ms.length ∧ i = .int .i64 k ∧ Below w.heap.size w wr) (fun i _ => ms.length - (intOf i).toNat)
  case atStart => exact ⟨0, Nat.zero_le _, rfl, Below.refl _ _⟩
  case round =>
    obtain ⟨k, hk, rfl, hB⟩ := hrel
    by_cases hlt : k < ms.length
    · obtain ⟨b, off, rfl, hb, c0, c1, c2, c3, c4⟩ := hw.load hB k hlt
      obtain ⟨b', off', rfl, hb', d0, d1, d2, d3, d4⟩ := hw'.load hB k hlt
      have hltI : (k : Int) < (ms.length : Int) := by omega
      clear hw hw'
      go_wp2_with fail
      go_region_with (go_at_call 70; refine (eqGatePurse_yes ms[k] _).mono ?_; rintro e w1 ⟨rfl, hb1'⟩; have hb1 := (Below.refl wr.heap.size wr).drew.trans hb1'; clear hb1')
      all_goals go_wp2_with fail
      all_goals exact ⟨⟨k + 1, by omega, by go_num, hB.trans (hb1.mono hB.size)⟩, by simp [intOf]; omega⟩
    · clear hw hw'
      go_wp2_with fail
      go_ret
      exact ⟨rfl, hB⟩

/-- A row in memory of its own, the first k laid. -/
structure PusOwn (lo : Nat) (w : World) (bo : Nat) (ms : List Pu) (k : Nat) : Prop where
  low : lo ≤ bo
  rows : ∃ C, w.heap[bo]? = some (.cells C 138) ∧ C.size = ms.length * 5 ∧ ∀ i (h : i < ms.length), i < k → ∀ j, j < 5 → C[i * 5 + j]? = ms[i].cells[j]?

theorem PusOwn.at {lo : Nat} {w : World} {bo : Nat} {ms : List Pu} (h : PusOwn lo w bo ms ms.length) (hs : ∀ i (h : i < ms.length), ms[i].Small) (hl : ms.length ≤ maxLen) : PusAt w (some ⟨bo, 0, none⟩) ms := by
  obtain ⟨C, hC, hsz, hr⟩ := h.rows
  refine ⟨hl, hs, fun _ => ⟨bo, 0, rfl, (Array.getElem?_eq_some_iff.1 hC).1, fun i hi j hj => ?_⟩⟩
  rw [cell_of_block hC, Nat.zero_add]
  exact hr i hi hi j hj

theorem PusOwn.later {lo : Nat} {w w' : World} {bo : Nat} {ms : List Pu} {k : Nat} (h : PusOwn lo w bo ms k) (hb : Below w.heap.size w w') : PusOwn lo w' bo ms k := by
  obtain ⟨C, hC, hsz, hr⟩ := h.rows
  exact ⟨h.low, C, (hb.block bo (Array.getElem?_eq_some_iff.1 hC).1).trans hC, hsz, hr⟩

theorem PusOwn.above {lo : Nat} {w w' : World} {bo : Nat} {ms : List Pu} {k : Nat} (h : PusOwn lo w bo ms k) (ha : Above lo w w') : PusOwn lo w' bo ms k := by
  obtain ⟨C, hC, hr⟩ := h.rows
  exact ⟨h.low, C, (ha.same _ h.low (Array.getElem?_eq_some_iff.1 hC).1).trans hC, hr⟩

theorem PusOwn.weaken {lo lo' : Nat} {w : World} {bo : Nat} {ms : List Pu} {k : Nat} (h : PusOwn lo w bo ms k) (hl : lo' ≤ lo) : PusOwn lo' w bo ms k := ⟨Nat.le_trans hl h.low, h.rows⟩

def putPu (w : World) (b o : Nat) (v0 v1 v2 v3 v4 : Value) : World := (((((w.setCell ⟨b, o, none⟩ v0).setCell ⟨b, o + 1, none⟩ v1).setCell ⟨b, o + 2, none⟩ v2).setCell ⟨b, o + 3, none⟩ v3).setCell ⟨b, o + 4, none⟩ v4)
def setPu (C : Array Value) (o : Nat) (v0 v1 v2 v3 v4 : Value) : Array Value := (((((C.setIfInBounds (o) v0).setIfInBounds (o + 1) v1).setIfInBounds (o + 2) v2).setIfInBounds (o + 3) v3).setIfInBounds (o + 4) v4)
theorem putPu_block {w : World} {b o : Nat} {C : Array Value} {t : TypeId} (h : w.heap[b]? = some (.cells C t)) (v0 v1 v2 v3 v4 : Value) : (putPu w b o v0 v1 v2 v3 v4).heap[b]? = some (.cells (setPu C o v0 v1 v2 v3 v4) t) :=
  heap_setCell_at (heap_setCell_at (heap_setCell_at (heap_setCell_at (heap_setCell_at h v0) v1) v2) v3) v4
theorem putPu_below {B : Nat} {a w : World} (h : Below B a w) {b : Nat} (hb : B ≤ b) (o : Nat) (v0 v1 v2 v3 v4 : Value) : Below B a (putPu w b o v0 v1 v2 v3 v4) :=
  ((((h.setCell hb v0).setCell hb v1).setCell hb v2).setCell hb v3).setCell hb v4
theorem setPu_size (C : Array Value) (o : Nat) (v0 v1 v2 v3 v4 : Value) : (setPu C o v0 v1 v2 v3 v4).size = C.size := by simp [setPu]
theorem setPu_out (C : Array Value) (o i : Nat) (v0 v1 v2 v3 v4 : Value) (h : i < o ∨ o + 5 ≤ i) : (setPu C o v0 v1 v2 v3 v4)[i]? = C[i]? := by
  unfold setPu
  iterate 5 rw [Array.getElem?_setIfInBounds, if_neg (by omega)]
theorem setPu_in (C : Array Value) (o j : Nat) (v0 v1 v2 v3 v4 : Value) (hj : j < 5) (ho : o + 5 ≤ C.size) : (setPu C o v0 v1 v2 v3 v4)[o + j]? = (#[v0, v1, v2, v3, v4] : Array Value)[j]? := by
  have hc : j = 0 ∨ j = 1 ∨ j = 2 ∨ j = 3 ∨ j = 4 := by omega
  unfold setPu
  rcases hc with h | h | h | h | h <;> subst h <;> simp [Array.getElem?_setIfInBounds] <;> omega

theorem PusOwn.put {lo : Nat} {w : World} {bo : Nat} {ms : List Pu} {k : Nat} (h : PusOwn lo w bo ms k) (hk : k < ms.length) :
    PusOwn lo (putPu w bo (k * 5) (.string ms[k].dr) (.string ms[k].tm) (.string ms[k].rs) (.int .i64 ms[k].am) (.int .i64 ms[k].un)) bo ms (k + 1) := by
  obtain ⟨C, hC, hsz, hr⟩ := h.rows
  refine ⟨h.low, _, putPu_block hC _ _ _ _ _, by rw [setPu_size]; exact hsz, fun i hi hik j hj => ?_⟩
  rcases Nat.lt_or_ge i k with hlt | hge
  · rw [setPu_out _ _ _ _ _ _ _ _ (by omega)]
    exact hr i hi hlt j hj
  · have e : i = k := by omega
    subst e
    rw [setPu_in _ _ _ _ _ _ _ _ hj (by omega)]
    rfl

set_option maxHeartbeats 1000000 in
theorem toGatePurse_any (m : Pu) (w : World) :
    Calls Try.prog 66 #[.agg m.cells] w fun e w' => e = .returned (.agg m.cells) ∧ Below w.heap.size w w' := by
  unfold Pu.cells
  go_enter Try.func66, Try.ntmps66
  go_wp2_with fail
  refine bodyPost_ret (v := .agg #[.string m.dr, .string m.tm, .string m.rs, .int .i64 m.am, .int .i64 m.un]) (by simp [results, Try.results66, go_sem]) rfl ⟨rfl, ?_⟩
  exact ((((Below.refl _ _).alloc (Nat.le_refl _) _).alloc (by simp) _).alloc (by simp; omega) _)

def zeroPu : Array Value := #[.string ByteArray.empty, .string ByteArray.empty, .string ByteArray.empty, .int .i64 0, .int .i64 0]
def zeroPus (n : Nat) : Array Value := madeCells zeroPu (n * 5)

set_option maxHeartbeats 2000000 in
theorem toGatePurseS_any (a : Option Addr) (cap : Nat) (ms : List Pu) (w : World) (hw : PusAt w a ms) (hl : ms.length ≤ 1048576) :
    Calls Try.prog 42 #[.slice a ms.length cap] w fun e w' => e = .returned (.slice (some ⟨w.heap.size, 0, none⟩) ms.length ms.length) ∧ PusOwn w.heap.size w' w.heap.size ms ms.length ∧ Below w.heap.size w w' := by
  have hmk : ∀ w : World, (Instr.makeSlice 55 (.int .i64 ms.length) (.int .i64 ms.length)).run Try.prog w = .ok (.slice (some ⟨w.heap.size, 0, none⟩) ms.length ms.length) (w.alloc (.cells (zeroPus ms.length) 138)) :=
    fun w => run_make_rows (P := Try.prog) 55 138 (.agg zeroPu) 5 64 Try.underlying55 (by kernel_rfl) ms.length (by omega) (by omega) w
  go_enter Try.func42, Try.ntmps42
  go_wp2_with fail
  clear hmk
  go_loopw [4] (fun i wr => ∃ k : Nat, k ≤ ms.length ∧ i = .int .i64 k ∧ PusOwn w.heap.size wr w.heap.size ms k ∧ Below w.heap.size w wr) (fun i _ => ms.length - (intOf i).toNat)
  case atStart => exact ⟨0, Nat.zero_le _, rfl, ⟨Nat.le_refl _, zeroPus ms.length, (MapKept.heap_alloc w _).1, size_madeCells _ _, fun i _ h => absurd h (by omega)⟩, (Below.refl _ _).alloc (Nat.le_refl _) _⟩
  case round =>
    obtain ⟨k, hk, rfl, hown, hB⟩ := hrel
    by_cases hlt : k < ms.length
    · obtain ⟨b, off, rfl, hb, c0, c1, c2, c3, c4⟩ := hw.load hB k hlt
      have hltI : (k : Int) < (ms.length : Int) := by omega
      clear hw
      go_wp2_with fail
      refine (toGatePurse_any ms[k] _).mono ?_
      rintro e w1 ⟨rfl, hb1⟩
      have hB1 := hB.trans (hb1.mono hB.size)
      have hown1 := hown.later hb1
      have hbo : w.heap.size < wr.heap.size := by
        obtain ⟨C', hC', _⟩ := hown.rows
        exact (Array.getElem?_eq_some_iff.1 hC').1
      obtain ⟨C, hC, hsz, _⟩ := hown1.rows
      have hfz : ∀ o, w1.frozen? ⟨w.heap.size, o, none⟩ = false := fun o => frozen_of_block hC
      have hex : ∀ o, o < ms.length * 5 → ∃ v, w1.cell? ⟨w.heap.size, o, none⟩ = some v := fun o ho => ⟨C[o]'(by omega), by rw [cell_of_block hC]; exact Array.getElem?_eq_getElem (by omega)⟩
      obtain ⟨v0, hv0⟩ := hex (k * 5) (by omega)
      obtain ⟨v1, hv1⟩ := hex (k * 5 + 1) (by omega)
      obtain ⟨v2, hv2⟩ := hex (k * 5 + 2) (by omega)
      obtain ⟨v3, hv3⟩ := hex (k * 5 + 3) (by omega)
      obtain ⟨v4, hv4⟩ := hex (k * 5 + 4) (by omega)
      have HP : Hid (PusOwn w.heap.size w1 w.heap.size ms k) := hown1
      clear hex hC hsz c0 c1 c2 c3 c4 hown hown1
      unfold Pu.cells
      go_wp2_with fail
      exact ⟨⟨k + 1, by omega, by go_num, HP.out.put hlt, putPu_below hB1 (Nat.le_refl _) _ _ _ _ _ _⟩, by simp [intOf]; omega⟩
    · have HF : Hid (PusOwn w.heap.size wr w.heap.size ms ms.length) := by
        have e : k = ms.length := by omega
        subst e; exact hown
      clear hw hown
      go_wp2_with fail
      go_ret
      exact ⟨rfl, HF.out, hB⟩

end Go.Proofs.Ytniokfnigmmiiaa

namespace Go.Proofs.Ytniokfnigmmiiaa
open Go.RowKit

set_option maxHeartbeats 400000 in
theorem szIntS_any (a : Option Addr) (cap : Nat) (vs : List Int) (left : Int) (w : World) (hl : vs.length ≤ maxLen) (h0 : 0 ≤ left) (h1 : left ≤ 1048576) :
    Calls Try.prog 80 #[.slice a vs.length cap, .int .i64 left] w fun e w' => e = .returned (.int .i64 (szRes vs.length left)) ∧ w' = w := by
  unfold maxLen at hl
  by_cases hf : (vs.length : Int) ≤ left
  · have HF : Hid (szRes vs.length left = left - vs.length) := szRes_yes hf
    go_enter Try.func80, Try.ntmps80
    go_wp2_with fail
    go_ret
    exact ⟨ret_int HF.out.symm, rfl⟩
  · have HF : Hid (szRes vs.length left = -1) := szRes_no hf
    go_enter Try.func80, Try.ntmps80
    go_wp2_with fail
    go_ret
    exact ⟨ret_int HF.out.symm, rfl⟩

set_option maxHeartbeats 1000000 in
theorem szGateRule_any (r : Rl) (a : Option Addr) (cap : Nat) (left : Int) (w : World) (hm : r.Small) (hl : r.vs.length ≤ maxLen) (h0 : 0 ≤ left) (h1 : left ≤ 1048576) :
    Calls Try.prog 74 #[.agg (r.cells a cap), .int .i64 left] w fun e w' => e = .returned (.int .i64 (szRes r.sz left)) ∧ Below w.heap.size w w' := by
  have k1 := hm.kd
  have k2 := hm.tm
  have k3 := hm.px
  have k4 := hl
  unfold maxLen at k1 k2 k3 k4
  unfold Rl.cells
  have hB : ∀ ob, Below w.heap.size w (w.alloc ob) := fun ob => (Below.refl _ _).alloc (Nat.le_refl _) _
  by_cases hv : (r.vs.length : Int) ≤ left
  rotate_left
  · have HF : Hid (szRes r.sz left = -1) := szRes_no (by unfold Rl.sz; omega)
    go_enter Try.func74, Try.ntmps74
    go_wp2_with fail
    refine (szIntS_any _ _ _ _ _ hl h0 h1).mono ?_
    rintro e w1 ⟨rfl, rfl⟩
    rw [szRes_no (by omega)]
    go_wp2_with fail
    go_ret
    exact ⟨ret_int HF.out.symm, hB _⟩
  by_cases hf : (r.sz : Int) ≤ left
  · have HF : Hid (szRes r.sz left = left - r.vs.length - r.kd.size - r.tm.size - r.px.size) := by
      unfold Hid; rw [szRes_yes hf]; unfold Rl.sz; omega
    unfold Rl.sz at hf
    go_enter Try.func74, Try.ntmps74
    go_wp2_with fail
    refine (szIntS_any _ _ _ _ _ hl h0 h1).mono ?_
    rintro e w1 ⟨rfl, rfl⟩
    rw [szRes_yes hv]
    go_wp2_with fail
    go_ret
    exact ⟨ret_int HF.out.symm, hB _⟩
  · have HF : Hid (szRes r.sz left = -1) := szRes_no hf
    have HN : Hid (¬ ((r.vs.length + r.kd.size + r.tm.size + r.px.size : Nat) : Int) ≤ left) := hf
    clear hf
    go_enter Try.func74, Try.ntmps74
    go_wp2_with fail
    refine (szIntS_any _ _ _ _ _ hl h0 h1).mono ?_
    rintro e w1 ⟨rfl, rfl⟩
    rw [szRes_yes hv]
    go_wp2_with fail
    all_goals go_ret
    all_goals first | exact ⟨ret_int HF.out.symm, hB _⟩ | (exfalso; have := HN.out; simp at *; omega)

theorem szGateRule_yes (r : Rl) (a : Option Addr) (cap : Nat) (left : Int) (w : World) (hm : r.Small) (hl : r.vs.length ≤ maxLen) (h0 : 0 ≤ left) (h1 : left ≤ 1048576) (h : (r.sz : Int) ≤ left) :
    Calls Try.prog 74 #[.agg (r.cells a cap), .int .i64 left] w fun e w' => e = .returned (.int .i64 (left - r.sz)) ∧ Below w.heap.size w w' := by
  refine (szGateRule_any r a cap left w hm hl h0 h1).mono ?_
  rintro e w' ⟨rfl, hb⟩
  exact ⟨ret_int (szRes_yes h), hb⟩

theorem szGateRule_no (r : Rl) (a : Option Addr) (cap : Nat) (left : Int) (w : World) (hm : r.Small) (hl : r.vs.length ≤ maxLen) (h0 : 0 ≤ left) (h1 : left ≤ 1048576) (h : ¬ (r.sz : Int) ≤ left) :
    Calls Try.prog 74 #[.agg (r.cells a cap), .int .i64 left] w fun e w' => e = .returned (.int .i64 (-1)) ∧ Below w.heap.size w w' := by
  refine (szGateRule_any r a cap left w hm hl h0 h1).mono ?_
  rintro e w' ⟨rfl, hb⟩
  exact ⟨ret_int (szRes_no h), hb⟩

set_option maxHeartbeats 400000 in
theorem toIntS_any (a : Option Addr) (cap : Nat) (vs : List Int) (w : World) (hw : IntsAt w a vs) (hl : vs.length ≤ 1048576) :
    Calls Try.prog 81 #[.slice a vs.length cap] w fun e w' => e = .returned (.slice (some ⟨w.heap.size, 0, none⟩) vs.length vs.length) ∧ w' = w.alloc (.cells (intArr vs) 3) := by
  have hmk : ∀ w : World, (Instr.makeSlice 120 (.int .i64 vs.length) (.int .i64 vs.length)).run Try.prog w = .ok (.slice (some ⟨w.heap.size, 0, none⟩) vs.length vs.length) (w.alloc (.cells (intCells vs 0) 3)) := by
    intro w
    have h := run_make_row' (P := Try.prog) 120 3 (.int .i64 0) 8 Try.underlying120 (by kernel_rfl) rfl .i64 .i64 vs.length (by omega) (by omega) w
    rw [intCells_zero] at h
    exact h
  go_enter Try.func81, Try.ntmps81
  go_wp2_with fail
  clear hmk
  go_loopw [4] (fun i wr => ∃ k : Nat, k ≤ vs.length ∧ i = .int .i64 k ∧ wr = w.alloc (.cells (intCells vs k) 3)) (fun i _ => vs.length - (intOf i).toNat)
  case atStart => exact ⟨0, Nat.zero_le _, rfl, rfl⟩
  case round =>
    obtain ⟨k, hk, rfl, rfl⟩ := hrel
    by_cases hlt : k < vs.length
    · obtain ⟨b, off, rfl, hb, hck⟩ := hw.load (Below.refl _ _) k hlt
      clear hw
      have hold := intCells_at vs k hlt
      have HS : Hid ((intCells vs k).setIfInBounds k (.int .i64 vs[k]) = intCells vs (k + 1)) := intCells_set vs k hlt
      have hltI : (k : Int) < (vs.length : Int) := by omega
      go_wp2
      go_roundw
      case rel => exact ⟨k + 1, by omega, by go_num, by rw [HS.out]⟩
      case measure => simp [intOf]; omega
    · have HA : Hid (intCells vs k = intArr vs) := intCells_all vs k (by omega)
      clear hw
      go_wp2
      go_ret
      exact ⟨rfl, by rw [HA.out]⟩

set_option maxHeartbeats 800000 in
theorem eqIntS_yes (a a' : Option Addr) (cap cap' : Nat) (vs : List Int) (w : World) (hw : IntsAt w a vs) (hw' : IntsAt w a' vs) :
    Calls Try.prog 82 #[.slice a vs.length cap, .slice a' vs.length cap'] w fun e w' => e = .returned (.bool true) ∧ Below w.heap.size w w' := by
  have hl := hw.len
  unfold maxLen at hl
  have hnn : ((vs.length : Int) != vs.length) = false := by simp
  go_enter Try.func82, Try.ntmps82
  go_wp2_with fail
  go_loopw [5] (fun i wr => ∃ k : Nat, k ≤ vs.length ∧ i = .int .i64 k ∧ Below w.heap.size w wr) (fun i _ => vs.length - (intOf i).toNat)
  case atStart => exact ⟨0, Nat.zero_le _, rfl, Below.refl _ _⟩
  case round =>
    obtain ⟨k, hk, rfl, hB⟩ := hrel
    by_cases hlt : k < vs.length
    · obtain ⟨b, off, rfl, hb, c0⟩ := hw.load hB k hlt
      obtain ⟨b', off', rfl, hb', d0⟩ := hw'.load hB k hlt
      have hltI : (k : Int) < (vs.length : Int) := by omega
      have hne : (vs[k] != vs[k]) = false := by simp
      clear hw hw'
      go_wp2_with fail
      first
        | exact ⟨⟨k + 1, by omega, by go_num, hB⟩, by simp [intOf]; omega⟩
        | (go_quiet (fail); go_wp2_with fail; exact ⟨⟨k + 1, by omega, by go_num, below_drewN hB _⟩, by simp [intOf]; omega⟩)
    · clear hw hw'
      go_wp2_with fail
      go_ret
      exact ⟨rfl, hB⟩

theorem box_new2 (w : World) (o1 : Obj) (X : Array Value) (t : TypeId) : ∀ o, ((w.alloc o1).alloc (.cells X t)).cell? ⟨w.heap.size + 1, o, none⟩ = X[o]? := by
  intro o
  have h := box_new (w.alloc o1) X t o
  have e : (w.alloc o1).heap.size = w.heap.size + 1 := by simp
  rw [e] at h; exact h

theorem at4' (w : World) (o1 o2 o3 o4 : Obj) : ((((w.alloc o1).alloc o2).alloc o3).alloc o4).heap[w.heap.size + 1 + 1 + 1]? = some o4 := by
  have h := MapKept.heap_alloc (((w.alloc o1).alloc o2).alloc o3) o4
  simpa using h.1
theorem below4' (w : World) (o1 o2 o3 o4 : Obj) : Below w.heap.size w ((((w.alloc o1).alloc o2).alloc o3).alloc o4) :=
  ((((Below.refl _ _).alloc (Nat.le_refl _) _).alloc (by simp) _).alloc (by simp; omega) _).alloc (by simp; omega) _

set_option maxHeartbeats 1000000 in
theorem toGateRule_any (r : Rl) (a : Option Addr) (cap : Nat) (w : World) (hw : IntsAt w a r.vs) (hl : r.vs.length ≤ 1048576) :
    Calls Try.prog 75 #[.agg (r.cells a cap)] w
      fun e w' => ∃ bk, e = .returned (.agg (r.cells (some ⟨bk, 0, none⟩) r.vs.length)) ∧ w.heap.size ≤ bk ∧ bk < w'.heap.size ∧ w'.heap[bk]? = some (.cells (intArr r.vs) 3) ∧ Below w.heap.size w w' := by
  unfold Rl.cells
  go_enter Try.func75, Try.ntmps75
  go_wp2_with (go_at_call 81; refine (toIntS_any _ _ _ _ (by exact hw.mono ((((Below.refl _ _).alloc (Nat.le_refl _) _).alloc (by simp) _).alloc (by simp; omega) _)) hl).mono ?_; rintro e w' ⟨rfl, rfl⟩)
  refine bodyPost_ret (v := .agg #[.slice (some ⟨w.heap.size + 1 + 1 + 1, 0, none⟩) r.vs.length r.vs.length, .string r.kd, .string r.tm, .string r.px]) (by simp [results, Try.results75, go_sem]) rfl ⟨w.heap.size + 1 + 1 + 1, rfl, by omega, by simp, at4' _ _ _ _ _, below4' _ _ _ _ _⟩

set_option maxHeartbeats 1000000 in
theorem eqGateRule_yes (r : Rl) (a a' : Option Addr) (cap cap' : Nat) (w : World) (hw : IntsAt w a r.vs) (hw' : IntsAt w a' r.vs) :
    Calls Try.prog 76 #[.agg (r.cells a cap), .agg (r.cells a' cap')] w fun e w' => e = .returned (.bool true) ∧ Below w.heap.size w w' := by
  unfold Rl.cells
  go_enter Try.func76, Try.ntmps76
  go_wp2_with fail
  refine (eqIntS_yes _ _ _ _ _ _ (hw.mono (below2' _ _ _)) (hw'.mono (below2' _ _ _))).mono ?_
  rintro e w1 ⟨rfl, hb1⟩
  have hX1 := box_later (box_later (box_new w _ _) (by simp) ((Below.refl _ _).alloc (Nat.le_refl _) _)) (by simp; omega) hb1
  have hY1 := box_later (box_new2 w _ _ _) (by simp) hb1
  have hz : w.heap.size + 1 < w1.heap.size := by have := hb1.size; simp at this; omega
  have hB1 := (below2' w _ _).trans (hb1.mono (by simp; omega))
  clear hb1
  go_wp2_with fail
  go_ret
  exact ⟨rfl, hB1⟩

end Go.Proofs.Ytniokfnigmmiiaa

namespace Go.Proofs.Ytniokfnigmmiiaa
open Go.RowKit

/-- What a grant holds. -/
structure Gr where
  no : Int
  to : ByteArray
  gb : ByteArray
  r : Rl

def Gr.cells (g : Gr) (a0 : Option Addr) (c0 : Nat) : Array Value := #[.int .i64 g.no, .string g.to, .string g.gb, .slice a0 g.r.vs.length c0, .string g.r.kd, .string g.r.tm, .string g.r.px]
structure Gr.Small (g : Gr) : Prop where
  to : g.to.size ≤ maxLen
  gb : g.gb.size ≤ maxLen
  r : g.r.Small
def Gr.sz (g : Gr) : Nat := g.to.size + g.gb.size + g.r.sz
theorem Gr.few_of {g : Gr} (h : (g.sz : Int) ≤ 1048576) : g.r.vs.length ≤ 1048576 := by unfold Gr.sz Rl.sz at h; omega

set_option maxHeartbeats 1000000 in
theorem szGateGrant_row (g : Gr) (a0 : Option Addr) (c0 : Nat) (left : Int) (w : World) (hm : g.Small) (hi : IntsAt w a0 g.r.vs) (h0 : 0 ≤ left) (h1 : left ≤ 1048576) :
    Calls Try.prog 60 #[.agg (g.cells a0 c0), .int .i64 left] w fun e w' => e = .returned (.int .i64 (szRes g.sz left)) ∧ Below w.heap.size w w' := by
  have k1 := hm.to
  have k2 := hm.gb
  have HM : Hid (g.r.Small ∧ g.r.vs.length ≤ maxLen) := ⟨hm.r, hi.len⟩
  unfold maxLen at k1 k2
  clear hm hi
  unfold Gr.cells
  have hB : ∀ ob, Below w.heap.size w (w.alloc ob) := fun ob => (Below.refl _ _).alloc (Nat.le_refl _) _
  by_cases c1 : (g.to.size : Int) ≤ left
  rotate_left
  · have HF : Hid (szRes g.sz left = -1) := szRes_no (by unfold Gr.sz; omega)
    go_enter Try.func60, Try.ntmps60
    go_wp2_with fail
    go_ret
    exact ⟨ret_int HF.out.symm, hB _⟩
  by_cases c2 : (g.gb.size : Int) ≤ left - g.to.size
  rotate_left
  · have HF : Hid (szRes g.sz left = -1) := szRes_no (by unfold Gr.sz; omega)
    go_enter Try.func60, Try.ntmps60
    go_wp2_with fail
    go_ret
    exact ⟨ret_int HF.out.symm, hB _⟩
  by_cases c3 : (g.r.sz : Int) ≤ left - g.to.size - g.gb.size
  · have HF : Hid (szRes g.sz left = left - g.to.size - g.gb.size - g.r.sz) := by
      unfold Hid; rw [szRes_yes (by unfold Gr.sz; omega)]; unfold Gr.sz; omega
    go_enter Try.func60, Try.ntmps60
    go_wp2_with fail
    refine (szGateRule_any g.r a0 c0 _ _ HM.out.1 HM.out.2 (by omega) (by omega)).mono ?_
    rintro e w1 ⟨rfl, hb⟩
    rw [szRes_yes c3]
    have hB1 := (hB _).trans (hb.mono (by simp))
    clear hb
    go_wp2_with fail
    go_ret
    exact ⟨ret_int HF.out.symm, hB1⟩
  · have HF : Hid (szRes g.sz left = -1) := szRes_no (by unfold Gr.sz; omega)
    have HC : Hid (¬ (g.r.sz : Int) ≤ left - g.to.size - g.gb.size) := c3
    clear c3
    go_enter Try.func60, Try.ntmps60
    go_wp2_with fail
    refine (szGateRule_any g.r a0 c0 _ _ HM.out.1 HM.out.2 (by omega) (by omega)).mono ?_
    rintro e w1 ⟨rfl, hb⟩
    rw [szRes_no (by have := HC.out; omega)]
    have hB1 := (hB _).trans (hb.mono (by simp))
    clear hb
    go_wp2_with fail
    go_ret
    exact ⟨ret_int HF.out.symm, hB1⟩

set_option maxHeartbeats 1000000 in
theorem eqGateGrant_row (g : Gr) (a0 : Option Addr) (c0 : Nat) (a0' : Option Addr) (c0' : Nat) (w : World) (_hm : g.Small) (hi : IntsAt w a0 g.r.vs) (hi' : IntsAt w a0' g.r.vs) :
    Calls Try.prog 68 #[.agg (g.cells a0 c0), .agg (g.cells a0' c0')] w fun e w' => e = .returned (.bool true) ∧ Below w.heap.size w w' := by
  have hn : (g.no != g.no) = false := by simp
  unfold Gr.cells
  go_enter Try.func68, Try.ntmps68
  go_wp2_with fail
  refine (eqGateRule_yes g.r _ _ _ _ _ (hi.mono (below2' _ _ _)) (hi'.mono (below2' _ _ _))).mono ?_
  rintro e w1 ⟨rfl, hb⟩
  have hB1 := (below2' w _ _).trans (hb.mono (by simp; omega))
  clear hb
  go_wp2_with fail
  go_ret
  exact ⟨rfl, hB1⟩

set_option maxHeartbeats 2000000 in
theorem toGateGrant_row (g : Gr) (a0 : Option Addr) (c0 : Nat) (w : World) (_hm : g.Small) (hi : IntsAt w a0 g.r.vs) (hl : g.r.vs.length ≤ 1048576) :
    Calls Try.prog 64 #[.agg (g.cells a0 c0)] w fun e w' => ∃ g0, e = .returned (.agg (g.cells (some ⟨g0, 0, none⟩) g.r.vs.length)) ∧ w.heap.size ≤ g0 ∧ w'.heap[g0]? = some (.cells (intArr g.r.vs) 3) ∧ Below w.heap.size w w' := by
  unfold Gr.cells
  go_enter Try.func64, Try.ntmps64
  go_wp2_with fail
  have k0 := blk3 w (.cells #[.int .i64 g.no, .string g.to, .string g.gb, .slice a0 g.r.vs.length c0, .string g.r.kd, .string g.r.tm, .string g.r.px] 124) (.cells #[.int .i64 0, .string ByteArray.empty, .string ByteArray.empty, .slice none 0 0, .string ByteArray.empty, .string ByteArray.empty, .string ByteArray.empty] 134) (.cells #[.int .i64 g.no, .string g.to, .string g.gb, .slice none 0 0, .string ByteArray.empty, .string ByteArray.empty, .string ByteArray.empty] 134)
  have hB0 := below3' w (.cells #[.int .i64 g.no, .string g.to, .string g.gb, .slice a0 g.r.vs.length c0, .string g.r.kd, .string g.r.tm, .string g.r.px] 124) (.cells #[.int .i64 0, .string ByteArray.empty, .string ByteArray.empty, .slice none 0 0, .string ByteArray.empty, .string ByteArray.empty, .string ByteArray.empty] 134) (.cells #[.int .i64 g.no, .string g.to, .string g.gb, .slice none 0 0, .string ByteArray.empty, .string ByteArray.empty, .string ByteArray.empty] 134)
  refine (toGateRule_any g.r a0 c0 _ (hi.mono (below3' _ _ _ _)) hl).mono ?_
  rintro e w1 ⟨bk, rfl, hlo, hhi, hbk, hb⟩
  have hlo' : w.heap.size + 1 + 1 + 1 ≤ bk := by simpa using hlo
  have hR1 := (hb.block _ (by simp)).trans k0.2.1
  have hO1 := (hb.block _ (by simp)).trans k0.2.2
  have hB1 := hB0.trans (hb.mono (by simp; omega))
  have HK : Hid (w1.heap[bk]? = some (.cells (intArr g.r.vs) 3)) := hbk
  have cR := fun j => cell_of_block (o := j) hR1
  have fR := fun j => frozen_of_block (o := j) hR1
  have cO := fun j => cell_of_block (o := j) hO1
  have fO := fun j => frozen_of_block (o := j) hO1
  have hz1 : w.heap.size + 1 + 1 < w1.heap.size := (Array.getElem?_eq_some_iff.1 hO1).1
  clear hb hbk k0 hB0 hlo hR1 hO1
  unfold Rl.cells
  go_wp2_with fail
  refine bodyPost_ret (v := .agg #[.int .i64 g.no, .string g.to, .string g.gb, .slice (some ⟨bk, 0, none⟩) g.r.vs.length g.r.vs.length, .string g.r.kd, .string g.r.tm, .string g.r.px]) (by simp [results, Try.results64, go_sem, cR]) rfl ⟨bk, rfl, by omega, ?_, ?_⟩
  · have h1 : bk ≠ w.heap.size + 1 := by omega
    have h2 : bk ≠ w.heap.size + 1 + 1 := by omega
    exact (setCell_other h1).trans ((setCell_other h1).trans ((setCell_other h1).trans ((setCell_other h1).trans ((setCell_other h1).trans ((setCell_other h1).trans ((setCell_other h1).trans ((setCell_other h2).trans ((setCell_other h2).trans ((setCell_other h2).trans ((setCell_other h2).trans HK.out))))))))))
  · have h3 : w.heap.size ≤ w.heap.size + 1 := by omega
    have h4 : w.heap.size ≤ w.heap.size + 1 + 1 := by omega
    exact ((((((((((hB1.setCell h4 _).setCell h4 _).setCell h4 _).setCell h4 _).setCell h3 _).setCell h3 _).setCell h3 _).setCell h3 _).setCell h3 _).setCell h3 _).setCell h3 _

structure GrIn (w : World) (b off : Nat) (x : Gr) (a0 : Option Addr) (c0 : Nat) : Prop where
  small : x.Small
  l0 : IntsAt w a0 x.r.vs
  cell : ∀ j, j < 7 → w.cell? ⟨b, off + j, none⟩ = (Gr.cells x a0 c0)[j]?

structure GrsAt (w : World) (a : Option Addr) (ms : List Gr) : Prop where
  len : ms.length ≤ maxLen
  rows : ms ≠ [] → ∃ b off, a = some ⟨b, off, none⟩ ∧ b < w.heap.size ∧ ∀ i (h : i < ms.length), ∃ a0 c0, GrIn w b (off + i * 7) ms[i] a0 c0

theorem GrIn.mono {w w' : World} {b off : Nat} {x : Gr} {a0 : Option Addr} {c0 : Nat} (h : GrIn w b off x a0 c0) (hb : b < w.heap.size) (hl : Below w.heap.size w w') : GrIn w' b off x a0 c0 :=
  ⟨h.small, h.l0.mono hl, fun j hj => (hl.cell (p := ⟨b, off + j, none⟩) hb).trans (h.cell j hj)⟩

theorem GrsAt.mono {w w' : World} {a : Option Addr} {ms : List Gr} (h : GrsAt w a ms) (hl : Below w.heap.size w w') : GrsAt w' a ms :=
  ⟨h.len, fun hne => by
    obtain ⟨b, off, ha, hb, hr⟩ := h.rows hne
    refine ⟨b, off, ha, Nat.lt_of_lt_of_le hb hl.size, fun i hi => ?_⟩
    obtain ⟨a0, c0, hf⟩ := hr i hi
    exact ⟨a0, c0, hf.mono hb hl⟩⟩

theorem GrsAt.load {w w' : World} {a : Option Addr} {ms : List Gr} (h : GrsAt w a ms) (hl : Below w.heap.size w w') (i : Nat) (hi : i < ms.length) : ∃ b off a0 c0, a = some ⟨b, off, none⟩ ∧ b < w.heap.size ∧ ms[i].Small ∧ IntsAt w' a0 ms[i].r.vs ∧
    w'.cell? ⟨b, off + i * 7, none⟩ = some (.int .i64 ms[i].no) ∧ w'.cell? ⟨b, off + i * 7 + 1, none⟩ = some (.string ms[i].to) ∧ w'.cell? ⟨b, off + i * 7 + 2, none⟩ = some (.string ms[i].gb) ∧ w'.cell? ⟨b, off + i * 7 + 3, none⟩ = some (.slice a0 ms[i].r.vs.length c0) ∧ w'.cell? ⟨b, off + i * 7 + 4, none⟩ = some (.string ms[i].r.kd) ∧ w'.cell? ⟨b, off + i * 7 + 5, none⟩ = some (.string ms[i].r.tm) ∧ w'.cell? ⟨b, off + i * 7 + 6, none⟩ = some (.string ms[i].r.px) := by
  obtain ⟨b, off, ha, hb, hr⟩ := h.rows (by rintro rfl; simp at hi)
  obtain ⟨a0, c0, hf0⟩ := hr i hi
  have hf := hf0.mono hb hl
  exact ⟨b, off, a0, c0, ha, hb, hf.small, hf.l0, hf.cell 0 (by omega), hf.cell 1 (by omega), hf.cell 2 (by omega), hf.cell 3 (by omega), hf.cell 4 (by omega), hf.cell 5 (by omega), hf.cell 6 (by omega)⟩

def sumGr (ms : List Gr) : Nat := (ms.map Gr.sz).sum
def szGrs (ms : List Gr) : Nat := ms.length + sumGr ms

structure GrsSmall (ms : List Gr) : Prop where
  small : ∀ i (h : i < ms.length), ms[i].Small ∧ ms[i].r.vs.length ≤ maxLen

theorem GrsAt.smalls {w : World} {a : Option Addr} {ms : List Gr} (h : GrsAt w a ms) : GrsSmall ms :=
  ⟨fun i hi => by
    obtain ⟨b, off, _, _, hr⟩ := h.rows (by rintro rfl; simp at hi)
    obtain ⟨a0, c0, hf⟩ := hr i hi
    exact ⟨hf.small, hf.l0.len⟩⟩

theorem Grs_few {ms : List Gr} {left : Int} (h : (szGrs ms : Int) ≤ left) (hl : left ≤ 1048576) : ms.length ≤ 1048576 ∧ ∀ i (h : i < ms.length), ms[i].r.vs.length ≤ 1048576 := by
  unfold szGrs at h
  refine ⟨by omega, fun i hi => ?_⟩
  have h1 : ms[i].sz ≤ sumGr ms := sum_mem Gr.sz ms i hi
  exact Gr.few_of (by omega)

set_option maxHeartbeats 1000000 in
theorem szGateGrantS_any (a : Option Addr) (cap : Nat) (ms : List Gr) (left : Int) (w : World) (hw : GrsAt w a ms) (h0 : 0 ≤ left) (h1 : left ≤ 1048576) :
    Calls Try.prog 35 #[.slice a ms.length cap, .int .i64 left] w fun e w' => e = .returned (.int .i64 (szRes (szGrs ms) left)) ∧ Below w.heap.size w w' := by
  have hl := hw.len
  unfold maxLen at hl
  by_cases hfit : (ms.length : Int) ≤ left
  · go_enter Try.func35, Try.ntmps35
    go_wp2_with fail
    go_loopw [1, 5] (fun l i wr => ∃ k : Nat, k ≤ ms.length ∧ i = .int .i64 k ∧ 0 ≤ left - ms.length - sumGr (ms.take k) ∧ l = .int .i64 (left - ms.length - sumGr (ms.take k)) ∧ Below w.heap.size w wr) (fun _ i _ => ms.length - (intOf i).toNat)
    case atStart => exact ⟨0, Nat.zero_le _, rfl, by simp [sumGr]; omega, by simp [sumGr], Below.refl _ _⟩
    case round =>
      obtain ⟨k, hk, rfl, hpos, rfl, hB⟩ := hrel
      by_cases hlt : k < ms.length
      · obtain ⟨b, off, a0, c0, rfl, hb, hsm, hl0, d0, d1, d2, d3, d4, d5, d6⟩ := hw.load hB k hlt
        have hbr : b < wr.heap.size := Nat.lt_of_lt_of_le hb hB.size
        have HS : Hid (sumGr (ms.take (k + 1)) = sumGr (ms.take k) + ms[k].sz) := sum_snoc Gr.sz ms k hlt
        have hle : sumGr (ms.take (k + 1)) ≤ sumGr ms := sum_le Gr.sz ms (k + 1)
        have HI : Hid (IntsAt wr a0 ms[k].r.vs) := hl0
        clear hw hl0
        by_cases hneg : (ms[k].sz : Int) ≤ left - ms.length - sumGr (ms.take k)
        · have HNG : Hid ((ms[k].sz : Int) ≤ left - ms.length - sumGr (ms.take k)) := hneg
          clear hle
          go_wp2_with fail
          refine (szGateGrant_row ms[k] a0 c0 _ _ hsm HI.out hpos (by omega)).mono ?_
          rintro e w1 ⟨rfl, hb1⟩
          rw [szRes_yes HNG.out]
          have hB1 := hB.trans (hb1.mono hB.size)
          clear hb1
          go_wp2_with fail
          exact ⟨⟨k + 1, by omega, by go_num, by rw [HS.out]; omega, by rw [HS.out]; congr 1; omega, hB1⟩, by simp [intOf]; omega⟩
        · have HF : Hid (szRes (szGrs ms) left = -1) := szRes_no (by have := HS.out; unfold szGrs; omega)
          have HNG : Hid (¬ (ms[k].sz : Int) ≤ left - ms.length - sumGr (ms.take k)) := hneg
          clear hneg hle
          go_wp2_with fail
          refine (szGateGrant_row ms[k] a0 c0 _ _ hsm HI.out hpos (by omega)).mono ?_
          rintro e w1 ⟨rfl, hb1⟩
          rw [szRes_no (by have := HNG.out; omega)]
          have hB1 := hB.trans (hb1.mono hB.size)
          clear hb1
          go_wp2_with fail
          go_ret
          exact ⟨ret_int HF.out.symm, hB1⟩
      · have HF : Hid (szRes (szGrs ms) left = left - ms.length - sumGr (ms.take k)) := by
          rw [List.take_of_length_le (by omega)] at hpos ⊢
          have e : szRes (szGrs ms) left = left - szGrs ms := szRes_yes (by unfold szGrs; omega)
          unfold Hid; rw [e]; unfold szGrs; omega
        clear hw
        go_wp2
        go_ret
        exact ⟨ret_int HF.out.symm, hB⟩
  · have HF : Hid (szRes (szGrs ms) left = -1) := szRes_no (by unfold szGrs; omega)
    clear hw
    go_enter Try.func35, Try.ntmps35
    go_wp2
    go_ret
    exact ⟨ret_int HF.out.symm, Below.refl _ _⟩

set_option maxHeartbeats 2000000 in
theorem eqGateGrantS_yes (a a' : Option Addr) (cap cap' : Nat) (ms : List Gr) (w : World) (hw : GrsAt w a ms) (hw' : GrsAt w a' ms) :
    Calls Try.prog 45 #[.slice a ms.length cap, .slice a' ms.length cap'] w fun e w' => e = .returned (.bool true) ∧ Below w.heap.size w w' := by
  have hl := hw.len
  unfold maxLen at hl
  have hnn : ((ms.length : Int) != ms.length) = false := by simp
  go_enter Try.func45, Try.ntmps45
  go_wp2_with fail
  go_loopw [5] (fun i wr => ∃ k : Nat, k ≤ ms.length ∧ i = .int .i64 k ∧ Below w.heap.size w wr) (fun i _ => ms.length - (intOf i).toNat)
  case atStart => exact ⟨0, Nat.zero_le _, rfl, Below.refl _ _⟩
  case round =>
    obtain ⟨k, hk, rfl, hB⟩ := hrel
    by_cases hlt : k < ms.length
    · obtain ⟨b, off, a0, c0, rfl, hb, hsm, hl0, d0, d1, d2, d3, d4, d5, d6⟩ := hw.load hB k hlt
      obtain ⟨b', off', a0', c0', rfl, hb', _, hl0', f0, f1, f2, f3, f4, f5, f6⟩ := hw'.load hB k hlt
      have hltI : (k : Int) < (ms.length : Int) := by omega
      clear hw hw'
      go_wp2_with fail
      go_region_with (go_at_call 68; refine (eqGateGrant_row ms[k] a0 c0 a0' c0' _ hsm (by exact hl0.mono ((Below.refl _ _).drew)) (by exact hl0'.mono ((Below.refl _ _).drew))).mono ?_; rintro e w1 ⟨rfl, hb1'⟩; have hb1 := (Below.refl wr.heap.size wr).drew.trans hb1'; clear hb1')
      all_goals go_wp2_with fail
      all_goals exact ⟨⟨k + 1, by omega, by go_num, hB.trans (hb1.mono hB.size)⟩, by simp [intOf]; omega⟩
    · clear hw hw'
      go_wp2_with fail
      go_ret
      exact ⟨rfl, hB⟩

/-- A row in memory of its own, the first k laid; each item's lists in blocks of their own. -/
structure GrsOwn (lo : Nat) (w : World) (bo : Nat) (ms : List Gr) (k : Nat) : Prop where
  low : lo ≤ bo
  rows : ∃ C, w.heap[bo]? = some (.cells C 134) ∧ C.size = ms.length * 7 ∧
    ∀ i (h : i < ms.length), i < k → ∃ g0, lo ≤ g0 ∧ g0 ≠ bo ∧ w.heap[g0]? = some (.cells (intArr ms[i].r.vs) 3) ∧ ∀ j, j < 7 → C[i * 7 + j]? = (Gr.cells ms[i] (some ⟨g0, 0, none⟩) ms[i].r.vs.length)[j]?

theorem GrsOwn.at {lo : Nat} {w : World} {bo : Nat} {ms : List Gr} (h : GrsOwn lo w bo ms ms.length) (hs : GrsSmall ms) (hl : ms.length ≤ maxLen) : GrsAt w (some ⟨bo, 0, none⟩) ms := by
  obtain ⟨C, hC, hsz, hr⟩ := h.rows
  refine ⟨hl, fun _ => ⟨bo, 0, rfl, (Array.getElem?_eq_some_iff.1 hC).1, fun i hi => ?_⟩⟩
  obtain ⟨g0, _, _, hk0, hc⟩ := hr i hi hi
  obtain ⟨s0, s1⟩ := hs.small i hi
  refine ⟨some ⟨g0, 0, none⟩, ms[i].r.vs.length, s0, heap_ints hk0 s1, fun j hj => ?_⟩
  rw [cell_of_block hC, Nat.zero_add]
  exact hc j hj

theorem GrsOwn.above {lo : Nat} {w w' : World} {bo : Nat} {ms : List Gr} {k : Nat} (h : GrsOwn lo w bo ms k) (ha : Above lo w w') : GrsOwn lo w' bo ms k := by
  obtain ⟨C, hC, hsz, hr⟩ := h.rows
  refine ⟨h.low, C, (ha.same _ h.low (Array.getElem?_eq_some_iff.1 hC).1).trans hC, hsz, fun i hi hk => ?_⟩
  obtain ⟨g0, p0, q0, r0, hc⟩ := hr i hi hk
  exact ⟨g0, p0, q0, (ha.same _ p0 (Array.getElem?_eq_some_iff.1 r0).1).trans r0, hc⟩

theorem GrsOwn.later {lo : Nat} {w w' : World} {bo : Nat} {ms : List Gr} {k : Nat} (h : GrsOwn lo w bo ms k) (hb : Below w.heap.size w w') : GrsOwn lo w' bo ms k := h.above (Above.below hb)

theorem GrsOwn.weaken {lo lo' : Nat} {w : World} {bo : Nat} {ms : List Gr} {k : Nat} (h : GrsOwn lo w bo ms k) (hl : lo' ≤ lo) : GrsOwn lo' w bo ms k := by
  obtain ⟨C, hC, hsz, hr⟩ := h.rows
  refine ⟨Nat.le_trans hl h.low, C, hC, hsz, fun i hi hk => ?_⟩
  obtain ⟨g0, p0, q0, r0, hc⟩ := hr i hi hk
  exact ⟨g0, Nat.le_trans hl p0, q0, r0, hc⟩

def putGr (w : World) (b o : Nat) (v0 v1 v2 v3 v4 v5 v6 : Value) : World := (((((((w.setCell ⟨b, o, none⟩ v0).setCell ⟨b, o + 1, none⟩ v1).setCell ⟨b, o + 2, none⟩ v2).setCell ⟨b, o + 3, none⟩ v3).setCell ⟨b, o + 4, none⟩ v4).setCell ⟨b, o + 5, none⟩ v5).setCell ⟨b, o + 6, none⟩ v6)
def setGr (C : Array Value) (o : Nat) (v0 v1 v2 v3 v4 v5 v6 : Value) : Array Value := (((((((C.setIfInBounds (o) v0).setIfInBounds (o + 1) v1).setIfInBounds (o + 2) v2).setIfInBounds (o + 3) v3).setIfInBounds (o + 4) v4).setIfInBounds (o + 5) v5).setIfInBounds (o + 6) v6)
theorem putGr_block {w : World} {b o : Nat} {C : Array Value} {t : TypeId} (h : w.heap[b]? = some (.cells C t)) (v0 v1 v2 v3 v4 v5 v6 : Value) : (putGr w b o v0 v1 v2 v3 v4 v5 v6).heap[b]? = some (.cells (setGr C o v0 v1 v2 v3 v4 v5 v6) t) :=
  heap_setCell_at (heap_setCell_at (heap_setCell_at (heap_setCell_at (heap_setCell_at (heap_setCell_at (heap_setCell_at h v0) v1) v2) v3) v4) v5) v6
theorem putGr_below {B : Nat} {a w : World} (h : Below B a w) {b : Nat} (hb : B ≤ b) (o : Nat) (v0 v1 v2 v3 v4 v5 v6 : Value) : Below B a (putGr w b o v0 v1 v2 v3 v4 v5 v6) :=
  ((((((h.setCell hb v0).setCell hb v1).setCell hb v2).setCell hb v3).setCell hb v4).setCell hb v5).setCell hb v6
theorem putGr_other (w : World) (b o : Nat) (v0 v1 v2 v3 v4 v5 v6 : Value) {b' : Nat} (h : b' ≠ b) : (putGr w b o v0 v1 v2 v3 v4 v5 v6).heap[b']? = w.heap[b']? := by
  unfold putGr
  iterate 7 rw [setCell_other h]
theorem setGr_size (C : Array Value) (o : Nat) (v0 v1 v2 v3 v4 v5 v6 : Value) : (setGr C o v0 v1 v2 v3 v4 v5 v6).size = C.size := by simp [setGr]
theorem setGr_out (C : Array Value) (o i : Nat) (v0 v1 v2 v3 v4 v5 v6 : Value) (h : i < o ∨ o + 7 ≤ i) : (setGr C o v0 v1 v2 v3 v4 v5 v6)[i]? = C[i]? := by
  unfold setGr
  iterate 7 rw [Array.getElem?_setIfInBounds, if_neg (by omega)]
theorem setGr_in (C : Array Value) (o j : Nat) (v0 v1 v2 v3 v4 v5 v6 : Value) (hj : j < 7) (ho : o + 7 ≤ C.size) : (setGr C o v0 v1 v2 v3 v4 v5 v6)[o + j]? = (#[v0, v1, v2, v3, v4, v5, v6] : Array Value)[j]? := by
  have hc : j = 0 ∨ j = 1 ∨ j = 2 ∨ j = 3 ∨ j = 4 ∨ j = 5 ∨ j = 6 := by omega
  unfold setGr
  rcases hc with h | h | h | h | h | h | h <;> subst h <;> simp [Array.getElem?_setIfInBounds] <;> omega

theorem GrsOwn.put {lo : Nat} {w : World} {bo : Nat} {ms : List Gr} {k : Nat} (h : GrsOwn lo w bo ms k) (hk : k < ms.length) (g0 : Nat) (p0 : lo ≤ g0) (q0 : g0 ≠ bo) (r0 : w.heap[g0]? = some (.cells (intArr ms[k].r.vs) 3)) :
    GrsOwn lo (putGr w bo (k * 7) (.int .i64 ms[k].no) (.string ms[k].to) (.string ms[k].gb) (.slice (some ⟨g0, 0, none⟩) ms[k].r.vs.length ms[k].r.vs.length) (.string ms[k].r.kd) (.string ms[k].r.tm) (.string ms[k].r.px)) bo ms (k + 1) := by
  obtain ⟨C, hC, hsz, hr⟩ := h.rows
  refine ⟨h.low, _, putGr_block hC _ _ _ _ _ _ _, by rw [setGr_size]; exact hsz, fun i hi hik => ?_⟩
  rcases Nat.lt_or_ge i k with hlt | hge
  · obtain ⟨g0', x0, y0, z0, hc⟩ := hr i hi hlt
    refine ⟨g0', x0, y0, (by rw [putGr_other _ _ _ _ _ _ _ _ _ _ y0]; exact z0), fun j hj => ?_⟩
    rw [setGr_out _ _ _ _ _ _ _ _ _ _ (by omega)]
    exact hc j hj
  · have e : i = k := by omega
    subst e
    refine ⟨g0, p0, q0, (by rw [putGr_other _ _ _ _ _ _ _ _ _ _ q0]; exact r0), fun j hj => ?_⟩
    rw [setGr_in _ _ _ _ _ _ _ _ _ _ hj (by omega)]
    rfl

def zeroGr : Array Value := #[.int .i64 0, .string ByteArray.empty, .string ByteArray.empty, .slice none 0 0, .string ByteArray.empty, .string ByteArray.empty, .string ByteArray.empty]
def zeroGrs (n : Nat) : Array Value := madeCells zeroGr (n * 7)

set_option maxHeartbeats 2000000 in
theorem toGateGrantS_any (a : Option Addr) (cap : Nat) (ms : List Gr) (w : World) (hw : GrsAt w a ms) (hl : ms.length ≤ 1048576) (hls : ∀ i (h : i < ms.length), ms[i].r.vs.length ≤ 1048576) :
    Calls Try.prog 40 #[.slice a ms.length cap] w fun e w' => e = .returned (.slice (some ⟨w.heap.size, 0, none⟩) ms.length ms.length) ∧ GrsOwn w.heap.size w' w.heap.size ms ms.length ∧ Below w.heap.size w w' := by
  have hmk : ∀ w : World, (Instr.makeSlice 53 (.int .i64 ms.length) (.int .i64 ms.length)).run Try.prog w = .ok (.slice (some ⟨w.heap.size, 0, none⟩) ms.length ms.length) (w.alloc (.cells (zeroGrs ms.length) 134)) :=
    fun w => run_make_rows (P := Try.prog) 53 134 (.agg zeroGr) 7 112 Try.underlying53 (by kernel_rfl) ms.length (by omega) (by omega) w
  go_enter Try.func40, Try.ntmps40
  go_wp2_with fail
  clear hmk
  go_loopw [4] (fun i wr => ∃ k : Nat, k ≤ ms.length ∧ i = .int .i64 k ∧ Hid (GrsOwn w.heap.size wr w.heap.size ms k) ∧ Below w.heap.size w wr) (fun i _ => ms.length - (intOf i).toNat)
  case atStart => exact ⟨0, Nat.zero_le _, rfl, ⟨Nat.le_refl _, zeroGrs ms.length, (MapKept.heap_alloc w _).1, size_madeCells _ _, fun i _ h => absurd h (by omega)⟩, (Below.refl _ _).alloc (Nat.le_refl _) _⟩
  case round =>
    obtain ⟨k, hk, rfl, HOW, hB⟩ := hrel
    by_cases hlt : k < ms.length
    · obtain ⟨b, off, a0, c0, rfl, hb, hsm, hl0, d0, d1, d2, d3, d4, d5, d6⟩ := hw.load hB k hlt
      have HLS : Hid (ms[k].r.vs.length ≤ 1048576) := hls k hlt
      have hltI : (k : Int) < (ms.length : Int) := by omega
      clear hw
      go_wp2_with fail
      refine (toGateGrant_row ms[k] a0 c0 _ hsm hl0 HLS.out).mono ?_
      rintro e w1 ⟨g0, rfl, p0, r0, hb1⟩
      have hB1 := hB.trans (hb1.mono hB.size)
      have hbo : w.heap.size < wr.heap.size := by
        obtain ⟨C', hC', _⟩ := HOW.out.rows
        exact (Array.getElem?_eq_some_iff.1 hC').1
      have HP : Hid (GrsOwn w.heap.size w1 w.heap.size ms k) := HOW.out.later hb1
      obtain ⟨C, hC, hsz, _⟩ := HP.out.rows
      have hfz : ∀ o, w1.frozen? ⟨w.heap.size, o, none⟩ = false := fun o => frozen_of_block hC
      have hex : ∀ o, o < ms.length * 7 → ∃ v, w1.cell? ⟨w.heap.size, o, none⟩ = some v := fun o ho => ⟨C[o]'(by omega), by rw [cell_of_block hC]; exact Array.getElem?_eq_getElem (by omega)⟩
      obtain ⟨v0, hv0⟩ := hex (k * 7) (by omega)
      obtain ⟨v1, hv1⟩ := hex (k * 7 + 1) (by omega)
      obtain ⟨v2, hv2⟩ := hex (k * 7 + 2) (by omega)
      obtain ⟨v3, hv3⟩ := hex (k * 7 + 3) (by omega)
      obtain ⟨v4, hv4⟩ := hex (k * 7 + 4) (by omega)
      obtain ⟨v5, hv5⟩ := hex (k * 7 + 5) (by omega)
      obtain ⟨v6, hv6⟩ := hex (k * 7 + 6) (by omega)
      have HR : Hid (wr.heap.size ≤ g0 ∧ w1.heap[g0]? = some (.cells (intArr ms[k].r.vs) 3)) := ⟨p0, r0⟩
      clear hex hC hsz d0 d1 d2 d3 d4 d5 d6 p0 r0 hl0
      unfold Gr.cells
      go_wp2_with fail
      obtain ⟨p0, r0⟩ := HR.out
      exact ⟨⟨k + 1, by omega, by go_num, HP.out.put hlt g0 (by omega) (by omega) r0, putGr_below hB1 (Nat.le_refl _) _ _ _ _ _ _ _ _⟩, by simp [intOf]; omega⟩
    · have HF : Hid (GrsOwn w.heap.size wr w.heap.size ms ms.length) := by
        have e : k = ms.length := by omega
        subst e; exact HOW.out
      clear hw HOW
      go_wp2_with fail
      go_ret
      exact ⟨rfl, HF.out, hB⟩

end Go.Proofs.Ytniokfnigmmiiaa
