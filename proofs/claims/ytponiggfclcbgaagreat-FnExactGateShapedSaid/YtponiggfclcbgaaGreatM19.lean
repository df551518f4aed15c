import Derived.Test.YtponiggfclcbgaaGreatM17
import Derived.Test.YtponiggfclcbgaaGreatM10
import Derived.Test.YtponiggfclcbgaaGreatM18
import Derived.Test.YtponiggfclcbgaaGreatM01
import Derived.Test.YtponiggfclcbgaaGreatM06
import Derived.Test.YtponiggfclcbgaaGreatM09
import Derived.Deep.RegionHeld3
namespace Go.Proofs.YtponiggfclcbgaaGreat
open Go.RowKit

theorem mem_df {fs : List Fld} (h : FldsSmall fs) : ∀ f ∈ fs, f.df.size ≤ maxLen := by
  intro f hf
  obtain ⟨i, hi, rfl⟩ := List.mem_iff_getElem.1 hf
  exact (h.small i hi).1.df

theorem fill_small {ss : List Shp} {o : Ob} (hs : ShpsSmall ss) (ho : ∀ s ∈ o.vs, s.size ≤ maxLen) : ∀ s ∈ Gate.fillRes ss o, s.size ≤ maxLen := by
  unfold Gate.fillRes
  split
  · rename_i h
    have hf : FldsSmall (Gate.shapeOf ss o.kd).fs := by
      obtain ⟨hk, _, _⟩ := h
      unfold Gate.hasKind at hk
      rw [List.any_eq_true] at hk
      obtain ⟨x, hx, he⟩ := hk
      unfold Gate.shapeOf
      cases hfi : ss.find? (fun s => decide (s.kd = o.kd)) with
      | none => rw [List.find?_eq_none] at hfi; exact absurd he (hfi x hx)
      | some y =>
        obtain ⟨i, hi, rfl⟩ := List.mem_iff_getElem.1 (List.mem_of_find?_eq_some hfi)
        exact (hs.small i hi).2.2
    intro s hm
    obtain ⟨i, hi, rfl⟩ := List.mem_iff_getElem.1 hm
    have hl := Gate.fillVs_length h.2.2
    have e : (Gate.fillVs (Gate.shapeOf ss o.kd).fs o.vs)[i] = Gate.fillVal ((Gate.shapeOf ss o.kd).fs[i]'(by have := h.2.2; omega)) (o.vs[i]'(by omega)) := by simp [Gate.fillVs]
    rw [e]
    unfold Gate.fillVal
    split
    · exact mem_df hf _ (List.getElem_mem _)
    · exact ho _ (List.getElem_mem _)
  · exact ho

/-- A cut behind a region: what holds behind each way is told once. -/
theorem region_cut {P : Program} {id : Nat} {ops : Array Oper} {b : Bool} {Q : Exit → Act → World → Prop} {a : Act} {w : World} (R : Act → Act → World → Prop) (h1 : (Code.region id ops b).wp P (fun e a' w' => e = .normal ∧ R a a' w') a w) (h2 : ∀ a' w', R a a' w' → Q .normal a' w') : (Code.region id ops b).wp P Q a w :=
  Code.wp_mono (fun e a' w' ⟨he, hr⟩ => by subst he; exact h2 a' w' hr) h1

theorem put7_at {w : World} {b : Nat} {x0 x1 x2 x3 x4 x5 x6 : Value} {t : TypeId} (h : w.heap[b]? = some (.cells #[x0, x1, x2, x3, x4, x5, x6] t)) (v0 v1 v2 v3 v4 v5 v6 : Value) : (put7 w b v0 v1 v2 v3 v4 v5 v6).heap[b]? = some (.cells #[v0, v1, v2, v3, v4, v5, v6] t) := by
  unfold put7
  rw [heap_setCell_at (heap_setCell_at (heap_setCell_at (heap_setCell_at (heap_setCell_at (heap_setCell_at (heap_setCell_at h v0) v1) v2) v3) v4) v5) v6]
  rfl

theorem put7_other {w : World} {b c : Nat} (h : c ≠ b) (v0 v1 v2 v3 v4 v5 v6 : Value) : (put7 w b v0 v1 v2 v3 v4 v5 v6).heap[c]? = w.heap[c]? := by
  unfold put7
  rw [Below.heap_setCell _ _ _ _ h, Below.heap_setCell _ _ _ _ h, Below.heap_setCell _ _ _ _ h, Below.heap_setCell _ _ _ _ h, Below.heap_setCell _ _ _ _ h, Below.heap_setCell _ _ _ _ h, Below.heap_setCell _ _ _ _ h]

theorem blk_cells {w : World} {b : Nat} {X : Array Value} {t : TypeId} (h : w.heap[b]? = some (.cells X t)) : ∀ j, w.cell? ⟨b, j, none⟩ = X[j]? := fun _ => cell_of_block h
theorem blk_frozen {w : World} {b : Nat} {X : Array Value} {t : TypeId} (h : w.heap[b]? = some (.cells X t)) : ∀ j, w.frozen? ⟨b, j, none⟩ = false := fun _ => frozen_of_block h

theorem zero_next {w w3 : World} {b : Nat} {X : Array Value} {t : TypeId} (HZ : Hid (w.heap[b]? = some (.cells X t))) (hb : Below w.heap.size w w3) : Hid (w3.heap[b]? = some (.cells X t)) := (hb.block b (Array.getElem?_eq_some_iff.1 HZ.out).1).trans HZ.out
theorem zero_new {w w3 : World} {X : Array Value} {t : TypeId} (hb : Below (w.alloc (.cells X t)).heap.size (w.alloc (.cells X t)) w3) : Hid (w3.heap[w.heap.size]? = some (.cells X t)) := (hb.block _ (by simp)).trans (alloc_at _ _)

theorem cell_alloc_old {w : World} {ob : Obj} {b j : Nat} (h : b < w.heap.size) : (w.alloc ob).cell? ⟨b, j, none⟩ = w.cell? ⟨b, j, none⟩ := World.cell?_alloc_lt _ _ _ h
theorem cell_set7 {w : World} {b g o : Nat} (h : b ≠ g) {v0 v1 v2 v3 v4 v5 v6 : Value} : (((((((w.setCell ⟨g, 0, none⟩ v0).setCell ⟨g, 1, none⟩ v1).setCell ⟨g, 2, none⟩ v2).setCell ⟨g, 3, none⟩ v3).setCell ⟨g, 4, none⟩ v4).setCell ⟨g, 5, none⟩ v5).setCell ⟨g, 6, none⟩ v6).cell? ⟨b, o, none⟩ = w.cell? ⟨b, o, none⟩ := by
  unfold World.cell?
  have e := put7_other (w := w) h v0 v1 v2 v3 v4 v5 v6
  unfold put7 at e
  rw [e]

theorem cell_alloc_drew {w : World} {ob : Obj} {b j : Nat} (h : b < w.heap.size) : (w.alloc ob).drew.cell? ⟨b, j, none⟩ = w.cell? ⟨b, j, none⟩ := World.cell?_alloc_lt _ _ _ h
theorem zero_new' {w w3 : World} {X : Array Value} {t : TypeId} (hb : Below (w.alloc (.cells X t)).drew.heap.size (w.alloc (.cells X t)).drew w3) : Hid (w3.heap[w.heap.size]? = some (.cells X t)) := (hb.block _ (by show w.heap.size < (w.alloc (.cells X t)).heap.size; simp)).trans (alloc_at _ _)

theorem size_of {w w3 : World} (_hb : Below w.heap.size w w3) : w.heap.size = w.heap.size := rfl
theorem size_alloc_lt {w w3 : World} {ob : Obj} (_hb : Below (w.alloc ob).heap.size (w.alloc ob) w3) : w.heap.size < (w.alloc ob).heap.size := by simp

theorem TxtsOwn.ge {lo : Nat} {w : World} {a : Option Addr} {ws : List ByteArray} (h : TxtsOwn lo w a ws) : ∀ g, a = some g → lo ≤ g.block := by
  intro g hg
  subst hg
  obtain ⟨b, C, rfl, hlo, _⟩ := h.form
  exact hlo
theorem strs_form {lo : Nat} {w : World} {b : Nat} {ws : List ByteArray} (h : w.heap[b]? = some (.cells (strArr ws) 9)) (hl : lo ≤ b) : TxtsForm lo w.heap.size w b ws.length :=
  ⟨hl, (Array.getElem?_eq_some_iff.1 h).1, strArr ws, h, by simp [strArr], fun j _ => strArr_noSlice _ _⟩

theorem TxtsForm.wide {lo lo' hi : Nat} {w : World} {b n : Nat} (h : TxtsForm lo hi w b n) (hl : lo' ≤ lo) : TxtsForm lo' hi w b n := ⟨Nat.le_trans hl h.low, h.high, h.rows⟩

/-- An answer is marked. -/
theorem markFill_own (o : Ob) (vs : List ByteArray) (hvl : vs.length = o.vs.length) (lo m hi : Nat) (a a' : Option Addr) (cap cap' : Nat) (w : World) (h : TxtsOwn lo w a vs) (hm : ∀ g, a = some g → g.block < m) (hlm : lo ≤ m) (h' : TxtsOwn m w a' o.hs) (hl : o.vs.length ≤ 1048576) (hl' : o.hs.length ≤ 1048576) (hu : ∀ g, a = some g → g.block < hi) (hu' : ∀ g, a' = some g → g.block < hi) (hhi : hi ≤ w.heap.size) :
    Calls Tryz.prog 19 #[.agg #[.string o.kd, .string o.nm, .string o.tm, .slice a o.vs.length cap, .bool o.en, .slice a' o.hs.length cap', .int .i64 o.vr], .int .i64 1] w
      fun e w' => e = .returned (.int .i64 ((1 + o.vs.length + o.hs.length : Nat) : Int)) ∧ TxtsOwn lo w' a (markTxts 1 o.vs.length) ∧ TxtsOwn m w' a' (markTxts (1 + o.vs.length) o.hs.length) ∧ Marked lo hi w w' := by
  have h := markGateObject_own lo m hi ⟨o.kd, o.nm, o.tm, vs, o.en, o.hs, o.vr⟩ a a' cap cap' w h hm hlm h' (by rw [hvl]; exact hl) hl' hu hu' hhi
  simp only [hvl] at h
  exact h

theorem digits_size : ∀ (n : Nat) (acc : ByteArray), (Gate.digits n acc).size ≤ acc.size + n := by
  intro n
  induction n using Nat.strongRecOn with
  | ind n ih =>
    intro acc
    rcases Nat.eq_zero_or_pos n with rfl | h
    · rw [Gate.digits_zero]; omega
    · rw [Gate.digits_pos h]
      have h1 := ih (n / 10) (by omega) (Gate.digitTxt (n % 10) ++ acc)
      rw [ByteArray.size_append] at h1
      have h2 : (Gate.digitTxt (n % 10)).size = 1 := rfl
      omega

theorem markTxts_small (k n : Nat) (h : k + n < 100000000) : ∀ s ∈ markTxts k n, s.size ≤ maxLen := by
  intro s hs
  simp only [markTxts, List.mem_map, List.mem_range] at hs
  obtain ⟨i, hi, rfl⟩ := hs
  unfold Gate.markTxt
  rw [ByteArray.size_append]
  have h1 := digits_size (k + i) ByteArray.empty
  have h2 : (ByteArray.mk #[109]).size = 1 := rfl
  have h3 : ByteArray.empty.size = 0 := rfl
  unfold maxLen
  omega

/-- Two answers with the same values are equal. -/
theorem eqFill_yes (o : Ob) (vs : List ByteArray) (hvl : vs.length = o.vs.length) (a a' b b' : Option Addr) (cap cap' dap dap' : Nat) (w : World) (hsm : o.Small) (h1 : StrsAt w a vs) (h2 : StrsAt w a' o.hs) (h3 : StrsAt w b vs) (h4 : StrsAt w b' o.hs) :
    Calls Tryz.prog 14 #[.agg #[.string o.kd, .string o.nm, .string o.tm, .slice a o.vs.length cap, .bool o.en, .slice a' o.hs.length cap', .int .i64 o.vr], .agg #[.string o.kd, .string o.nm, .string o.tm, .slice b o.vs.length dap, .bool o.en, .slice b' o.hs.length dap', .int .i64 o.vr]] w fun e w' => e = .returned (.bool true) ∧ Below w.heap.size w w' := by
  have h := eqGateObject_yes ⟨o.kd, o.nm, o.tm, vs, o.en, o.hs, o.vr⟩ a a' b b' cap cap' dap dap' w ⟨⟨hsm.kd, hsm.nm, hsm.tm⟩, h1, h2⟩ ⟨⟨hsm.kd, hsm.nm, hsm.tm⟩, h3, h4⟩
  simp only [hvl] at h
  exact h

end Go.Proofs.YtponiggfclcbgaaGreat

namespace Go.Proofs.YtponiggfclcbgaaGreat
open Go.RowKit

/-- What a mend holds. -/
structure Mnd where
  kd : ByteArray
  fd : ByteArray
  wh : ByteArray
  wi : ByteArray
  pt : ByteArray
  fr : ByteArray

def Mnd.cells (m : Mnd) : Array Value := #[.string m.kd, .string m.fd, .string m.wh, .string m.wi, .string m.pt, .string m.fr]

structure Mnd.Small (m : Mnd) : Prop where
  kd : m.kd.size ≤ maxLen
  fd : m.fd.size ≤ maxLen
  wh : m.wh.size ≤ maxLen
  wi : m.wi.size ≤ maxLen
  pt : m.pt.size ≤ maxLen
  fr : m.fr.size ≤ maxLen

/-- A slice of mends that lies in memory. -/
structure MndsAt (w : World) (a : Option Addr) (ms : List Mnd) : Prop where
  len : ms.length ≤ maxLen
  small : ∀ i (h : i < ms.length), ms[i].Small
  rows : ms ≠ [] → ∃ b off, a = some ⟨b, off, none⟩ ∧ b < w.heap.size ∧ ∀ i (h : i < ms.length), ∀ j, j < 6 → w.cell? ⟨b, off + i * 6 + j, none⟩ = ms[i].cells[j]?

theorem MndsAt.mono {w w' : World} {a : Option Addr} {ms : List Mnd} (h : MndsAt w a ms) (hl : Below w.heap.size w w') : MndsAt w' a ms :=
  ⟨h.len, h.small, fun hne => by
    obtain ⟨b, off, ha, hb, hr⟩ := h.rows hne
    exact ⟨b, off, ha, Nat.lt_of_lt_of_le hb hl.size, fun i hi j hj => (hl.cell (p := ⟨b, off + i * 6 + j, none⟩) hb).trans (hr i hi j hj)⟩⟩

/-- The six cells of a mend, in a later world. -/
theorem MndsAt.load {w w' : World} {a : Option Addr} {ms : List Mnd} (h : MndsAt w a ms) (hl : Below w.heap.size w w') (i : Nat) (hi : i < ms.length) : ∃ b off, a = some ⟨b, off, none⟩ ∧ b < w.heap.size ∧
    w'.cell? ⟨b, off + i * 6, none⟩ = some (.string ms[i].kd) ∧ w'.cell? ⟨b, off + i * 6 + 1, none⟩ = some (.string ms[i].fd) ∧ w'.cell? ⟨b, off + i * 6 + 2, none⟩ = some (.string ms[i].wh) ∧ w'.cell? ⟨b, off + i * 6 + 3, none⟩ = some (.string ms[i].wi) ∧ w'.cell? ⟨b, off + i * 6 + 4, none⟩ = some (.string ms[i].pt) ∧ w'.cell? ⟨b, off + i * 6 + 5, none⟩ = some (.string ms[i].fr) := by
  obtain ⟨b, off, ha, hb, hr⟩ := h.rows (by rintro rfl; simp at hi)
  have hc : ∀ j, j < 6 → w'.cell? ⟨b, off + i * 6 + j, none⟩ = ms[i].cells[j]? := fun j hj => (hl.cell (p := ⟨b, off + i * 6 + j, none⟩) hb).trans (hr i hi j hj)
  exact ⟨b, off, ha, hb, hc 0 (by omega), hc 1 (by omega), hc 2 (by omega), hc 3 (by omega), hc 4 (by omega), hc 5 (by omega)⟩

end Go.Proofs.YtponiggfclcbgaaGreat

namespace Go.Proofs.YtponiggfclcbgaaGreat
open Go.RowKit

def Mnd.sz (m : Mnd) : Nat := m.kd.size + m.fd.size + m.wh.size + m.wi.size + m.pt.size + m.fr.size
def sumM (ms : List Mnd) : Nat := (ms.map Mnd.sz).sum
def mndsSz (ms : List Mnd) : Nat := ms.length + sumM ms

set_option maxHeartbeats 1000000 in
theorem szGateMend_any (m : Mnd) (left : Int) (w : World) (hm : m.Small) (h0 : 0 ≤ left) (h1 : left ≤ 1048576) :
    Calls Tryz.prog 33 #[.agg m.cells, .int .i64 left] w fun e w' => e = .returned (.int .i64 (szRes m.sz left)) ∧ Below w.heap.size w w' := by
  have k1 := hm.kd
  have k2 := hm.fd
  have k3 := hm.wh
  have k4 := hm.wi
  have k5 := hm.pt
  have k6 := hm.fr
  unfold maxLen at k1 k2 k3 k4 k5 k6
  unfold Mnd.cells
  have hB : ∀ ob, Below w.heap.size w (w.alloc ob) := fun ob => (Below.refl _ _).alloc (Nat.le_refl _) _
  by_cases hf : (m.sz : Int) ≤ left
  · have HF : Hid (szRes m.sz left = left - m.kd.size - m.fd.size - m.wh.size - m.wi.size - m.pt.size - m.fr.size) := by
      unfold Hid; rw [szRes_yes hf]; unfold Mnd.sz; omega
    unfold Mnd.sz at hf
    go_enter Tryz.func33, Tryz.ntmps33
    go_wp2_with fail
    go_ret
    exact ⟨ret_int HF.out.symm, hB _⟩
  · have HF : Hid (szRes m.sz left = -1) := szRes_no hf
    have HN : Hid (¬ ((m.kd.size + m.fd.size + m.wh.size + m.wi.size + m.pt.size + m.fr.size : Nat) : Int) ≤ left) := hf
    clear hf
    go_enter Tryz.func33, Tryz.ntmps33
    go_wp2_with fail
    all_goals go_ret
    all_goals first | exact ⟨ret_int HF.out.symm, hB _⟩ | (exfalso; have := HN.out; simp at *; omega)

theorem szGateMend_yes (m : Mnd) (left : Int) (w : World) (hm : m.Small) (h0 : 0 ≤ left) (h1 : left ≤ 1048576) (h : (m.sz : Int) ≤ left) :
    Calls Tryz.prog 33 #[.agg m.cells, .int .i64 left] w fun e w' => e = .returned (.int .i64 (left - m.sz)) ∧ Below w.heap.size w w' := by
  refine (szGateMend_any m left w hm h0 h1).mono ?_
  rintro e w' ⟨rfl, hb⟩
  exact ⟨ret_int (szRes_yes h), hb⟩

theorem szGateMend_no (m : Mnd) (left : Int) (w : World) (hm : m.Small) (h0 : 0 ≤ left) (h1 : left ≤ 1048576) (h : ¬ (m.sz : Int) ≤ left) :
    Calls Tryz.prog 33 #[.agg m.cells, .int .i64 left] w fun e w' => e = .returned (.int .i64 (-1)) ∧ Below w.heap.size w w' := by
  refine (szGateMend_any m left w hm h0 h1).mono ?_
  rintro e w' ⟨rfl, hb⟩
  exact ⟨ret_int (szRes_no h), hb⟩

set_option maxHeartbeats 1000000 in
theorem szGateMendS_any (a : Option Addr) (cap : Nat) (ms : List Mnd) (left : Int) (w : World) (hw : MndsAt w a ms) (h0 : 0 ≤ left) (h1 : left ≤ 1048576) :
    Calls Tryz.prog 7 #[.slice a ms.length cap, .int .i64 left] w fun e w' => e = .returned (.int .i64 (szRes (mndsSz ms) left)) ∧ Below w.heap.size w w' := by
  have hl := hw.len
  unfold maxLen at hl
  by_cases hfit : (ms.length : Int) ≤ left
  · go_enter Tryz.func7, Tryz.ntmps7
    go_wp2_with fail
    go_loopw [1, 5] (fun l i wr => ∃ k : Nat, k ≤ ms.length ∧ i = .int .i64 k ∧ 0 ≤ left - ms.length - sumM (ms.take k) ∧ l = .int .i64 (left - ms.length - sumM (ms.take k)) ∧ Below w.heap.size w wr) (fun _ i _ => ms.length - (intOf i).toNat)
    case atStart => exact ⟨0, Nat.zero_le _, rfl, by simp [sumM]; omega, by simp [sumM], Below.refl _ _⟩
    case round =>
      obtain ⟨k, hk, rfl, hpos, rfl, hB⟩ := hrel
      by_cases hlt : k < ms.length
      · obtain ⟨b, off, rfl, hb, c0, c1, c2, c3, c4, c5⟩ := hw.load hB k hlt
        have hsm := hw.small k hlt
        have HS : Hid (sumM (ms.take (k + 1)) = sumM (ms.take k) + ms[k].sz) := sum_snoc Mnd.sz ms k hlt
        have hle : sumM (ms.take (k + 1)) ≤ sumM ms := sum_le Mnd.sz ms (k + 1)
        clear hw
        by_cases hneg : (ms[k].sz : Int) ≤ left - ms.length - sumM (ms.take k)
        · have HNG : Hid ((ms[k].sz : Int) ≤ left - ms.length - sumM (ms.take k)) := hneg
          clear hle
          go_wp2_with fail
          refine (szGateMend_yes _ _ _ hsm hpos (by omega) HNG.out).mono ?_
          rintro e w1 ⟨rfl, hb1⟩
          have hB1 := hB.trans (hb1.mono hB.size)
          clear hb1
          go_wp2_with fail
          exact ⟨⟨k + 1, by omega, by go_num, by rw [HS.out]; omega, by rw [HS.out]; congr 1; omega, hB1⟩, by simp [intOf]; omega⟩
        · have HF : Hid (szRes (mndsSz ms) left = -1) := szRes_no (by have := HS.out; unfold mndsSz; omega)
          have HNG : Hid (¬ (ms[k].sz : Int) ≤ left - ms.length - sumM (ms.take k)) := hneg
          clear hneg hle
          go_wp2_with fail
          refine (szGateMend_no _ _ _ hsm hpos (by omega) (by have := HNG.out; omega)).mono ?_
          rintro e w1 ⟨rfl, hb1⟩
          have hB1 := hB.trans (hb1.mono hB.size)
          clear hb1
          go_wp2_with fail
          go_ret
          exact ⟨ret_int HF.out.symm, hB1⟩
      · have HF : Hid (szRes (mndsSz ms) left = left - ms.length - sumM (ms.take k)) := by
          rw [List.take_of_length_le (by omega)] at hpos ⊢
          have e : szRes (mndsSz ms) left = left - mndsSz ms := szRes_yes (by unfold mndsSz; omega)
          unfold Hid; rw [e]; unfold mndsSz; omega
        clear hw
        go_wp2
        go_ret
        exact ⟨ret_int HF.out.symm, hB⟩
  · have HF : Hid (szRes (mndsSz ms) left = -1) := szRes_no (by unfold mndsSz; omega)
    clear hw
    go_enter Tryz.func7, Tryz.ntmps7
    go_wp2
    go_ret
    exact ⟨ret_int HF.out.symm, Below.refl _ _⟩

theorem eqGateMend_yes (m : Mnd) (w : World) : Calls Tryz.prog 46 #[.agg m.cells, .agg m.cells] w fun e w' => e = .returned (.bool true) ∧ Below w.heap.size w w' := by
  unfold Mnd.cells
  go_enter Tryz.func46, Tryz.ntmps46
  go_wp2_with fail
  go_ret
  exact ⟨rfl, below2' _ _ _⟩

set_option maxHeartbeats 2000000 in
theorem eqGateMendS_yes (a a' : Option Addr) (cap cap' : Nat) (ms : List Mnd) (w : World) (hw : MndsAt w a ms) (hw' : MndsAt w a' ms) :
    Calls Tryz.prog 16 #[.slice a ms.length cap, .slice a' ms.length cap'] w fun e w' => e = .returned (.bool true) ∧ Below w.heap.size w w' := by
  have hl := hw.len
  unfold maxLen at hl
  have hnn : ((ms.length : Int) != ms.length) = false := by simp
  go_enter Tryz.func16, Tryz.ntmps16
  go_wp2_with fail
  go_loopw [5] (fun i wr => ∃ k : Nat, k ≤ ms.length ∧ i = .int .i64 k ∧ Below w.heap.size w wr) (fun i _ => ms.length - (intOf i).toNat)
  case atStart => exact ⟨0, Nat.zero_le _, rfl, Below.refl _ _⟩
  case round =>
    obtain ⟨k, hk, rfl, hB⟩ := hrel
    by_cases hlt : k < ms.length
    · obtain ⟨b, off, rfl, hb, c0, c1, c2, c3, c4, c5⟩ := hw.load hB k hlt
      obtain ⟨b', off', rfl, hb', d0, d1, d2, d3, d4, d5⟩ := hw'.load hB k hlt
      have hltI : (k : Int) < (ms.length : Int) := by omega
      clear hw hw'
      go_wp2_with fail
      go_region_with (go_at_call 46; refine (eqGateMend_yes ms[k] _).mono ?_; rintro e w1 ⟨rfl, hb1'⟩; have hb1 := (Below.refl wr.heap.size wr).drew.trans hb1'; clear hb1')
      all_goals go_wp2_with fail
      all_goals exact ⟨⟨k + 1, by omega, by go_num, hB.trans (hb1.mono hB.size)⟩, by simp [intOf]; omega⟩
    · clear hw hw'
      go_wp2_with fail
      go_ret
      exact ⟨rfl, hB⟩

/-- A row of mends in memory of its own, the first k laid. -/
structure MndsOwn (lo : Nat) (w : World) (bo : Nat) (ms : List Mnd) (k : Nat) : Prop where
  low : lo ≤ bo
  rows : ∃ C, w.heap[bo]? = some (.cells C 71) ∧ C.size = ms.length * 6 ∧ ∀ i (h : i < ms.length), i < k → ∀ j, j < 6 → C[i * 6 + j]? = ms[i].cells[j]?

theorem MndsOwn.at {lo : Nat} {w : World} {bo : Nat} {ms : List Mnd} (h : MndsOwn lo w bo ms ms.length) (hs : ∀ i (h : i < ms.length), ms[i].Small) (hl : ms.length ≤ maxLen) : MndsAt w (some ⟨bo, 0, none⟩) ms := by
  obtain ⟨C, hC, hsz, hr⟩ := h.rows
  refine ⟨hl, hs, fun _ => ⟨bo, 0, rfl, (Array.getElem?_eq_some_iff.1 hC).1, fun i hi j hj => ?_⟩⟩
  rw [cell_of_block hC, Nat.zero_add]
  exact hr i hi hi j hj

theorem MndsOwn.later {lo : Nat} {w w' : World} {bo : Nat} {ms : List Mnd} {k : Nat} (h : MndsOwn lo w bo ms k) (hb : Below w.heap.size w w') : MndsOwn lo w' bo ms k := by
  obtain ⟨C, hC, hsz, hr⟩ := h.rows
  exact ⟨h.low, C, (hb.block bo (Array.getElem?_eq_some_iff.1 hC).1).trans hC, hsz, hr⟩

end Go.Proofs.YtponiggfclcbgaaGreat
