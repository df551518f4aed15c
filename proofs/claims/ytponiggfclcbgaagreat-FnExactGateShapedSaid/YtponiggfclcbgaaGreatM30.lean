import Derived.Test.YtponiggfclcbgaaGreatM29
import Derived.Test.YtponiggfclcbgaaGreatM20
import Derived.Test.YtponiggfclcbgaaGreatM09
import Derived.Test.YtponiggfclcbgaaGreatM19
namespace Go.Proofs.YtponiggfclcbgaaGreat
open Go.RowKit

set_option maxHeartbeats 2000000 in
theorem specMended_any (a0 ma : Option Addr) (cap0 mcap : Nat) (ss : List Shp) (ms : List Mnd) (o : Ob) (b off b' off' cap cap' : Nat) (w : World) (hw : ShpsAt w a0 ss) (hmm : MndsAt w ma ms) (ho : ObAt w o (some ⟨b, off, none⟩) (some ⟨b', off', none⟩)) (hl : o.vs.length ≤ 1048576) (hl' : o.hs.length ≤ 1048576) :
    Calls Tryz.prog 9 #[.slice a0 ss.length cap0, .slice ma ms.length mcap, .agg #[.string o.kd, .string o.nm, .string o.tm, .slice (some ⟨b, off, none⟩) o.vs.length cap, .bool o.en, .slice (some ⟨b', off', none⟩) o.hs.length cap', .int .i64 o.vr]] w (FillPost o (Gate.mendRes ss ms o) w) := by
  have HH : Hid (ObAt w o (some ⟨b, off, none⟩) (some ⟨b', off', none⟩)) := ho
  clear ho
  have HS : Hid (Gate.mendsOkS ss ms = Gate.mendsOk ss ms) := (Gate.mendsOk_same ss ms).symm
  by_cases hok : Gate.mendsOk ss ms = true
  · go_enter Tryz.func9, Tryz.ntmps9
    go_wp2_with fail
    have hbb := below2' w (.cells #[.string o.kd, .string o.nm, .string o.tm, .slice (some ⟨b, off, none⟩) o.vs.length cap, .bool o.en, .slice (some ⟨b', off', none⟩) o.hs.length cap', .int .i64 o.vr] 30) (.cells #[.string ByteArray.empty, .string ByteArray.empty, .string ByteArray.empty, .slice none 0 0, .bool false, .slice none 0 0, .int .i64 0] 30)
    have h1 := specMendsOk_any a0 ma cap0 mcap ss ms _ (hw.mono hbb) (hmm.mono hbb)
    rw [HS.out, hok] at h1
    refine h1.mono ?_
    rintro e w1 ⟨rfl, hb1⟩
    have hX1 : ∀ j, w1.cell? ⟨w.heap.size, j, none⟩ = (#[.string o.kd, .string o.nm, .string o.tm, .slice (some ⟨b, off, none⟩) o.vs.length cap, .bool o.en, .slice (some ⟨b', off', none⟩) o.hs.length cap', .int .i64 o.vr] : Array Value)[j]? := fun j => cell_of_block ((hb1.block w.heap.size (by simp; omega)).trans (two_blocks _ _ _).1)
    have HR1 : Hid (w1.heap[w.heap.size + 1]? = some (.cells #[.string ByteArray.empty, .string ByteArray.empty, .string ByteArray.empty, .slice none 0 0, .bool false, .slice none 0 0, .int .i64 0] 30)) := (hb1.block (w.heap.size + 1) (by simp)).trans (two_blocks _ _ _).2
    have hz1 : w.heap.size + 1 < w1.heap.size := by have := hb1.size; simp at this; omega
    have hz0 : w.heap.size < w1.heap.size := by omega
    have hB1 : Below w.heap.size w w1 := (below2' _ _ _).trans (hb1.mono (by simp; omega))
    clear h1 hb1 hbb
    go_wp2_with fail
    refine (l3Mended_any a0 ma cap0 mcap ss ms o b off b' off' cap cap' _ (hw.mono hB1) (hmm.mono hB1) (HH.out.mono hB1) hl hl' hok).mono ?_
    rintro e w4 ⟨a, dap, a', dap', m, rfl, ht, hm, hsm, ht', hb4⟩
    have hR4 : w4.heap[w.heap.size + 1]? = some (.cells #[.string ByteArray.empty, .string ByteArray.empty, .string ByteArray.empty, .slice none 0 0, .bool false, .slice none 0 0, .int .i64 0] 30) := (hb4.block (w.heap.size + 1) hz1).trans HR1.out
    have hRc : ∀ j, w4.cell? ⟨w.heap.size + 1, j, none⟩ = (#[.string ByteArray.empty, .string ByteArray.empty, .string ByteArray.empty, .slice none 0 0, .bool false, .slice none 0 0, .int .i64 0] : Array Value)[j]? := fun j => cell_of_block hR4
    have hRf : ∀ j, w4.frozen? ⟨w.heap.size + 1, j, none⟩ = false := fun j => frozen_of_block hR4
    have HX : Hid (TxtsOwn (w.heap.size + 1 + 1) w4 a (Gate.mendRes ss ms o) ∧ (∀ g, a = some g → g.block < m) ∧ w.heap.size + 1 + 1 ≤ m ∧ TxtsOwn m w4 a' o.hs ∧ Below w.heap.size w w4) := ⟨ht.low hz1, hm, Nat.le_trans hz1 hsm, ht', hB1.trans (hb4.mono hB1.size)⟩
    clear ht hm hsm ht' hb4 hR4 hX1
    go_wp2_with fail
    refine bodyPost_ret (v := (.agg #[.string o.kd, .string o.nm, .string o.tm, .slice a o.vs.length dap, .bool o.en, .slice a' o.hs.length dap', .int .i64 o.vr])) (by simp [results, Tryz.results9, go_sem, hRc]) rfl ?_
    obtain ⟨ht, hm, hsm, ht', hB⟩ := HX.out
    exact ⟨a, dap, a', dap', m, rfl, (put7_own ht _ (by omega) _ _ _ _ _ _ _).low (by omega), hm, by omega, put7_own ht' _ (by omega) _ _ _ _ _ _ _, put7_below hB _ (by omega) _ _ _ _ _ _ _⟩
  · have hok : Gate.mendsOk ss ms = false := by simpa using hok
    have HRES : Hid (Gate.mendRes ss ms o = o.vs) := by unfold Hid Gate.mendRes Gate.mendable; rw [hok]; simp
    go_enter Tryz.func9, Tryz.ntmps9
    go_wp2_with fail
    have hbb := below2' w (.cells #[.string o.kd, .string o.nm, .string o.tm, .slice (some ⟨b, off, none⟩) o.vs.length cap, .bool o.en, .slice (some ⟨b', off', none⟩) o.hs.length cap', .int .i64 o.vr] 30) (.cells #[.string ByteArray.empty, .string ByteArray.empty, .string ByteArray.empty, .slice none 0 0, .bool false, .slice none 0 0, .int .i64 0] 30)
    have h1 := specMendsOk_any a0 ma cap0 mcap ss ms _ (hw.mono hbb) (hmm.mono hbb)
    rw [HS.out, hok] at h1
    refine h1.mono ?_
    rintro e w1 ⟨rfl, hb1⟩
    have hX1 : ∀ j, w1.cell? ⟨w.heap.size, j, none⟩ = (#[.string o.kd, .string o.nm, .string o.tm, .slice (some ⟨b, off, none⟩) o.vs.length cap, .bool o.en, .slice (some ⟨b', off', none⟩) o.hs.length cap', .int .i64 o.vr] : Array Value)[j]? := fun j => cell_of_block ((hb1.block w.heap.size (by simp; omega)).trans (two_blocks _ _ _).1)
    have HR1 : Hid (w1.heap[w.heap.size + 1]? = some (.cells #[.string ByteArray.empty, .string ByteArray.empty, .string ByteArray.empty, .slice none 0 0, .bool false, .slice none 0 0, .int .i64 0] 30)) := (hb1.block (w.heap.size + 1) (by simp)).trans (two_blocks _ _ _).2
    have hz1 : w.heap.size + 1 < w1.heap.size := by have := hb1.size; simp at this; omega
    have hz0 : w.heap.size < w1.heap.size := by omega
    have hB1 : Below w.heap.size w w1 := (below2' _ _ _).trans (hb1.mono (by simp; omega))
    clear h1 hb1 hbb
    go_wp2_with fail
    refine (l2Copy_any o b off b' off' cap cap' _ (HH.out.mono hB1) hl hl').mono ?_
    rintro e w4 ⟨a, dap, a', dap', m, rfl, ht, hm, hsm, ht', hb4⟩
    have hR4 : w4.heap[w.heap.size + 1]? = some (.cells #[.string ByteArray.empty, .string ByteArray.empty, .string ByteArray.empty, .slice none 0 0, .bool false, .slice none 0 0, .int .i64 0] 30) := (hb4.block (w.heap.size + 1) hz1).trans HR1.out
    have hRc : ∀ j, w4.cell? ⟨w.heap.size + 1, j, none⟩ = (#[.string ByteArray.empty, .string ByteArray.empty, .string ByteArray.empty, .slice none 0 0, .bool false, .slice none 0 0, .int .i64 0] : Array Value)[j]? := fun j => cell_of_block hR4
    have hRf : ∀ j, w4.frozen? ⟨w.heap.size + 1, j, none⟩ = false := fun j => frozen_of_block hR4
    have HX : Hid (TxtsOwn (w.heap.size + 1 + 1) w4 a (o.vs) ∧ (∀ g, a = some g → g.block < m) ∧ w.heap.size + 1 + 1 ≤ m ∧ TxtsOwn m w4 a' o.hs ∧ Below w.heap.size w w4) := ⟨ht.low hz1, hm, Nat.le_trans hz1 hsm, ht', hB1.trans (hb4.mono hB1.size)⟩
    clear ht hm hsm ht' hb4 hR4 hX1
    go_wp2_with fail
    refine bodyPost_ret (v := (.agg #[.string o.kd, .string o.nm, .string o.tm, .slice a o.vs.length dap, .bool o.en, .slice a' o.hs.length dap', .int .i64 o.vr])) (by simp [results, Tryz.results9, go_sem, hRc]) rfl ?_
    obtain ⟨ht, hm, hsm, ht', hB⟩ := HX.out
    rw [HRES.out]
    exact ⟨a, dap, a', dap', m, rfl, (put7_own ht _ (by omega) _ _ _ _ _ _ _).low (by omega), hm, by omega, put7_own ht' _ (by omega) _ _ _ _ _ _ _, put7_below hB _ (by omega) _ _ _ _ _ _ _⟩

end Go.Proofs.YtponiggfclcbgaaGreat

namespace Go.Proofs.YtponiggfclcbgaaGreat
open Go.RowKit

structure MndsForm (lo hi : Nat) (w : World) (bo : Nat) (ms : List Mnd) : Prop where
  low : lo ≤ bo
  high : bo < hi
  rows : ∃ C, w.heap[bo]? = some (.cells C 71) ∧ C.size = ms.length * 6 ∧ ∀ j, j < ms.length * 6 → NoSlice C j

theorem MndsForm.mono {lo hi : Nat} {w w' : World} {b : Nat} {ms : List Mnd} (h : MndsForm lo hi w b ms) (hM : Marked lo hi w w') : MndsForm lo hi w' b ms := by
  obtain ⟨C, hC, hs, hn⟩ := h.rows
  obtain ⟨C', hC', hs', hk⟩ := hM.inn b C _ h.low h.high hC
  exact ⟨h.low, h.high, C', hC', by omega, fun j hj a m c he => hn j hj a m c ((hk j a m c).1 he)⟩

theorem MndsOwn.form {lo : Nat} {w : World} {bo : Nat} {ms : List Mnd} (h : MndsOwn lo w bo ms ms.length) : MndsForm lo w.heap.size w bo ms := by
  obtain ⟨C, hC, hsz, hr⟩ := h.rows
  refine ⟨h.low, (Array.getElem?_eq_some_iff.1 hC).1, C, hC, hsz, fun j hj a n c he => ?_⟩
  have hi : j / 6 < ms.length := by omega
  have e : j = j / 6 * 6 + j % 6 := by omega
  rw [e, hr (j / 6) hi hi (j % 6) (by omega)] at he
  have h6 : j % 6 < 6 := by omega
  revert he
  generalize j % 6 = q at h6
  intro he
  rcases q with _ | _ | _ | _ | _ | _ | q <;> first | omega | (simp [Mnd.cells] at he)

theorem MndsForm.ready {lo hi bo : Nat} {w W : World} {ms : List Mnd} (h : MndsForm lo hi w bo ms) (hM : Marked lo hi w W) (i : Nat) (hi' : i < ms.length) :
    (∀ j, j < 6 → ∃ v, W.cell? ⟨bo, i * 6 + j, none⟩ = some v) ∧ (∀ o, W.frozen? ⟨bo, o, none⟩ = false) := by
  have h' := h.mono hM
  obtain ⟨C, hC, hs, hn⟩ := h'.rows
  exact ⟨fun j hj => ⟨C[i * 6 + j]'(by omega), by rw [cell_of_block hC]; exact Array.getElem?_eq_getElem (by omega)⟩, fun o => frozen_of_block hC⟩

theorem MndsForm.put {lo hi bo : Nat} {w W : World} {ms : List Mnd} (h : MndsForm lo hi w bo ms) (hM : Marked lo hi w W) (i j : Nat) (hi' : i < ms.length) (hj : j < 6) (v : Value) (hv : ∀ a n c, v ≠ Value.slice a n c) : Marked lo hi w (W.setCell ⟨bo, i * 6 + j, none⟩ v) := by
  obtain ⟨C, hC, hs, hn⟩ := h.rows
  exact hM.put h.low h.high hC (hn (i * 6 + j) (by omega)) v hv

set_option maxRecDepth 20000 in
set_option maxHeartbeats 4000000 in
theorem markGateMendS_any (lo hi bo cap : Nat) (ms : List Mnd) (k : Int) (w : World) (h : MndsForm lo hi w bo ms) (hl : ms.length ≤ 1048576) (hk : 0 < k) (hk2 : k < 6000000000000000000) :
    Calls Tryz.prog 18 #[.slice (some ⟨bo, 0, none⟩) ms.length cap, .int .i64 k] w fun e w' => ∃ k', e = .returned (.int .i64 k') ∧ k ≤ k' ∧ k' ≤ k + ms.length * 6 ∧ Marked lo hi w w' := by
  have HF : Hid (MndsForm lo hi w bo ms) := h
  have HL : Hid (ms.length ≤ 1048576) := hl
  have HK : Hid (0 < k ∧ k < 6000000000000000000) := ⟨hk, hk2⟩
  clear h hl hk hk2
  go_enter Tryz.func18, Tryz.ntmps18
  go_wp2_with fail
  go_loopw [1, 5] (fun kv iv wr => ∃ (i : Nat) (kk : Int), i ≤ ms.length ∧ kv = .int .i64 kk ∧ iv = .int .i64 i ∧ k ≤ kk ∧ kk ≤ k + i * 6 ∧ Marked lo hi w wr) (fun _ iv _ => ms.length - (intOf iv).toNat)
  case atStart => exact ⟨0, k, Nat.zero_le _, rfl, rfl, Int.le_refl _, by simp, Marked.refl _ _ _⟩
  case round =>
    obtain ⟨i, kk, hile, rfl, rfl, h1, h2, hM⟩ := hrel
    by_cases hlt : i < ms.length
    · have hltI : (i : Int) < (ms.length : Int) := by omega
      have HB : Hid (0 < kk ∧ kk < 7000000000000000000 ∧ kk ≤ k + i * 6 ∧ k ≤ kk) := by have a := HK.out; have b := HL.out; exact ⟨by omega, by omega, h2, h1⟩
      have HM : Hid (Marked lo hi w wr) := hM
      clear h1 h2 hM
      have hw1 : wrap64 (kk + 1) = kk + 1 := by have := HB.out; exact wrap_in _ ⟨by omega, by omega⟩
      have hw2 : wrap64 (kk + 1 + 1) = kk + 1 + 1 := by have := HB.out; exact wrap_in _ ⟨by omega, by omega⟩
      have hw3 : wrap64 (kk + 1 + 1 + 1) = kk + 1 + 1 + 1 := by have := HB.out; exact wrap_in _ ⟨by omega, by omega⟩
      have hw4 : wrap64 (kk + 1 + 1 + 1 + 1) = kk + 1 + 1 + 1 + 1 := by have := HB.out; exact wrap_in _ ⟨by omega, by omega⟩
      have hw5 : wrap64 (kk + 1 + 1 + 1 + 1 + 1) = kk + 1 + 1 + 1 + 1 + 1 := by have := HB.out; exact wrap_in _ ⟨by omega, by omega⟩
      have hw6 : wrap64 (kk + 1 + 1 + 1 + 1 + 1 + 1) = kk + 1 + 1 + 1 + 1 + 1 + 1 := by have := HB.out; exact wrap_in _ ⟨by omega, by omega⟩
      go_wp2_with fail
      refine (markText_some _ _ (by have := HB.out; omega) (by have := HB.out; omega)).mono ?_
      rintro e wm0 ⟨s0, rfl, hb⟩
      have HM0 : Hid (Marked lo hi w wm0) := HM.out.trans (Marked.of_below hb)
      clear hb
      obtain ⟨hex, hfz⟩ := HF.out.ready HM0.out i hlt
      obtain ⟨v0, hv0⟩ := hex 0 (by omega)
      rw [Nat.add_zero] at hv0
      have HP0 : Hid (Marked lo hi w (wm0.setCell ⟨bo, i * 6, none⟩ (.string s0))) := HF.out.put HM0.out i 0 hlt (by omega) (.string s0) (fun _ _ _ h => by cases h)
      clear hex
      go_wp2_with fail
      clear hv0 hfz
      refine (markText_some _ _ (by have := HB.out; omega) (by have := HB.out; omega)).mono ?_
      rintro e wm1 ⟨s1, rfl, hb⟩
      have HM1 : Hid (Marked lo hi w wm1) := HP0.out.trans (Marked.of_below hb)
      clear hb
      obtain ⟨hex, hfz⟩ := HF.out.ready HM1.out i hlt
      obtain ⟨v1, hv1⟩ := hex 1 (by omega)
      have HP1 : Hid (Marked lo hi w (wm1.setCell ⟨bo, i * 6 + 1, none⟩ (.string s1))) := HF.out.put HM1.out i 1 hlt (by omega) (.string s1) (fun _ _ _ h => by cases h)
      clear hex
      go_wp2_with fail
      clear hv1 hfz
      refine (markText_some _ _ (by have := HB.out; omega) (by have := HB.out; omega)).mono ?_
      rintro e wm2 ⟨s2, rfl, hb⟩
      have HM2 : Hid (Marked lo hi w wm2) := HP1.out.trans (Marked.of_below hb)
      clear hb
      obtain ⟨hex, hfz⟩ := HF.out.ready HM2.out i hlt
      obtain ⟨v2, hv2⟩ := hex 2 (by omega)
      have HP2 : Hid (Marked lo hi w (wm2.setCell ⟨bo, i * 6 + 2, none⟩ (.string s2))) := HF.out.put HM2.out i 2 hlt (by omega) (.string s2) (fun _ _ _ h => by cases h)
      clear hex
      go_wp2_with fail
      clear hv2 hfz
      refine (markText_some _ _ (by have := HB.out; omega) (by have := HB.out; omega)).mono ?_
      rintro e wm3 ⟨s3, rfl, hb⟩
      have HM3 : Hid (Marked lo hi w wm3) := HP2.out.trans (Marked.of_below hb)
      clear hb
      obtain ⟨hex, hfz⟩ := HF.out.ready HM3.out i hlt
      obtain ⟨v3, hv3⟩ := hex 3 (by omega)
      have HP3 : Hid (Marked lo hi w (wm3.setCell ⟨bo, i * 6 + 3, none⟩ (.string s3))) := HF.out.put HM3.out i 3 hlt (by omega) (.string s3) (fun _ _ _ h => by cases h)
      clear hex
      go_wp2_with fail
      clear hv3 hfz
      refine (markText_some _ _ (by have := HB.out; omega) (by have := HB.out; omega)).mono ?_
      rintro e wm4 ⟨s4, rfl, hb⟩
      have HM4 : Hid (Marked lo hi w wm4) := HP3.out.trans (Marked.of_below hb)
      clear hb
      obtain ⟨hex, hfz⟩ := HF.out.ready HM4.out i hlt
      obtain ⟨v4, hv4⟩ := hex 4 (by omega)
      have HP4 : Hid (Marked lo hi w (wm4.setCell ⟨bo, i * 6 + 4, none⟩ (.string s4))) := HF.out.put HM4.out i 4 hlt (by omega) (.string s4) (fun _ _ _ h => by cases h)
      clear hex
      go_wp2_with fail
      clear hv4 hfz
      refine (markText_some _ _ (by have := HB.out; omega) (by have := HB.out; omega)).mono ?_
      rintro e wm5 ⟨s5, rfl, hb⟩
      have HM5 : Hid (Marked lo hi w wm5) := HP4.out.trans (Marked.of_below hb)
      clear hb
      obtain ⟨hex, hfz⟩ := HF.out.ready HM5.out i hlt
      obtain ⟨v5, hv5⟩ := hex 5 (by omega)
      have HP5 : Hid (Marked lo hi w (wm5.setCell ⟨bo, i * 6 + 5, none⟩ (.string s5))) := HF.out.put HM5.out i 5 hlt (by omega) (.string s5) (fun _ _ _ h => by cases h)
      clear hex
      go_wp2_with fail
      go_roundw
      case rel => exact ⟨i + 1, kk + 1 + 1 + 1 + 1 + 1 + 1, by omega, by rw [hw6], by rw [wrap_one (by have := HL.out; omega)], by have a := HB.out; omega, by have a := HB.out; omega, HP5.out⟩
      case measure => exact step_less hlt (by have := HL.out; omega)
    · have e : i = ms.length := by omega
      subst e
      go_wp2_with fail
      go_ret
      exact ⟨kk, rfl, h1, h2, hM⟩

end Go.Proofs.YtponiggfclcbgaaGreat

namespace Go.Proofs.YtponiggfclcbgaaGreat
open Go.RowKit

theorem MndsForm.wide {lo lo' hi : Nat} {w : World} {b : Nat} {ms : List Mnd} (h : MndsForm lo hi w b ms) (hl : lo' ≤ lo) : MndsForm lo' hi w b ms := ⟨Nat.le_trans hl h.low, h.high, h.rows⟩

theorem mend_small {ss : List Shp} {ms : List Mnd} {o : Ob} (hm : ∀ i (h : i < ms.length), ms[i].Small) (ho : ∀ s ∈ o.vs, s.size ≤ maxLen) : ∀ s ∈ Gate.mendRes ss ms o, s.size ≤ maxLen := by
  unfold Gate.mendRes
  split
  · exact Gate.turnRow_small hm _ _ ho
  · exact ho

set_option maxHeartbeats 8000000 in
theorem lawMended_any (a0 am : Option Addr) (cap0 capm : Nat) (ss : List Shp) (ms : List Mnd) (o : Ob) (a a' : Option Addr) (cap cap' : Nat) (w : World) (hw : ShpsAt w a0 ss) (hmm : MndsAt w am ms) (ho : ObAt w o a a') :
    Calls Tryz.prog 3 #[.slice a0 ss.length cap0, .slice am ms.length capm, .agg #[.string o.kd, .string o.nm, .string o.tm, .slice a o.vs.length cap, .bool o.en, .slice a' o.hs.length cap', .int .i64 o.vr]] w fun e w' => e = .returned (.bool true) ∧ Below w.heap.size w w' := by
  have hb0 : Below w.heap.size w (w.alloc (.cells #[.string o.kd, .string o.nm, .string o.tm, .slice a o.vs.length cap, .bool o.en, .slice a' o.hs.length cap', .int .i64 o.vr] 26)) := (Below.refl _ _).alloc (Nat.le_refl _) _
  by_cases hsz : (shpsSz ss : Int) ≤ 1048576
  rotate_left
  · go_enter Tryz.func3, Tryz.ntmps3
    go_wp2_with fail
    refine (szGateShapeS_any _ _ _ _ _ (hw.mono hb0) (by omega) (by omega)).mono ?_
    rintro e w1 ⟨rfl, hb1⟩
    rw [szRes_no (by omega)]
    go_wp2_with fail
    go_ret
    exact ⟨rfl, hb0.trans (hb1.mono (by simp))⟩
  have HLS : Hid (ss.length ≤ 1048576 ∧ ∀ i (h : i < ss.length), ss[i].fs.length ≤ 1048576 ∧ ∀ j (h' : j < ss[i].fs.length), ss[i].fs[j].ws.length ≤ 1048576) := shps_few hsz
  have hneg : decide (1048576 - (shpsSz ss : Int) < 0) = false := by simp; omega
  by_cases hmz : (mndsSz ms : Int) ≤ 1048576 - (shpsSz ss : Int)
  rotate_left
  · go_enter Tryz.func3, Tryz.ntmps3
    go_wp2_with fail
    refine (szGateShapeS_any _ _ _ _ _ (hw.mono hb0) (by omega) (by omega)).mono ?_
    rintro e w1 ⟨rfl, hb1⟩
    rw [szRes_yes hsz]
    have hX1 := box_later (box_new w _ _) (by simp) hb1
    have hB1 := hb0.trans (hb1.mono (by simp))
    clear hb1 hb0
    go_wp2_with fail
    refine (szGateMendS_any _ _ _ _ _ (hmm.mono hB1) (by omega) (by omega)).mono ?_
    rintro e w2 ⟨rfl, hb2⟩
    rw [szRes_no (by omega)]
    go_wp2_with fail
    go_ret
    exact ⟨rfl, hB1.trans (hb2.mono hB1.size)⟩
  have HLM : Hid (ms.length ≤ 1048576) := by unfold mndsSz at hmz; show _ ≤ _; omega
  have hnegm : decide (1048576 - (shpsSz ss : Int) - (mndsSz ms : Int) < 0) = false := by simp; omega
  by_cases hoz : (obSz o : Int) ≤ 1048576 - (shpsSz ss : Int) - (mndsSz ms : Int)
  rotate_left
  · go_enter Tryz.func3, Tryz.ntmps3
    go_wp2_with fail
    refine (szGateShapeS_any _ _ _ _ _ (hw.mono hb0) (by omega) (by omega)).mono ?_
    rintro e w1 ⟨rfl, hb1⟩
    rw [szRes_yes hsz]
    have hX1 := box_later (box_new w _ _) (by simp) hb1
    have hB1 := hb0.trans (hb1.mono (by simp))
    have hz1 : w.heap.size < w1.heap.size := by have := hb1.size; simp at this; omega
    clear hb1 hb0
    go_wp2_with fail
    refine (szGateMendS_any _ _ _ _ _ (hmm.mono hB1) (by omega) (by omega)).mono ?_
    rintro e w1m ⟨rfl, hb1⟩
    rw [szRes_yes hmz]
    have hX1 := box_later hX1 hz1 hb1
    have hB1 := hB1.trans (hb1.mono hB1.size)
    clear hb1
    go_wp2_with fail
    refine (szGateObject_any _ _ _ _ _ _ _ (ho.mono hB1) (by omega) (by omega)).mono ?_
    rintro e w2 ⟨rfl, hb2⟩
    rw [szRes_no (by omega)]
    go_wp2_with fail
    go_ret
    exact ⟨rfl, hB1.trans (hb2.mono hB1.size)⟩
  have HLO : Hid (o.vs.length ≤ 1048576 ∧ o.hs.length ≤ 1048576) := ob_few hoz (by omega)
  have hneg' : decide (1048576 - (shpsSz ss : Int) - (mndsSz ms : Int) - (obSz o : Int) < 0) = false := by simp; omega
  have HML : Hid (ss.length ≤ maxLen) := hw.len
  have HSM : Hid (ShpsSmall ss) := hw.smalls
  have HFS : Hid ((Gate.mendRes ss ms o).length = o.vs.length ∧ (Gate.mendRes ss ms o).length ≤ maxLen ∧ (∀ s ∈ Gate.mendRes ss ms o, s.size ≤ maxLen)) := ⟨Gate.mendRes_length ss ms o, by rw [Gate.mendRes_length]; exact ho.vals.len, mend_small hmm.small ho.vals.small⟩
  have HHS : Hid (o.hs.length ≤ maxLen ∧ ∀ s ∈ o.hs, s.size ≤ maxLen) := ⟨ho.holds.len, ho.holds.small⟩
  have HWW : Hid (ShpsAt w a0 ss) := hw
  have HMM : Hid (MndsAt w am ms) := hmm
  have HMS : Hid ((∀ i (h : i < ms.length), ms[i].Small) ∧ ms.length ≤ maxLen) := ⟨hmm.small, hmm.len⟩
  have HOO : Hid (ObAt w o a a') := ho
  generalize hvs : Gate.mendRes ss ms o = vs at HFS
  clear hw hmm ho
  go_enter Tryz.func3, Tryz.ntmps3
  go_wp2_with fail
  refine (szGateShapeS_any _ _ _ _ _ (HWW.out.mono hb0) (by omega) (by omega)).mono ?_
  rintro e w1 ⟨rfl, hb1⟩
  rw [szRes_yes hsz]
  have hX1 := box_later (box_new w _ _) (by simp) hb1
  have hz1 : w.heap.size < w1.heap.size := by have := hb1.size; simp at this; omega
  have hB1 := hb0.trans (hb1.mono (by simp))
  clear hb1 hb0
  go_wp2_with fail
  refine (szGateMendS_any _ _ _ _ _ (HMM.out.mono hB1) (by omega) (by omega)).mono ?_
  rintro e w1m ⟨rfl, hb1⟩
  rw [szRes_yes hmz]
  have hX1 := box_later hX1 hz1 hb1
  have hz1 := Nat.lt_of_lt_of_le hz1 hb1.size
  have hB1 := hB1.trans (hb1.mono hB1.size)
  clear hb1
  go_wp2_with fail
  refine (szGateObject_any _ _ _ _ _ _ _ (HOO.out.mono hB1) (by omega) (by omega)).mono ?_
  rintro e w2 ⟨rfl, hb2⟩
  rw [szRes_yes hoz]
  have hX2 := box_later hX1 hz1 hb2
  have hz2 : w.heap.size < w2.heap.size := by have := hb2.size; omega
  have hB2 := hB1.trans (hb2.mono hB1.size)
  clear hX1 hz1 hB1 hb2
  go_wp2_with fail
  have hB := hB2
  have hX := hX2
  have hz := hz2
  have HBB : Hid (Below w.heap.size w w2) := hB2
  clear hB2 hX2 hz2 hB
  have hS3 : Below w2.heap.size w2 w2.drew := (Below.refl _ _).drew
  have hXc := box_later hX hz hS3
  have hzc : w.heap.size < w2.drew.heap.size := hz
  refine region_cut (fun A A' w' => ∃ u32 u33 u34 u35 u36 u37 u38 bP aP dP aP' dP' mP, A' = ((((((((A.put (some 32) u32).put (some 33) u33).put (some 34) u34).put (some 35) u35).put (some 36) u36).put (some 37) u37).put (some 38) u38).put (some 8) (.pointer (some ⟨bP, 0, none⟩))) ∧ w2.heap.size ≤ bP ∧ w'.heap[bP]? = some (.cells #[.string o.kd, .string o.nm, .string o.tm, .slice aP o.vs.length dP, .bool o.en, .slice aP' o.hs.length dP', .int .i64 o.vr] 30) ∧ TxtsOwn w2.heap.size w' aP vs ∧ (∀ g, aP = some g → g.block < mP) ∧ w2.heap.size ≤ mP ∧ TxtsOwn mP w' aP' o.hs ∧ Below w2.heap.size w2 w') ?_ ?_
  · go_region_held3 (fun w' => ∀ j, w'.cell? ⟨w.heap.size, j, none⟩ = (#[.string o.kd, .string o.nm, .string o.tm, .slice a o.vs.length cap, .bool o.en, .slice a' o.hs.length cap', .int .i64 o.vr] : Array Value)[j]?) (first | (intro j; rw [hXc]) | (intro j; rw [cell_alloc_old hzc, hXc]) | (intro j; rw [cell_set7 hnZ, hXc]) | (intro j; rw [cell_alloc_drew hz, hX])) (first
      | (go_at_call 10; refine (toGateShapeS_any _ _ _ _ (HWW.out.mono (by first | exact HBB.out.trans (hS3.mono HBB.out.size) | exact HBB.out.trans ((hS3.alloc hS3.size _).mono HBB.out.size) | exact HBB.out.trans ((((Below.refl w2.heap.size w2).alloc (Nat.le_refl _) (.cells #[.string ByteArray.empty, .string ByteArray.empty, .string ByteArray.empty, .slice none 0 0, .bool false, .slice none 0 0, .int .i64 0] 30)).drew).mono HBB.out.size))) HLS.out.1 HLS.out.2).mono ?_; rintro e w3 ⟨rfl, hown, hb⟩; have hsN := hown.at HSM.out HML.out; clear hown; (try simp at hsN); (first | (have hN := hS3.trans (hb.mono hS3.size); (try have HZ := zero_next HZ hb)) | (have hA := hS3.alloc hS3.size (.cells #[.string ByteArray.empty, .string ByteArray.empty, .string ByteArray.empty, .slice none 0 0, .bool false, .slice none 0 0, .int .i64 0] 30); have hN := hA.trans (hb.mono hA.size); have hlZ := hS3.size; have HZ := zero_new hb; clear hA) | (have hA := ((Below.refl w2.heap.size w2).alloc (Nat.le_refl _) (.cells #[.string ByteArray.empty, .string ByteArray.empty, .string ByteArray.empty, .slice none 0 0, .bool false, .slice none 0 0, .int .i64 0] 30)).drew; have hN := hA.trans (hb.mono hA.size); have hlZ := Nat.le_refl w2.heap.size; have HZ := zero_new' hb; clear hA)); (try have hZc := blk_cells HZ.out); (try have hZf := blk_frozen HZ.out);  have hS3 := hN; have hXc := box_later hX hz hS3; have hzc := Nat.lt_of_lt_of_le hz hS3.size; (try have hnZ := Nat.ne_of_lt (Nat.lt_of_lt_of_le hz hlZ)); clear hN hb; have hs := hsN; clear hsN)
      | (go_at_call 11; refine (toGateMendS_any _ _ _ _ (HMM.out.mono (by first | exact HBB.out.trans (hS3.mono HBB.out.size) | exact HBB.out.trans ((hS3.alloc hS3.size _).mono HBB.out.size) | exact HBB.out.trans ((((Below.refl w2.heap.size w2).alloc (Nat.le_refl _) (.cells #[.string ByteArray.empty, .string ByteArray.empty, .string ByteArray.empty, .slice none 0 0, .bool false, .slice none 0 0, .int .i64 0] 30)).drew).mono HBB.out.size))) HLM.out).mono ?_; rintro e w3 ⟨rfl, hown, hb⟩; have hmN := hown.at HMS.out.1 HMS.out.2; clear hown; (try simp at hmN); have hs := (by first | exact hs.mono hb | exact (hs.mono ((Below.refl _ _).alloc (Nat.le_refl _) _)).mono hb : ShpsAt w3 _ ss); (first | (have hN := hS3.trans (hb.mono hS3.size); (try have HZ := zero_next HZ hb)) | (have hA := hS3.alloc hS3.size (.cells #[.string ByteArray.empty, .string ByteArray.empty, .string ByteArray.empty, .slice none 0 0, .bool false, .slice none 0 0, .int .i64 0] 30); have hN := hA.trans (hb.mono hA.size); have hlZ := hS3.size; have HZ := zero_new hb; clear hA) | (have hA := ((Below.refl w2.heap.size w2).alloc (Nat.le_refl _) (.cells #[.string ByteArray.empty, .string ByteArray.empty, .string ByteArray.empty, .slice none 0 0, .bool false, .slice none 0 0, .int .i64 0] 30)).drew; have hN := hA.trans (hb.mono hA.size); have hlZ := Nat.le_refl w2.heap.size; have HZ := zero_new' hb; clear hA)); (try have hZc := blk_cells HZ.out); (try have hZf := blk_frozen HZ.out);  have hS3 := hN; have hXc := box_later hX hz hS3; have hzc := Nat.lt_of_lt_of_le hz hS3.size; (try have hnZ := Nat.ne_of_lt (Nat.lt_of_lt_of_le hz hlZ)); clear hN hb; have hmd := hmN; clear hmN)
      | (go_at_call 12; refine (toGateObject_any _ _ _ _ _ _ (HOO.out.mono (by first | exact HBB.out.trans (hS3.mono HBB.out.size) | exact HBB.out.trans ((hS3.alloc hS3.size _).mono HBB.out.size) | exact HBB.out.trans ((((Below.refl w2.heap.size w2).alloc (Nat.le_refl _) (.cells #[.string ByteArray.empty, .string ByteArray.empty, .string ByteArray.empty, .slice none 0 0, .bool false, .slice none 0 0, .int .i64 0] 30)).drew).mono HBB.out.size))) HLO.out.1 HLO.out.2).mono ?_; rintro e w3 ⟨bv3, bh3, rfl, hlo, hhi, hne, hv3, hh3, hb⟩; have hoN := ob_own HOO.out hv3 hh3; clear hlo hhi hne hv3 hh3; have hs := (by first | exact hs.mono hb | exact (hs.mono ((Below.refl _ _).alloc (Nat.le_refl _) _)).mono hb : ShpsAt w3 _ ss); have hmd := (by first | exact hmd.mono hb | exact (hmd.mono ((Below.refl _ _).alloc (Nat.le_refl _) _)).mono hb : MndsAt w3 _ ms); (first | (have hN := hS3.trans (hb.mono hS3.size); (try have HZ := zero_next HZ hb)) | (have hA := hS3.alloc hS3.size (.cells #[.string ByteArray.empty, .string ByteArray.empty, .string ByteArray.empty, .slice none 0 0, .bool false, .slice none 0 0, .int .i64 0] 30); have hN := hA.trans (hb.mono hA.size); have hlZ := hS3.size; have HZ := zero_new hb; clear hA) | (have hA := ((Below.refl w2.heap.size w2).alloc (Nat.le_refl _) (.cells #[.string ByteArray.empty, .string ByteArray.empty, .string ByteArray.empty, .slice none 0 0, .bool false, .slice none 0 0, .int .i64 0] 30)).drew; have hN := hA.trans (hb.mono hA.size); have hlZ := Nat.le_refl w2.heap.size; have HZ := zero_new' hb; clear hA)); (try have hZc := blk_cells HZ.out); (try have hZf := blk_frozen HZ.out);  have hS3 := hN; have hXc := box_later hX hz hS3; have hzc := Nat.lt_of_lt_of_le hz hS3.size; (try have hnZ := Nat.ne_of_lt (Nat.lt_of_lt_of_le hz hlZ)); clear hN hb; have hoo := hoN; clear hoN)
      | (go_at_call 9; refine (specMended_any _ _ _ _ _ _ _ _ _ _ _ _ _ _ (by first | exact hs | exact hs.mono ((Below.refl _ _).alloc (Nat.le_refl _) _)) (by first | exact hmd | exact hmd.mono ((Below.refl _ _).alloc (Nat.le_refl _) _)) (by first | exact hoo | exact hoo.mono ((Below.refl _ _).alloc (Nat.le_refl _) _)) HLO.out.1 HLO.out.2).mono ?_; rintro e w3 ⟨aP, dP, aP', dP', mP, rfl, hT, hm, hl, hT', hb⟩; rw [hvs] at hT; (first | (have hloW : w2.heap.size ≤ _ := Nat.le_trans hS3.size (Nat.le_of_eq (size_of hb))) | (have hloW : w2.heap.size ≤ _ := Nat.le_trans (hS3.alloc hS3.size (.cells #[.string ByteArray.empty, .string ByteArray.empty, .string ByteArray.empty, .slice none 0 0, .bool false, .slice none 0 0, .int .i64 0] 30)).size (Nat.le_of_eq (size_of hb)))); (try have hbW := (Array.getElem?_eq_some_iff.1 HZ.out).1); (try have hbW := size_alloc_lt hb); clear hs hmd hoo; (first | (have hN := hS3.trans (hb.mono hS3.size); (try have HZ := zero_next HZ hb)) | (have hA := hS3.alloc hS3.size (.cells #[.string ByteArray.empty, .string ByteArray.empty, .string ByteArray.empty, .slice none 0 0, .bool false, .slice none 0 0, .int .i64 0] 30); have hN := hA.trans (hb.mono hA.size); have hlZ := hS3.size; have HZ := zero_new hb; clear hA) | (have hA := ((Below.refl w2.heap.size w2).alloc (Nat.le_refl _) (.cells #[.string ByteArray.empty, .string ByteArray.empty, .string ByteArray.empty, .slice none 0 0, .bool false, .slice none 0 0, .int .i64 0] 30)).drew; have hN := hA.trans (hb.mono hA.size); have hlZ := Nat.le_refl w2.heap.size; have HZ := zero_new' hb; clear hA)); (try have hZc := blk_cells HZ.out); (try have hZf := blk_frozen HZ.out);  have hS3 := hN; have hXc := box_later hX hz hS3; have hzc := Nat.lt_of_lt_of_le hz hS3.size; (try have hnZ := Nat.ne_of_lt (Nat.lt_of_lt_of_le hz hlZ)); clear hN hb))
    · exact ⟨rfl, _, _, _, _, _, _, _, _, _, _, _, _, _, rfl, hS3.size, alloc_at _ _, (hT.low hloW).mono ((Below.refl _ _).alloc (Nat.le_refl _) _), hm, Nat.le_trans hloW hl, hT'.mono ((Below.refl _ _).alloc (Nat.le_refl _) _), hS3.alloc hS3.size _⟩
    all_goals exact ⟨rfl, _, _, _, _, _, _, _, _, _, _, _, _, _, rfl, hlZ, put7_at HZ.out _ _ _ _ _ _ _, (put7_own hT _ hbW _ _ _ _ _ _ _).low hloW, hm, Nat.le_trans hloW hl, put7_own hT' _ (Nat.lt_of_lt_of_le hbW hl) _ _ _ _ _ _ _, put7_below hS3 _ hlZ _ _ _ _ _ _ _⟩
  rintro A' w3 ⟨u32, u33, u34, u35, u36, u37, u38, bP, aP, dP, aP', dP', mP, rfl, hbP, hKP, hTP, hmP, hlP, hTP', hBelowP⟩
  simp only [Act.put, List.setIfInBounds_toArray, List.set_cons_zero, List.set_cons_succ]
  have hX3 := box_later hX hz hBelowP
  have HB3 : Hid (Below w.heap.size w w3) := HBB.out.trans (hBelowP.mono HBB.out.size)
  have hz3 : w.heap.size < w3.heap.size := Nat.lt_of_lt_of_le hz hBelowP.size
  have HTP : Hid (TxtsOwn w2.heap.size w3 aP vs ∧ TxtsOwn mP w3 aP' o.hs) := ⟨hTP, hTP'⟩
  have HKP : Hid (w3.heap[bP]? = some (.cells #[.string o.kd, .string o.nm, .string o.tm, .slice aP o.vs.length dP, .bool o.en, .slice aP' o.hs.length dP', .int .i64 o.vr] 30)) := hKP
  have hzP : bP < w3.heap.size := (Array.getElem?_eq_some_iff.1 hKP).1
  clear hS3 hXc hzc hX hz hBelowP hTP hTP' hKP hmP hlP hbP
  go_wp2_with fail
  refine (toGateShapeS_any _ _ _ _ (HWW.out.mono HB3.out) HLS.out.1 HLS.out.2).mono ?_
  rintro e w4s ⟨rfl, hown, hb4⟩
  have HS4s : Hid (ShpsOwn w3.heap.size w4s w3.heap.size ss ss.length) := hown
  have hX4s := box_later hX3 hz3 hb4
  have hz4s := Nat.lt_of_lt_of_le hz3 hb4.size
  have HB4s : Hid (Below w.heap.size w w4s) := HB3.out.trans (hb4.mono HB3.out.size)
  have HB34s : Hid (Below w3.heap.size w3 w4s) := hb4
  clear hown hX3 hb4
  go_wp2_with fail
  refine (toGateMendS_any _ _ _ _ (HMM.out.mono HB4s.out) HLM.out).mono ?_
  rintro e w4 ⟨rfl, hown, hb4⟩
  have HS4 : Hid (ShpsOwn w3.heap.size w4 w3.heap.size ss ss.length) := HS4s.out.later hb4
  have HM4 : Hid (MndsOwn w4s.heap.size w4 w4s.heap.size ms ms.length) := hown
  have hX4 := box_later hX4s hz4s hb4
  have HB4 : Hid (Below w.heap.size w w4) := HB4s.out.trans (hb4.mono HB4s.out.size)
  have HB34 : Hid (Below w3.heap.size w3 w4) := HB34s.out.trans (hb4.mono HB34s.out.size)
  have HZ4s : Hid (w3.heap.size ≤ w4s.heap.size) := HB34s.out.size
  clear hown hX4s hb4 HS4s HB4s HB34s
  go_wp2_with fail
  refine (toGateObject_any _ _ _ _ _ _ (HOO.out.mono HB4.out) HLO.out.1 HLO.out.2).mono ?_
  rintro e w5 ⟨bv1, bh1, rfl, hlv, hlh, hne1, hv1, hh1, hb5⟩
  have HU5 : Hid (w5.heap[bv1]? = some (.cells (strArr o.vs) 9) ∧ w5.heap[bh1]? = some (.cells (strArr o.hs) 9) ∧ w4.heap.size ≤ bv1 ∧ w4.heap.size ≤ bh1) := ⟨hv1, hh1, hlv, hlh⟩
  have HB45 : Hid (Below w4.heap.size w4 w5) := hb5
  have HA5 : Hid (Below w5.heap.size w5 (w5.alloc (.cells #[.string o.kd, .string o.nm, .string o.tm, .slice (some ⟨bv1, 0, none⟩) o.vs.length o.vs.length, .bool o.en, .slice (some ⟨bh1, 0, none⟩) o.hs.length o.hs.length, .int .i64 o.vr] 30))) := (Below.refl _ _).alloc (Nat.le_refl _) _
  clear hlv hlh hne1 hv1 hh1 hb5
  go_wp2_with fail
  refine (implMended_any _ _ _ _ ss ms o bv1 0 bh1 0 _ _ _ (by exact ((HS4.out.at HSM.out HML.out).mono HB45.out).mono HA5.out) (by exact ((HM4.out.at HMS.out.1 HMS.out.2).mono HB45.out).mono HA5.out) (by exact (ob_own HOO.out HU5.out.1 HU5.out.2.1).mono HA5.out) HLO.out.1 HLO.out.2 HLM.out).mono ?_
  rintro e w6 ⟨aG, dG, aG', dG', mG, rfl, hTG, hmG, hlG, hTG', hb6⟩
  rw [hvs] at hTG
  have HTG : Hid (TxtsOwn (w5.heap.size + 1) w6 aG vs ∧ (∀ g, aG = some g → g.block < mG) ∧ w5.heap.size + 1 ≤ mG ∧ TxtsOwn mG w6 aG' o.hs) := by
    simp only [World.size_alloc] at hTG hlG
    exact ⟨hTG, hmG, hlG, hTG'⟩
  have HB56 : Hid (Below (w5.heap.size + 1) (w5.alloc (.cells #[.string o.kd, .string o.nm, .string o.tm, .slice (some ⟨bv1, 0, none⟩) o.vs.length o.vs.length, .bool o.en, .slice (some ⟨bh1, 0, none⟩) o.hs.length o.hs.length, .int .i64 o.vr] 30)) w6) := by simpa [Hid] using hb6
  clear hTG hmG hlG hTG' hb6
  have hsz56 : w5.heap.size < w6.heap.size := by have := HB56.out.size; simp at this; omega
  have hsz45 : w4.heap.size ≤ w5.heap.size := HB45.out.size
  have hsz34 : w3.heap.size ≤ w4.heap.size := HB34.out.size
  have HAG : Hid (Below w6.heap.size w6 (w6.alloc (.cells #[.string o.kd, .string o.nm, .string o.tm, .slice aG o.vs.length dG, .bool o.en, .slice aG' o.hs.length dG', .int .i64 o.vr] 30))) := (Below.refl _ _).alloc (Nat.le_refl _) _
  have HB5g : Hid (Below w5.heap.size w5 (w6.alloc (.cells #[.string o.kd, .string o.nm, .string o.tm, .slice aG o.vs.length dG, .bool o.en, .slice aG' o.hs.length dG', .int .i64 o.vr] 30))) := (HA5.out.trans (HB56.out.mono (by omega))).trans (HAG.out.mono (by omega))
  have HB4g : Hid (Below w4.heap.size w4 (w6.alloc (.cells #[.string o.kd, .string o.nm, .string o.tm, .slice aG o.vs.length dG, .bool o.en, .slice aG' o.hs.length dG', .int .i64 o.vr] 30))) := HB45.out.trans (HB5g.out.mono hsz45)
  have HB3g : Hid (Below w3.heap.size w3 (w6.alloc (.cells #[.string o.kd, .string o.nm, .string o.tm, .slice aG o.vs.length dG, .bool o.en, .slice aG' o.hs.length dG', .int .i64 o.vr] 30))) := HB34.out.trans (HB4g.out.mono hsz34)
  have HBg : Hid (Below w.heap.size w (w6.alloc (.cells #[.string o.kd, .string o.nm, .string o.tm, .slice aG o.vs.length dG, .bool o.en, .slice aG' o.hs.length dG', .int .i64 o.vr] 30))) := HB3.out.trans (HB3g.out.mono HB3.out.size)
  have HKU : Hid ((w6.alloc (.cells #[.string o.kd, .string o.nm, .string o.tm, .slice aG o.vs.length dG, .bool o.en, .slice aG' o.hs.length dG', .int .i64 o.vr] 30)).heap[w5.heap.size]? = some (.cells #[.string o.kd, .string o.nm, .string o.tm, .slice (some ⟨bv1, 0, none⟩) o.vs.length o.vs.length, .bool o.en, .slice (some ⟨bh1, 0, none⟩) o.hs.length o.hs.length, .int .i64 o.vr] 30)) := (HAG.out.block _ hsz56).trans ((HB56.out.block w5.heap.size (Nat.lt_succ_self _)).trans (alloc_at _ _))
  have HKG : Hid ((w6.alloc (.cells #[.string o.kd, .string o.nm, .string o.tm, .slice aG o.vs.length dG, .bool o.en, .slice aG' o.hs.length dG', .int .i64 o.vr] 30)).heap[w6.heap.size]? = some (.cells #[.string o.kd, .string o.nm, .string o.tm, .slice aG o.vs.length dG, .bool o.en, .slice aG' o.hs.length dG', .int .i64 o.vr] 30)) := alloc_at _ _
  have HKPg : Hid ((w6.alloc (.cells #[.string o.kd, .string o.nm, .string o.tm, .slice aG o.vs.length dG, .bool o.en, .slice aG' o.hs.length dG', .int .i64 o.vr] 30)).heap[bP]? = some (.cells #[.string o.kd, .string o.nm, .string o.tm, .slice aP o.vs.length dP, .bool o.en, .slice aP' o.hs.length dP', .int .i64 o.vr] 30)) := (HB3g.out.block bP hzP).trans HKP.out
  have HTPg : Hid (TxtsOwn w2.heap.size (w6.alloc (.cells #[.string o.kd, .string o.nm, .string o.tm, .slice aG o.vs.length dG, .bool o.en, .slice aG' o.hs.length dG', .int .i64 o.vr] 30)) aP vs ∧ TxtsOwn mP (w6.alloc (.cells #[.string o.kd, .string o.nm, .string o.tm, .slice aG o.vs.length dG, .bool o.en, .slice aG' o.hs.length dG', .int .i64 o.vr] 30)) aP' o.hs ∧ (∀ g, aP = some g → g.block < w3.heap.size) ∧ ∀ g, aP' = some g → g.block < w3.heap.size) := ⟨HTP.out.1.mono HB3g.out, HTP.out.2.mono HB3g.out, HTP.out.1.lt, HTP.out.2.lt⟩
  have HTGg : Hid (TxtsOwn (w5.heap.size + 1) (w6.alloc (.cells #[.string o.kd, .string o.nm, .string o.tm, .slice aG o.vs.length dG, .bool o.en, .slice aG' o.hs.length dG', .int .i64 o.vr] 30)) aG vs ∧ TxtsOwn mG (w6.alloc (.cells #[.string o.kd, .string o.nm, .string o.tm, .slice aG o.vs.length dG, .bool o.en, .slice aG' o.hs.length dG', .int .i64 o.vr] 30)) aG' o.hs ∧ (∀ g, aG = some g → w5.heap.size + 1 ≤ g.block ∧ g.block < w6.heap.size) ∧ ∀ g, aG' = some g → w5.heap.size + 1 ≤ g.block ∧ g.block < w6.heap.size) := ⟨HTG.out.1.mono HAG.out, HTG.out.2.2.2.mono HAG.out, fun g hg => ⟨HTG.out.1.ge g hg, HTG.out.1.lt g hg⟩, fun g hg => ⟨Nat.le_trans HTG.out.2.2.1 (HTG.out.2.2.2.ge g hg), HTG.out.2.2.2.lt g hg⟩⟩
  have HGM : Hid ((∀ g, aG = some g → g.block < mG) ∧ w5.heap.size + 1 ≤ mG) := ⟨HTG.out.2.1, HTG.out.2.2.1⟩
  have HX0 : Hid (ShpsAt (w6.alloc (.cells #[.string o.kd, .string o.nm, .string o.tm, .slice aG o.vs.length dG, .bool o.en, .slice aG' o.hs.length dG', .int .i64 o.vr] 30)) (some ⟨w3.heap.size, 0, none⟩) ss ∧ ShpsForm w3.heap.size w4.heap.size (w6.alloc (.cells #[.string o.kd, .string o.nm, .string o.tm, .slice aG o.vs.length dG, .bool o.en, .slice aG' o.hs.length dG', .int .i64 o.vr] 30)) w3.heap.size ss) := ⟨(HS4.out.at HSM.out HML.out).mono HB4g.out, HS4.out.form.mono (Marked.of_below HB4g.out)⟩
  have HXM : Hid (MndsAt (w6.alloc (.cells #[.string o.kd, .string o.nm, .string o.tm, .slice aG o.vs.length dG, .bool o.en, .slice aG' o.hs.length dG', .int .i64 o.vr] 30)) (some ⟨w4s.heap.size, 0, none⟩) ms ∧ MndsForm w3.heap.size w4.heap.size (w6.alloc (.cells #[.string o.kd, .string o.nm, .string o.tm, .slice aG o.vs.length dG, .bool o.en, .slice aG' o.hs.length dG', .int .i64 o.vr] 30)) w4s.heap.size ms) := ⟨(HM4.out.at HMS.out.1 HMS.out.2).mono HB4g.out, MndsForm.mono (MndsForm.wide HM4.out.form HZ4s.out) (Marked.of_below HB4g.out)⟩
  have HX1 : Hid (ObAt (w6.alloc (.cells #[.string o.kd, .string o.nm, .string o.tm, .slice aG o.vs.length dG, .bool o.en, .slice aG' o.hs.length dG', .int .i64 o.vr] 30)) o (some ⟨bv1, 0, none⟩) (some ⟨bh1, 0, none⟩) ∧ TxtsForm w4.heap.size w5.heap.size (w6.alloc (.cells #[.string o.kd, .string o.nm, .string o.tm, .slice aG o.vs.length dG, .bool o.en, .slice aG' o.hs.length dG', .int .i64 o.vr] 30)) bv1 o.vs.length ∧ TxtsForm w4.heap.size w5.heap.size (w6.alloc (.cells #[.string o.kd, .string o.nm, .string o.tm, .slice aG o.vs.length dG, .bool o.en, .slice aG' o.hs.length dG', .int .i64 o.vr] 30)) bh1 o.hs.length) :=
    ⟨(ob_own HOO.out HU5.out.1 HU5.out.2.1).mono HB5g.out, (strs_form HU5.out.1 HU5.out.2.2.1).mono (Marked.of_below HB5g.out), (strs_form HU5.out.2.1 HU5.out.2.2.2).mono (Marked.of_below HB5g.out)⟩
  have hXg : ∀ j, (w6.alloc (.cells #[.string o.kd, .string o.nm, .string o.tm, .slice aG o.vs.length dG, .bool o.en, .slice aG' o.hs.length dG', .int .i64 o.vr] 30)).cell? ⟨w.heap.size, j, none⟩ = (#[.string o.kd, .string o.nm, .string o.tm, .slice a o.vs.length cap, .bool o.en, .slice a' o.hs.length cap', .int .i64 o.vr] : Array Value)[j]? := box_later hX4 (by omega) HB4g.out
  have HXX : Hid (∀ j, (w6.alloc (.cells #[.string o.kd, .string o.nm, .string o.tm, .slice aG o.vs.length dG, .bool o.en, .slice aG' o.hs.length dG', .int .i64 o.vr] 30)).cell? ⟨w.heap.size, j, none⟩ = (#[.string o.kd, .string o.nm, .string o.tm, .slice a o.vs.length cap, .bool o.en, .slice a' o.hs.length cap', .int .i64 o.vr] : Array Value)[j]?) := hXg
  have hPg := blk_cells HKPg.out
  have hGg := blk_cells HKG.out
  clear hX4
  clear HTP HKP HS4 HM4 HB4 HU5 HA5 HTG HB56 HAG HB34 HB45
  generalize hWg : w6.alloc (.cells #[.string o.kd, .string o.nm, .string o.tm, .slice aG o.vs.length dG, .bool o.en, .slice aG' o.hs.length dG', .int .i64 o.vr] 30) = Wg at *
  have hzG : w6.heap.size < Wg.heap.size := (Array.getElem?_eq_some_iff.1 HKG.out).1
  have HVS : Hid (∀ W, TxtsOwn w2.heap.size W aP vs ∧ TxtsOwn mP W aP' o.hs → StrsAt W aP vs ∧ StrsAt W aP' o.hs) := fun W h => ⟨h.1.at HFS.out.2.1 HFS.out.2.2, h.2.at HHS.out.1 HHS.out.2⟩
  have HGS : Hid (∀ W, TxtsOwn (w5.heap.size + 1) W aG vs ∧ TxtsOwn mG W aG' o.hs → StrsAt W aG vs ∧ StrsAt W aG' o.hs) := fun W h => ⟨h.1.at HFS.out.2.1 HFS.out.2.2, h.2.at HHS.out.1 HHS.out.2⟩
  go_wp2_with fail
  have hvP := HVS.out Wg ⟨HTPg.out.1, HTPg.out.2.1⟩
  have hvG := HGS.out Wg ⟨HTGg.out.1, HTGg.out.2.1⟩
  refine (eqFill_yes o vs HFS.out.1 _ _ _ _ _ _ _ _ _ HOO.out.small hvG.1 hvG.2 hvP.1 hvP.2).mono ?_
  rintro e w7 ⟨rfl, hb7⟩
  have HB7 : Hid (Below Wg.heap.size Wg w7) := hb7
  have hX7 := box_later hXg (by omega) hb7
  clear hb7 hvP hvG hXg hPg hGg hWg
  go_wp2_with fail
  refine (toGateShapeS_any _ _ _ _ (HWW.out.mono (HBg.out.trans (HB7.out.mono HBg.out.size))) HLS.out.1 HLS.out.2).mono ?_
  rintro e w8 ⟨rfl, hown, hb8⟩
  have HB8 : Hid (Below Wg.heap.size Wg w8) := HB7.out.trans (hb8.mono HB7.out.size)
  have HQ8 : Hid (ShpsAt w8 (some ⟨w7.heap.size, 0, none⟩) ss) := hown.at HSM.out HML.out
  clear hb8 hown hX7
  go_wp2_with fail
  refine (eqGateShapeS_yes _ _ _ _ _ _ (HX0.out.1.mono HB8.out) HQ8.out).mono ?_
  rintro e w9s ⟨rfl, hb9⟩
  have HB9s : Hid (Below Wg.heap.size Wg w9s) := HB8.out.trans (hb9.mono HB8.out.size)
  clear hb9
  go_wp2_with fail
  refine (toGateMendS_any _ _ _ _ (HMM.out.mono (HBg.out.trans (HB9s.out.mono HBg.out.size))) HLM.out).mono ?_
  rintro e w9m ⟨rfl, hown, hb9⟩
  have HB9m : Hid (Below Wg.heap.size Wg w9m) := HB9s.out.trans (hb9.mono HB9s.out.size)
  have HQ9m : Hid (MndsAt w9m (some ⟨w9s.heap.size, 0, none⟩) ms) := hown.at HMS.out.1 HMS.out.2
  clear hb9 hown
  go_wp2_with fail
  refine (eqGateMendS_yes _ _ _ _ _ _ (HXM.out.1.mono HB9m.out) HQ9m.out).mono ?_
  rintro e w9 ⟨rfl, hb9⟩
  have HB9 : Hid (Below Wg.heap.size Wg w9) := HB9m.out.trans (hb9.mono HB9m.out.size)
  have hSW : Below Wg.heap.size Wg w9.drew := HB9.out.drew
  have hXw : ∀ j, w9.drew.cell? ⟨w.heap.size, j, none⟩ = (#[.string o.kd, .string o.nm, .string o.tm, .slice a o.vs.length cap, .bool o.en, .slice a' o.hs.length cap', .int .i64 o.vr] : Array Value)[j]? := box_later HXX.out (by omega) hSW
  have hUw := box_later (blk_cells HKU.out) (by omega) hSW
  clear hb9 HB7 HB8 HQ8
  go_wp2_with fail
  go_region_held3 (fun w' => (∀ j, w'.cell? ⟨w.heap.size, j, none⟩ = (#[.string o.kd, .string o.nm, .string o.tm, .slice a o.vs.length cap, .bool o.en, .slice a' o.hs.length cap', .int .i64 o.vr] : Array Value)[j]?) ∧ ∀ j, w'.cell? ⟨w5.heap.size, j, none⟩ = (#[.string o.kd, .string o.nm, .string o.tm, .slice (some ⟨bv1, 0, none⟩) o.vs.length o.vs.length, .bool o.en, .slice (some ⟨bh1, 0, none⟩) o.hs.length o.hs.length, .int .i64 o.vr] : Array Value)[j]?) (exact ⟨hXw, hUw⟩) (first
    | (go_at_call 12; refine (toGateObject_any o _ _ _ _ _ (by exact HOO.out.mono (HBg.out.trans (hSW.mono HBg.out.size))) HLO.out.1 HLO.out.2).mono ?_; rintro e w10 ⟨bv, bh, rfl, hlo, hhi, hne, hv', hh, hb⟩; have hq := ob_own HOO.out hv' hh; clear hlo hhi hne hv' hh; have hSW := hSW.trans (hb.mono hSW.size); have hXw : ∀ j, w10.cell? ⟨w.heap.size, j, none⟩ = (#[.string o.kd, .string o.nm, .string o.tm, .slice a o.vs.length cap, .bool o.en, .slice a' o.hs.length cap', .int .i64 o.vr] : Array Value)[j]? := box_later HXX.out (by omega) hSW; have hUw := box_later (blk_cells HKU.out) (by omega) hSW; clear hb)
    | (go_at_call 14; refine (eqGateObject_yes _ _ _ _ _ _ _ _ _ _ (by exact HX1.out.1.mono hSW) (by exact hq)).mono ?_; rintro e w11 ⟨rfl, hb⟩; clear hq; have hSW := hSW.trans (hb.mono hSW.size); have hXw : ∀ j, w11.cell? ⟨w.heap.size, j, none⟩ = (#[.string o.kd, .string o.nm, .string o.tm, .slice a o.vs.length cap, .bool o.en, .slice a' o.hs.length cap', .int .i64 o.vr] : Array Value)[j]? := box_later HXX.out (by omega) hSW; have hUw := box_later (blk_cells HKU.out) (by omega) hSW; clear hb))
  go_wp2_with fail
  have HB11 : Hid (Below Wg.heap.size Wg w11) := hSW
  clear hSW hXw hUw
  refine (markGateShapeS_any w3.heap.size w4.heap.size w3.heap.size _ ss 1 w11 (HX0.out.2.mono (Marked.of_below HB11.out)) HLS.out.1 HLS.out.2 (by omega) (by omega)).mono ?_
  rintro e w12s ⟨k0, rfl, hk0, hk0', hM12⟩
  have HM12s : Hid (Marked w3.heap.size w4.heap.size Wg w12s) := (Marked.of_below HB11.out).trans hM12
  have HK0 : Hid (0 < k0 ∧ k0 < 6000000000000000000) := by have := HLS.out.1; exact ⟨by omega, by omega⟩
  clear hk0 hk0' hM12
  go_wp2_with fail
  refine (markGateMendS_any w3.heap.size w4.heap.size w4s.heap.size _ ms k0 w12s (HXM.out.2.mono HM12s.out) HLM.out HK0.out.1 HK0.out.2).mono ?_
  rintro e w12 ⟨k1, rfl, hk1, hk1', hM12⟩
  have HM12 : Hid (Marked w3.heap.size w5.heap.size Wg w12) := (HM12s.out.trans hM12).wide (Nat.le_refl _) hsz45
  have HK1 : Hid (0 < k1 ∧ k1 < 7000000000000000000) := by have h1 := HLM.out; have h2 := HK0.out; exact ⟨by omega, by omega⟩
  have hU12 := HM12.out.box (blk_cells HKU.out) (by omega) (Or.inr (Nat.le_refl _))
  clear hk1 hk1' hM12 HB11 HX0 HXM HM12s HK0
  go_wp2_with fail
  refine (markGateObject_form w3.heap.size w5.heap.size o bv1 bh1 _ _ k1 w12 (TxtsForm.mono (HX1.out.2.1.wide hsz34) HM12.out) (TxtsForm.mono (HX1.out.2.2.wide hsz34) HM12.out) HLO.out.1 HLO.out.2 (by have := HM12.out.size; omega) HK1.out.1 HK1.out.2).mono ?_
  rintro e w13 ⟨k2, rfl, hk2, hM13⟩
  have HM13 : Hid (Marked w3.heap.size w5.heap.size Wg w13) := HM12.out.trans hM13
  have hk2n : decide (k2 < 0) = false := by simp; omega
  have hP13 := HM13.out.box (blk_cells HKPg.out) (by omega) (Or.inl hzP)
  have hG13 := HM13.out.box (blk_cells HKG.out) (by omega) (Or.inr (by omega))
  clear hk2 hM13 hU12 HM12 HX1 HK1
  go_wp2_with fail
  have hvP := HVS.out w13 ⟨HM13.out.txts HTPg.out.1 (fun g hg => Or.inl (HTPg.out.2.2.1 g hg)), HM13.out.txts HTPg.out.2.1 (fun g hg => Or.inl (HTPg.out.2.2.2 g hg))⟩
  have hvG := HGS.out w13 ⟨HM13.out.txts HTGg.out.1 (fun g hg => Or.inr (by have := (HTGg.out.2.2.1 g hg).1; omega)), HM13.out.txts HTGg.out.2.1 (fun g hg => Or.inr (by have := (HTGg.out.2.2.2 g hg).1; omega))⟩
  refine (eqFill_yes o vs HFS.out.1 _ _ _ _ _ _ _ _ _ HOO.out.small hvG.1 hvG.2 hvP.1 hvP.2).mono ?_
  rintro e w14 ⟨rfl, hb14⟩
  have HM14 : Hid (Marked w3.heap.size w5.heap.size Wg w14) := HM13.out.trans (Marked.of_below hb14)
  have hG14 := HM14.out.box (blk_cells HKG.out) (by omega) (Or.inr (by omega))
  clear hb14 hvP hvG hP13 hG13 HM13
  go_wp2_with fail
  refine (markFill_own o vs HFS.out.1 (w5.heap.size + 1) mG w6.heap.size aG aG' _ _ w14 (HM14.out.txts HTGg.out.1 (fun g hg => Or.inr (by have := (HTGg.out.2.2.1 g hg).1; omega))) HGM.out.1 HGM.out.2 (HM14.out.txts HTGg.out.2.1 (fun g hg => Or.inr (by have := (HTGg.out.2.2.2 g hg).1; omega))) HLO.out.1 HLO.out.2 (fun g hg => (HTGg.out.2.2.1 g hg).2) (fun g hg => (HTGg.out.2.2.2 g hg).2) (by have := HM14.out.size; omega)).mono ?_
  rintro e w15 ⟨rfl, ht15, ht15', hM15⟩
  have HM15 : Hid (Marked w3.heap.size w6.heap.size Wg w15) := (HM14.out.wide (Nat.le_refl _) (by omega)).trans (hM15.wide (by omega) (Nat.le_refl _))
  have HQ : Hid (TxtsOwn (w5.heap.size + 1) w15 aG (markTxts 1 o.vs.length) ∧ TxtsOwn mG w15 aG' (markTxts (1 + o.vs.length) o.hs.length)) := ⟨ht15, ht15'⟩
  have hG15 := HM15.out.box (blk_cells HKG.out) (by omega) (Or.inr (Nat.le_refl _))
  clear ht15 ht15' hM15 hG14 HM14
  go_wp2_with fail
  have HQS : Hid (∀ W, TxtsOwn (w5.heap.size + 1) W aG (markTxts 1 o.vs.length) ∧ TxtsOwn mG W aG' (markTxts (1 + o.vs.length) o.hs.length) → StrsAt W aG (markTxts 1 o.vs.length) ∧ StrsAt W aG' (markTxts (1 + o.vs.length) o.hs.length)) := fun W h => by
    have h1 := HLO.out.1
    have h2 := HLO.out.2
    exact ⟨h.1.at (by rw [markTxts_length]; unfold maxLen; omega) (markTxts_small _ _ (by omega)), h.2.at (by rw [markTxts_length]; unfold maxLen; omega) (markTxts_small _ _ (by omega))⟩
  have hvG := HQS.out w15 HQ.out
  refine (heldGateObject_any o _ _ aG aG' _ _ w15 hvG.1 hvG.2 HLO.out.1 HLO.out.2).mono ?_
  rintro e w16 ⟨rfl, hb16⟩
  have hq1 : decide ((1 : Int) + (o.vs.length : Int) + (o.hs.length : Int) < 0) = false := by simp; omega
  have HM16 : Hid (Marked w3.heap.size w6.heap.size Wg w16) := HM15.out.trans (Marked.of_below hb16)
  have HQ16 : Hid (TxtsOwn (w5.heap.size + 1) w16 aG (markTxts 1 o.vs.length) ∧ TxtsOwn mG w16 aG' (markTxts (1 + o.vs.length) o.hs.length)) := ⟨HQ.out.1.mono hb16, HQ.out.2.mono hb16⟩
  have hX := HM16.out.box HXX.out (by omega) (Or.inl hz3)
  have hz : w.heap.size < w16.heap.size := by have := HM16.out.size; omega
  have hzF : w.heap.size ≤ w3.heap.size := by omega
  have HB1 : Hid (Below w.heap.size w w2) := HBB.out
  clear HBB
  have HBB : Hid (Below w.heap.size w w16) := HBg.out.trans (HM16.out.below hzF (by omega))
  have HP16 : Hid (w16.heap[bP]? = some (.cells #[.string o.kd, .string o.nm, .string o.tm, .slice aP o.vs.length dP, .bool o.en, .slice aP' o.hs.length dP', .int .i64 o.vr] 30) ∧ bP < w16.heap.size ∧ TxtsOwn w2.heap.size w16 aP vs ∧ TxtsOwn mP w16 aP' o.hs) := by
    refine ⟨(HM16.out.out bP (by omega) (Or.inl hzP)).trans HKPg.out, by have := HM16.out.size; omega, HM16.out.txts HTPg.out.1 (fun g hg => Or.inl (HTPg.out.2.2.1 g hg)), HM16.out.txts HTPg.out.2.1 (fun g hg => Or.inl (HTPg.out.2.2.2 g hg))⟩
  have HG16 : Hid (w16.heap[w6.heap.size]? = some (.cells #[.string o.kd, .string o.nm, .string o.tm, .slice aG o.vs.length dG, .bool o.en, .slice aG' o.hs.length dG', .int .i64 o.vr] 30) ∧ w6.heap.size < w16.heap.size) := ⟨(HM16.out.out _ hzG (Or.inr (Nat.le_refl _))).trans HKG.out, by have := HM16.out.size; omega⟩
  clear hb16 hvG hG15 HM15 HQ HTGg HTPg HKPg HKG HKU HGM HBg HB3g HB4g HB5g HXX HB9
  go_wp2_with fail
  have hS3 : Below w16.heap.size w16 w16.drew := (Below.refl _ _).drew
  have hXc := box_later hX hz hS3
  have hzc : w.heap.size < w16.drew.heap.size := hz
  refine region_cut (fun A A' w' => ∃ u96 u97 u98 u99 u100 u101 u102 bH aH dH aH' dH' mH, A' = ((((((((A.put (some 96) u96).put (some 97) u97).put (some 98) u98).put (some 99) u99).put (some 100) u100).put (some 101) u101).put (some 102) u102).put (some 16) (.pointer (some ⟨bH, 0, none⟩))) ∧ w16.heap.size ≤ bH ∧ w'.heap[bH]? = some (.cells #[.string o.kd, .string o.nm, .string o.tm, .slice aH o.vs.length dH, .bool o.en, .slice aH' o.hs.length dH', .int .i64 o.vr] 30) ∧ TxtsOwn w16.heap.size w' aH vs ∧ (∀ g, aH = some g → g.block < mH) ∧ w16.heap.size ≤ mH ∧ TxtsOwn mH w' aH' o.hs ∧ Below w16.heap.size w16 w') ?_ ?_
  · go_region_held3 (fun w' => ∀ j, w'.cell? ⟨w.heap.size, j, none⟩ = (#[.string o.kd, .string o.nm, .string o.tm, .slice a o.vs.length cap, .bool o.en, .slice a' o.hs.length cap', .int .i64 o.vr] : Array Value)[j]?) (first | (intro j; rw [hXc]) | (intro j; rw [cell_alloc_old hzc, hXc]) | (intro j; rw [cell_set7 hnZ, hXc]) | (intro j; rw [cell_alloc_drew hz, hX])) (first
      | (go_at_call 10; refine (toGateShapeS_any _ _ _ _ (HWW.out.mono (by first | exact HBB.out.trans (hS3.mono HBB.out.size) | exact HBB.out.trans ((hS3.alloc hS3.size _).mono HBB.out.size) | exact HBB.out.trans ((((Below.refl w16.heap.size w16).alloc (Nat.le_refl _) (.cells #[.string ByteArray.empty, .string ByteArray.empty, .string ByteArray.empty, .slice none 0 0, .bool false, .slice none 0 0, .int .i64 0] 30)).drew).mono HBB.out.size))) HLS.out.1 HLS.out.2).mono ?_; rintro e w17 ⟨rfl, hown, hb⟩; have hsN := hown.at HSM.out HML.out; clear hown; (try simp at hsN); (first | (have hN := hS3.trans (hb.mono hS3.size); (try have HZ := zero_next HZ hb)) | (have hA := hS3.alloc hS3.size (.cells #[.string ByteArray.empty, .string ByteArray.empty, .string ByteArray.empty, .slice none 0 0, .bool false, .slice none 0 0, .int .i64 0] 30); have hN := hA.trans (hb.mono hA.size); have hlZ := hS3.size; have HZ := zero_new hb; clear hA) | (have hA := ((Below.refl w16.heap.size w16).alloc (Nat.le_refl _) (.cells #[.string ByteArray.empty, .string ByteArray.empty, .string ByteArray.empty, .slice none 0 0, .bool false, .slice none 0 0, .int .i64 0] 30)).drew; have hN := hA.trans (hb.mono hA.size); have hlZ := Nat.le_refl w16.heap.size; have HZ := zero_new' hb; clear hA)); (try have hZc := blk_cells HZ.out); (try have hZf := blk_frozen HZ.out);  have hS3 := hN; have hXc := box_later hX hz hS3; have hzc := Nat.lt_of_lt_of_le hz hS3.size; (try have hnZ := Nat.ne_of_lt (Nat.lt_of_lt_of_le hz hlZ)); clear hN hb; have hs := hsN; clear hsN)
      | (go_at_call 11; refine (toGateMendS_any _ _ _ _ (HMM.out.mono (by first | exact HBB.out.trans (hS3.mono HBB.out.size) | exact HBB.out.trans ((hS3.alloc hS3.size _).mono HBB.out.size) | exact HBB.out.trans ((((Below.refl w16.heap.size w16).alloc (Nat.le_refl _) (.cells #[.string ByteArray.empty, .string ByteArray.empty, .string ByteArray.empty, .slice none 0 0, .bool false, .slice none 0 0, .int .i64 0] 30)).drew).mono HBB.out.size))) HLM.out).mono ?_; rintro e w17 ⟨rfl, hown, hb⟩; have hmN := hown.at HMS.out.1 HMS.out.2; clear hown; (try simp at hmN); have hs := (by first | exact hs.mono hb | exact (hs.mono ((Below.refl _ _).alloc (Nat.le_refl _) _)).mono hb : ShpsAt w17 _ ss); (first | (have hN := hS3.trans (hb.mono hS3.size); (try have HZ := zero_next HZ hb)) | (have hA := hS3.alloc hS3.size (.cells #[.string ByteArray.empty, .string ByteArray.empty, .string ByteArray.empty, .slice none 0 0, .bool false, .slice none 0 0, .int .i64 0] 30); have hN := hA.trans (hb.mono hA.size); have hlZ := hS3.size; have HZ := zero_new hb; clear hA) | (have hA := ((Below.refl w16.heap.size w16).alloc (Nat.le_refl _) (.cells #[.string ByteArray.empty, .string ByteArray.empty, .string ByteArray.empty, .slice none 0 0, .bool false, .slice none 0 0, .int .i64 0] 30)).drew; have hN := hA.trans (hb.mono hA.size); have hlZ := Nat.le_refl w16.heap.size; have HZ := zero_new' hb; clear hA)); (try have hZc := blk_cells HZ.out); (try have hZf := blk_frozen HZ.out);  have hS3 := hN; have hXc := box_later hX hz hS3; have hzc := Nat.lt_of_lt_of_le hz hS3.size; (try have hnZ := Nat.ne_of_lt (Nat.lt_of_lt_of_le hz hlZ)); clear hN hb; have hmd := hmN; clear hmN)
      | (go_at_call 12; refine (toGateObject_any _ _ _ _ _ _ (HOO.out.mono (by first | exact HBB.out.trans (hS3.mono HBB.out.size) | exact HBB.out.trans ((hS3.alloc hS3.size _).mono HBB.out.size) | exact HBB.out.trans ((((Below.refl w16.heap.size w16).alloc (Nat.le_refl _) (.cells #[.string ByteArray.empty, .string ByteArray.empty, .string ByteArray.empty, .slice none 0 0, .bool false, .slice none 0 0, .int .i64 0] 30)).drew).mono HBB.out.size))) HLO.out.1 HLO.out.2).mono ?_; rintro e w17 ⟨bv3, bh3, rfl, hlo, hhi, hne, hv3, hh3, hb⟩; have hoN := ob_own HOO.out hv3 hh3; clear hlo hhi hne hv3 hh3; have hs := (by first | exact hs.mono hb | exact (hs.mono ((Below.refl _ _).alloc (Nat.le_refl _) _)).mono hb : ShpsAt w17 _ ss); have hmd := (by first | exact hmd.mono hb | exact (hmd.mono ((Below.refl _ _).alloc (Nat.le_refl _) _)).mono hb : MndsAt w17 _ ms); (first | (have hN := hS3.trans (hb.mono hS3.size); (try have HZ := zero_next HZ hb)) | (have hA := hS3.alloc hS3.size (.cells #[.string ByteArray.empty, .string ByteArray.empty, .string ByteArray.empty, .slice none 0 0, .bool false, .slice none 0 0, .int .i64 0] 30); have hN := hA.trans (hb.mono hA.size); have hlZ := hS3.size; have HZ := zero_new hb; clear hA) | (have hA := ((Below.refl w16.heap.size w16).alloc (Nat.le_refl _) (.cells #[.string ByteArray.empty, .string ByteArray.empty, .string ByteArray.empty, .slice none 0 0, .bool false, .slice none 0 0, .int .i64 0] 30)).drew; have hN := hA.trans (hb.mono hA.size); have hlZ := Nat.le_refl w16.heap.size; have HZ := zero_new' hb; clear hA)); (try have hZc := blk_cells HZ.out); (try have hZf := blk_frozen HZ.out);  have hS3 := hN; have hXc := box_later hX hz hS3; have hzc := Nat.lt_of_lt_of_le hz hS3.size; (try have hnZ := Nat.ne_of_lt (Nat.lt_of_lt_of_le hz hlZ)); clear hN hb; have hoo := hoN; clear hoN)
      | (go_at_call 13; refine (implMended_any _ _ _ _ _ _ _ _ _ _ _ _ _ _ (by first | exact hs | exact hs.mono ((Below.refl _ _).alloc (Nat.le_refl _) _)) (by first | exact hmd | exact hmd.mono ((Below.refl _ _).alloc (Nat.le_refl _) _)) (by first | exact hoo | exact hoo.mono ((Below.refl _ _).alloc (Nat.le_refl _) _)) HLO.out.1 HLO.out.2 HLM.out).mono ?_; rintro e w17 ⟨aH, dH, aH', dH', mH, rfl, hT, hm, hl, hT', hb⟩; rw [hvs] at hT; (first | (have hloW : w16.heap.size ≤ _ := Nat.le_trans hS3.size (Nat.le_of_eq (size_of hb))) | (have hloW : w16.heap.size ≤ _ := Nat.le_trans (hS3.alloc hS3.size (.cells #[.string ByteArray.empty, .string ByteArray.empty, .string ByteArray.empty, .slice none 0 0, .bool false, .slice none 0 0, .int .i64 0] 30)).size (Nat.le_of_eq (size_of hb)))); (try have hbW := (Array.getElem?_eq_some_iff.1 HZ.out).1); (try have hbW := size_alloc_lt hb); clear hs hmd hoo; (first | (have hN := hS3.trans (hb.mono hS3.size); (try have HZ := zero_next HZ hb)) | (have hA := hS3.alloc hS3.size (.cells #[.string ByteArray.empty, .string ByteArray.empty, .string ByteArray.empty, .slice none 0 0, .bool false, .slice none 0 0, .int .i64 0] 30); have hN := hA.trans (hb.mono hA.size); have hlZ := hS3.size; have HZ := zero_new hb; clear hA) | (have hA := ((Below.refl w16.heap.size w16).alloc (Nat.le_refl _) (.cells #[.string ByteArray.empty, .string ByteArray.empty, .string ByteArray.empty, .slice none 0 0, .bool false, .slice none 0 0, .int .i64 0] 30)).drew; have hN := hA.trans (hb.mono hA.size); have hlZ := Nat.le_refl w16.heap.size; have HZ := zero_new' hb; clear hA)); (try have hZc := blk_cells HZ.out); (try have hZf := blk_frozen HZ.out);  have hS3 := hN; have hXc := box_later hX hz hS3; have hzc := Nat.lt_of_lt_of_le hz hS3.size; (try have hnZ := Nat.ne_of_lt (Nat.lt_of_lt_of_le hz hlZ)); clear hN hb))
    · exact ⟨rfl, _, _, _, _, _, _, _, _, _, _, _, _, _, rfl, hS3.size, alloc_at _ _, (hT.low hloW).mono ((Below.refl _ _).alloc (Nat.le_refl _) _), hm, Nat.le_trans hloW hl, hT'.mono ((Below.refl _ _).alloc (Nat.le_refl _) _), hS3.alloc hS3.size _⟩
    all_goals exact ⟨rfl, _, _, _, _, _, _, _, _, _, _, _, _, _, rfl, hlZ, put7_at HZ.out _ _ _ _ _ _ _, (put7_own hT _ hbW _ _ _ _ _ _ _).low hloW, hm, Nat.le_trans hloW hl, put7_own hT' _ (Nat.lt_of_lt_of_le hbW hl) _ _ _ _ _ _ _, put7_below hS3 _ hlZ _ _ _ _ _ _ _⟩
  rintro A' w17 ⟨u96, u97, u98, u99, u100, u101, u102, bH, aH, dH, aH', dH', mH, rfl, hbH, hKH, hTH, hmH, hlH, hTH', hBelowH⟩
  simp only [Act.put, List.setIfInBounds_toArray, List.set_cons_zero, List.set_cons_succ]
  have HB17 : Hid (Below w16.heap.size w16 w17) := hBelowH
  have hP17 := blk_cells ((hBelowH.block bP HP16.out.2.1).trans HP16.out.1)
  have hH17 := blk_cells hKH
  have hvP := HVS.out w17 ⟨HP16.out.2.2.1.mono hBelowH, HP16.out.2.2.2.mono hBelowH⟩
  have HVH : Hid (StrsAt w17 aH vs ∧ StrsAt w17 aH' o.hs) := ⟨hTH.at HFS.out.2.1 HFS.out.2.2, hTH'.at HHS.out.1 HHS.out.2⟩
  have HVP : Hid (StrsAt w17 aP vs ∧ StrsAt w17 aP' o.hs) := hvP
  clear hvP hS3 hXc hzc hBelowH hKH hTH hTH' hmH hlH hX
  go_wp2_with fail
  refine (eqFill_yes o vs HFS.out.1 _ _ _ _ _ _ _ _ _ HOO.out.small HVH.out.1 HVH.out.2 HVP.out.1 HVP.out.2).mono ?_
  rintro e w18 ⟨rfl, hb18⟩
  have HB18 : Hid (Below w16.heap.size w16 w18) := HB17.out.trans (hb18.mono HB17.out.size)
  have hG18 := blk_cells ((HB18.out.block _ HG16.out.2).trans HG16.out.1)
  clear hb18 hP17 hH17
  go_wp2_with fail
  have hvG := HQS.out w18 ⟨HQ16.out.1.mono HB18.out, HQ16.out.2.mono HB18.out⟩
  refine (heldGateObject_any o _ _ aG aG' _ _ w18 hvG.1 hvG.2 HLO.out.1 HLO.out.2).mono ?_
  rintro e w19 ⟨rfl, hb19⟩
  have HB19 : Hid (Below w.heap.size w w19) := HBB.out.trans ((HB18.out.trans (hb19.mono HB18.out.size)).mono HBB.out.size)
  clear hb19 hvG hG18
  go_wp2_with fail
  go_ret
  exact ⟨rfl, HB19.out⟩

end Go.Proofs.YtponiggfclcbgaaGreat
