import Derived.Test.YtpmlngcljbkchaaGreatM38
import Derived.Test.YtpmlngcljbkchaaGreatM05
namespace Go.Proofs.YtpmlngcljbkchaaGreat
open Go.RowKit

namespace Gate
def nmAt (s : Shp) (i : Nat) : ByteArray := (s.fs.getD i noField).nm
def readyName (s : Shp) (ms : List Mnd) (row : List ByteArray) (i : Nat) : Bool := !has row (nmAt s i) && readyN ms s.kd (nmAt s i) row
def moreN (s : Shp) (ms : List Mnd) (row : List ByteArray) : List ByteArray := match (List.range s.fs.length).find? (readyName s ms row) with | none => row | some i => row ++ [nmAt s i]
def greedyN (s : Shp) (ms : List Mnd) : Nat → List ByteArray
  | 0 => []
  | k + 1 => moreN s ms (greedyN s ms k)

theorem moreN_length (s : Shp) (ms : List Mnd) (row : List ByteArray) : (moreN s ms row).length ≤ row.length + 1 := by
  unfold moreN; split
  · omega
  · simp
theorem greedyN_length (s : Shp) (ms : List Mnd) : ∀ k, (greedyN s ms k).length ≤ k
  | 0 => Nat.le_refl _
  | k + 1 => Nat.le_trans (moreN_length s ms _) (by have := greedyN_length s ms k; omega)
theorem greedyN_mem (s : Shp) (ms : List Mnd) : ∀ k, ∀ x ∈ greedyN s ms k, ∃ i, i < s.fs.length ∧ x = nmAt s i
  | 0, x, h => by cases h
  | k + 1, x, h => by
    have h' : x ∈ moreN s ms (greedyN s ms k) := h
    unfold moreN at h'
    split at h'
    · exact greedyN_mem s ms k x h'
    · rename_i i hi
      rw [List.mem_append, List.mem_singleton] at h'
      rcases h' with h' | h'
      · exact greedyN_mem s ms k x h'
      · exact ⟨i, List.mem_range.1 (List.mem_of_find?_eq_some hi), h'⟩
end Gate

set_option maxRecDepth 20000 in
set_option maxHeartbeats 4000000 in
theorem l3Row_any (fa ma : Option Addr) (fcap mcap : Nat) (s : Shp) (ms : List Mnd) (w : World) (hf : FldsAt w fa s.fs) (hm : MndsAt w ma ms) (hml : ms.length ≤ 12) (hn : s.fs.length ≤ 6) :
    Calls Tryz.prog 62 #[.agg #[.string s.kd, .slice fa s.fs.length fcap], .slice ma ms.length mcap] w fun e w' => ∃ v, e = .returned v ∧ w'.ownsRow w.heap.size 9 1 v (Gate.greedyN s ms s.fs.length).length ((Gate.greedyN s ms s.fs.length).map Value.string) ∧ Below w.heap.size w w' := by
  have HM : Hid (FldsAt w fa s.fs ∧ MndsAt w ma ms) := ⟨hf, hm⟩
  have HSM : Hid (∀ k, ∀ x ∈ Gate.greedyN s ms k, x.size ≤ maxLen) := by
    intro k x hx
    obtain ⟨i, hi, rfl⟩ := Gate.greedyN_mem s ms k x hx
    unfold Gate.nmAt
    rw [Gate.getD_at _ _ _ hi]
    exact (hf.smalls.small i hi).1.nm
  obtain ⟨i0, hi0, hz0, hz1', hz2⟩ := info_parts Tryz.infoString
  clear hf hm
  go_enter Tryz.func62, Tryz.ntmps62
  go_wp2_with fail
  have hnI : (s.fs.length : Int) ≤ 6 := by omega
  go_loopw [5, 6] (fun v0 iv wr => ∃ (k : Nat) (v : Value), v = v0 ∧ k ≤ s.fs.length ∧ iv = .int .i64 k ∧ wr.ownsRow (w.heap.size + 1) 9 1 v (Gate.greedyN s ms k).length ((Gate.greedyN s ms k).map Value.string) ∧ wr.heap[w.heap.size]? = some (.cells #[.string s.kd, .slice fa s.fs.length fcap] 85) ∧ Below w.heap.size w wr) (fun _ iv _ => s.fs.length - (intOf iv).toNat)
  case atStart => exact ⟨0, _, rfl, Nat.zero_le _, rfl, ⟨rfl, .inr ⟨w.heap.size + 1, 0, #[], rfl, Nat.le_refl _, (two_blocks _ _ _).2, Nat.le_refl _, by simp [maxLen], rfl, rfl⟩⟩, (two_blocks _ _ _).1, below2' _ _ _⟩
  case round =>
    obtain ⟨k, v, hv, hk, rfl, hown, hbox, hB⟩ := hrel
    subst hv
    obtain ⟨va, vcap, rfl⟩ := ownsRow_slice hown
    have HW : Hid (wr.ownsRow (w.heap.size + 1) 9 1 (.slice va (Gate.greedyN s ms k).length vcap) (Gate.greedyN s ms k).length ((Gate.greedyN s ms k).map Value.string) ∧ wr.heap[w.heap.size]? = some (.cells #[.string s.kd, .slice fa s.fs.length fcap] 85) ∧ Below w.heap.size w wr) := ⟨hown, hbox, hB⟩
    have hXr : ∀ j, wr.cell? ⟨w.heap.size, j, none⟩ = (#[.string s.kd, .slice fa s.fs.length fcap] : Array Value)[j]? := fun j => cell_of_block hbox
    have hzr : w.heap.size < wr.heap.size := (Array.getElem?_eq_some_iff.1 hbox).1
    have HGL : Hid ((Gate.greedyN s ms k).length ≤ 6) := by have := Gate.greedyN_length s ms k; show _ ≤ _; omega
    clear hown hbox hB
    by_cases hlt : k < s.fs.length
    · have hltI : (k : Int) < (s.fs.length : Int) := by omega
      go_wp2_with fail
      clear hXr
      obtain ⟨wo, hwo⟩ : ∃ wo, wo = wr := ⟨_, rfl⟩
      have HWO : Hid (wo.ownsRow (w.heap.size + 1) 9 1 (.slice va (Gate.greedyN s ms k).length vcap) (Gate.greedyN s ms k).length ((Gate.greedyN s ms k).map Value.string) ∧ wo.heap[w.heap.size]? = some (.cells #[.string s.kd, .slice fa s.fs.length fcap] 85) ∧ Below w.heap.size w wo ∧ w.heap.size < wo.heap.size) := by rw [hwo]; exact ⟨HW.out.1, HW.out.2.1, HW.out.2.2, hzr⟩
      have HWE : Hid (wo = wr) := hwo
      clear hwo HW hzr
      go_loopw [5, 7] (fun v1 iv wq => ∃ i : Nat, i ≤ s.fs.length ∧ iv = .int .i64 i ∧ v1 = .slice va (Gate.greedyN s ms k).length vcap ∧ (∀ q, q < i → Gate.readyName s ms (Gate.greedyN s ms k) q = false) ∧ Below wo.heap.size wo wq) (fun _ iv _ => s.fs.length - (intOf iv).toNat)
      case atStart => exact ⟨0, Nat.zero_le _, rfl, rfl, fun q h => absurd h (by omega), by rw [HWE.out]; exact Below.refl _ _⟩
      case round =>
        obtain ⟨i, hi, rfl, rfl, hno, hBq⟩ := hrel
        have HQ : Hid ((∀ q, q < i → Gate.readyName s ms (Gate.greedyN s ms k) q = false) ∧ Below wo.heap.size wo wr ∧ wr.ownsRow (w.heap.size + 1) 9 1 (.slice va (Gate.greedyN s ms k).length vcap) (Gate.greedyN s ms k).length ((Gate.greedyN s ms k).map Value.string) ∧ wr.heap[w.heap.size]? = some (.cells #[.string s.kd, .slice fa s.fs.length fcap] 85) ∧ Below w.heap.size w wr) := ⟨hno, hBq, ownsRow_later HWO.out.1 hBq, (hBq.block _ HWO.out.2.2.2).trans HWO.out.2.1, HWO.out.2.2.1.trans (hBq.mono HWO.out.2.2.1.size)⟩
        have hXq := block_cells HQ.out.2.2.2.1
        have hzq : w.heap.size < wr.heap.size := (Array.getElem?_eq_some_iff.1 HQ.out.2.2.2.1).1
        clear hno hBq
        by_cases hil : i < s.fs.length
        · have hilI : (i : Int) < (s.fs.length : Int) := by omega
          obtain ⟨fb, foff, rfl, hfb, hr⟩ := HM.out.1.rows (by intro e; rw [e] at hil; simp at hil)
          obtain ⟨wa, wcap, hf0⟩ := hr i hil
          obtain ⟨c0, c1, c2, c3, c4, c5, c6, c7, c8, c9, c10⟩ := (hf0.mono hfb HQ.out.2.2.2.2).load
          have HNM : Hid (Gate.nmAt s i = s.fs[i].nm) := by unfold Hid Gate.nmAt; rw [Gate.getD_at _ _ _ hil]
          have HST : Hid (StrsAt wr va (Gate.greedyN s ms k)) := ownsRow_strs HQ.out.2.2.1 (by have := HGL.out; unfold maxLen; omega) (HSM.out k)
          have HFIND : Hid (Gate.readyName s ms (Gate.greedyN s ms k) i = true → Gate.greedyN s ms (k + 1) = Gate.greedyN s ms k ++ [s.fs[i].nm]) := by
            intro h
            show Gate.moreN s ms (Gate.greedyN s ms k) = _
            unfold Gate.moreN
            have : (List.range s.fs.length).find? (Gate.readyName s ms (Gate.greedyN s ms k)) = some i := by
              rw [List.find?_range_eq_some]
              exact ⟨h, List.mem_range.2 hil, fun j hj => by rw [HQ.out.1 j hj]; rfl⟩
            rw [this]
            show Gate.greedyN s ms k ++ [Gate.nmAt s i] = _
            rw [HNM.out]
          clear hr hf0 c1 c2 c3 c4 c5 c6 c7 c8 c9 c10
          go_wp2_with fail
          have h := l1Has_any va vcap (Gate.greedyN s ms k) s.fs[i].nm wr HST.out
          rcases hh : Gate.has (Gate.greedyN s ms k) s.fs[i].nm with _ | _
          rotate_left
          · rw [hh] at h
            refine h.mono ?_
            rintro e w3 ⟨rfl, rfl⟩
            have HNR : Hid (∀ q, q < i + 1 → Gate.readyName s ms (Gate.greedyN s ms k) q = false) := by
              intro q hq
              rcases Nat.lt_or_ge q i with h1 | h1
              · exact HQ.out.1 q h1
              · have e : q = i := by omega
                subst e; unfold Gate.readyName; rw [HNM.out, hh]; rfl
            clear h hh
            go_wp2_with fail
            exact ⟨⟨i + 1, by omega, by go_num, rfl, HNR.out, HQ.out.2.1⟩, step_less' hil⟩
          rw [hh] at h
          refine h.mono ?_
          rintro e w3' ⟨rfl, hw3⟩
          rw [hw3]
          clear hw3 w3'
          have HRN : Hid (Gate.readyName s ms (Gate.greedyN s ms k) i = Gate.readyN ms s.kd s.fs[i].nm (Gate.greedyN s ms k)) := by unfold Hid Gate.readyName; rw [HNM.out, hh]; rfl
          clear h hh
          go_wp2_with fail
          have h := l3Ready_any ma va mcap vcap ms s.kd s.fs[i].nm (Gate.greedyN s ms k) wr (HM.out.2.mono HQ.out.2.2.2.2) HST.out hml
          rcases hh : Gate.readyN ms s.kd s.fs[i].nm (Gate.greedyN s ms k) with _ | _
          · rw [hh] at h
            refine h.mono ?_
            rintro e w3 ⟨rfl, hb3⟩
            have HNR : Hid ((∀ q, q < i + 1 → Gate.readyName s ms (Gate.greedyN s ms k) q = false) ∧ Below wo.heap.size wo w3) := by
              refine ⟨fun q hq => ?_, HQ.out.2.1.trans (hb3.mono HQ.out.2.1.size)⟩
              rcases Nat.lt_or_ge q i with h1 | h1
              · exact HQ.out.1 q h1
              · have e : q = i := by omega
                subst e; rw [HRN.out, hh]
            clear h hh hb3
            go_wp2_with fail
            exact ⟨⟨i + 1, by omega, by go_num, rfl, HNR.out.1, HNR.out.2⟩, step_less' hil⟩
          rw [hh] at h
          refine h.mono ?_
          rintro e w3 ⟨rfl, hb3⟩
          have HG1 : Hid (Gate.greedyN s ms (k + 1) = Gate.greedyN s ms k ++ [s.fs[i].nm]) := HFIND.out (by rw [HRN.out, hh])
          have H3 : Hid (w3.ownsRow (w.heap.size + 1) 9 1 (.slice va (Gate.greedyN s ms k).length vcap) (Gate.greedyN s ms k).length ((Gate.greedyN s ms k).map Value.string) ∧ w3.heap[w.heap.size]? = some (.cells #[.string s.kd, .slice (some ⟨fb, foff, none⟩) s.fs.length fcap] 85) ∧ Below w.heap.size w w3 ∧ w.heap.size < w3.heap.size) := ⟨ownsRow_later HQ.out.2.2.1 hb3, (hb3.block _ hzq).trans HQ.out.2.2.2.1, HQ.out.2.2.2.2.trans (hb3.mono HQ.out.2.2.2.2.size), Nat.lt_of_lt_of_le hzq hb3.size⟩
          clear h hh hb3 hXq c0
          go_wp2_with (at_builtin; refine hold_here ?_)
          show wpList _ _ _ _ _ _
          refine wpList_append_own _ rfl (.tmp 42) (.tmp 44) 27 rfl (w.heap.size + 1) 9 i0 (.string ByteArray.empty) 1 16 Tryz.underlying27 hi0 hz0 hz1' hz2 rfl (by decide) (.slice va (Gate.greedyN s ms k).length vcap) _ _ rfl (H3.out.1.alloc _) ⟨w3.heap.size, 0, none⟩ 1 1 [.string s.fs[i].nm] rfl rfl (one_news _ _ _) (by intro u hu; simp at hu; subst hu; rfl) (by have := HGL.out; unfold maxLen; omega) (by have := HGL.out; omega) (by have := H3.out.2.2.2; simp; omega) ?_
          intro v' w4 hown' hgr _
          obtain ⟨va', vcap', rfl⟩ := ownsRow_slice hown'
          have hgb : ∀ g, (Value.slice va (Gate.greedyN s ms k).length vcap).ownBlock = some g → w.heap.size + 1 ≤ g := fun g hg => (H3.out.1.lt g hg).1
          have HY : Hid (w4.ownsRow (w.heap.size + 1) 9 1 (.slice va' ((Gate.greedyN s ms k).length + 1) vcap') (Gate.greedyN s ms (k + 1)).length ((Gate.greedyN s ms (k + 1)).map Value.string) ∧ w4.heap[w.heap.size]? = some (.cells #[.string s.kd, .slice (some ⟨fb, foff, none⟩) s.fs.length fcap] 85) ∧ Below w.heap.size w w4) := by
            refine ⟨by rw [HG1.out, List.length_append, List.map_append]; exact hown', ?_, grown_below H3.out.2.2.1 H3.out.2.2.1.size hgr (fun g hg => by have := hgb g hg; omega)⟩
            exact (grown_block hgr (by have := H3.out.2.2.2; simp; omega) (fun g hg => by have := hgb g hg; omega)).trans ((Below.heap_alloc _ _ _ H3.out.2.2.2).trans H3.out.2.1)
          clear hown' hgr hgb
          go_wp2_with fail
          exact ⟨⟨k + 1, _, rfl, by omega, by go_num, HY.out.1, HY.out.2.1, HY.out.2.2⟩, step_less' hlt⟩
        · have e : i = s.fs.length := by omega
          have HN : Hid (Gate.greedyN s ms (k + 1) = Gate.greedyN s ms k) := by
            show Gate.moreN s ms (Gate.greedyN s ms k) = _
            unfold Gate.moreN
            have : (List.range s.fs.length).find? (Gate.readyName s ms (Gate.greedyN s ms k)) = none := by
              rw [List.find?_eq_none]
              intro q hq
              rw [HQ.out.1 q (by rw [e]; exact List.mem_range.1 hq)]
              simp
            rw [this]
          subst e
          go_wp2_with fail
          exact ⟨⟨k + 1, _, rfl, by omega, by go_num, by rw [HN.out]; exact HQ.out.2.2.1, HQ.out.2.2.2.1, HQ.out.2.2.2.2⟩, step_less' hlt⟩
    · have e : k = s.fs.length := by omega
      subst e
      go_wp2_with fail
      go_ret
      exact ⟨_, rfl, ownsRow_low HW.out.1 (by omega), HW.out.2.2⟩

end Go.Proofs.YtpmlngcljbkchaaGreat
