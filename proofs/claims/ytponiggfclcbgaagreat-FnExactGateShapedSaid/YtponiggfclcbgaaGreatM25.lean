import Derived.Test.YtponiggfclcbgaaGreatM24
import Derived.Test.YtponiggfclcbgaaGreatM16
namespace Go.Proofs.YtponiggfclcbgaaGreat
open Go.RowKit

namespace Gate
def nmAt (s : Shp) (i : Nat) : ByteArray := (s.fs.getD i noField).nm
def readyName (s : Shp) (ms : List Mnd) (row : List ByteArray) (i : Nat) : Bool := !has row (nmAt s i) && readyN ms s.kd (nmAt s i) row
def moreN (s : Shp) (ms : List Mnd) (row : List ByteArray) : List ByteArray := match (List.range s.fs.length).find? (readyName s ms row) with | none => row | some i => row ++ [nmAt s i]
def greedyN (s : Shp) (ms : List Mnd) : Nat → List ByteArray
  | 0 => []
  | k + 1 => moreN s ms (greedyN s ms k)

theorem moreN_length (s : Shp) (ms : List Mnd) (row : List ByteArray) : (moreN s ms row).length ≤ row.length + 1 := by
  unfold moreN; split
  · omega
  · simp
theorem greedyN_length (s : Shp) (ms : List Mnd) : ∀ k, (greedyN s ms k).length ≤ k
  | 0 => Nat.le_refl _
  | k + 1 => Nat.le_trans (moreN_length s ms _) (by have := greedyN_length s ms k; omega)
theorem greedyN_mem (s : Shp) (ms : List Mnd) : ∀ k, ∀ x ∈ greedyN s ms k, ∃ i, i < s.fs.length ∧ x = nmAt s i
  | 0, x, h => by cases h
  | k + 1, x, h => by
    have h' : x ∈ moreN s ms (greedyN s ms k) := h
    unfold moreN at h'
    split at h'
    · exact greedyN_mem s ms k x h'
    · rename_i i hi
      rw [List.mem_append, List.mem_singleton] at h'
      rcases h' with h' | h'
      · exact greedyN_mem s ms k x h'
      · exact ⟨i, List.mem_range.1 (List.mem_of_find?_eq_some hi), h'⟩
end Gate

theorem ownsRow_strs {w : World} {lo : Nat} {a : Option Addr} {n cap : Nat} {row : List ByteArray} (h : w.ownsRow lo 9 1 (.slice a n cap) row.length (row.map Value.string)) (hl : row.length ≤ maxLen) (hs : ∀ s ∈ row, s.size ≤ maxLen) : StrsAt w a row := by
  refine ⟨hl, hs, fun hne => ?_⟩
  obtain ⟨_, ⟨h0, h1⟩ | ⟨g, cp, cur, h0, h1⟩⟩ := id h
  · exact absurd (List.length_eq_zero_iff.1 h1) hne
  · cases h0
    refine ⟨g, 0, rfl, (h.lt g rfl).2, fun i hi => ?_⟩
    rw [Nat.zero_add, h.cellAt i (by omega)]
    simp [hi]

set_option maxRecDepth 20000 in
set_option maxHeartbeats 4000000 in
theorem l3Row_any (fa ma : Option Addr) (fcap mcap : Nat) (s : Shp) (ms : List Mnd) (w : World) (hf : FldsAt w fa s.fs) (hm : MndsAt w ma ms) (hml : ms.length ≤ 12) (hn : s.fs.length ≤ 6) :
    Calls Tryz.prog 63 #[.agg #[.string s.kd, .slice fa s.fs.length fcap], .slice ma ms.length mcap] w fun e w' => ∃ v, e = .returned v ∧ w'.ownsRow w.heap.size 9 1 v (Gate.greedyN s ms s.fs.length).length ((Gate.greedyN s ms s.fs.length).map Value.string) ∧ Below w.heap.size w w' := by
  have HM : Hid (FldsAt w fa s.fs ∧ MndsAt w ma ms) := ⟨hf, hm⟩
  have HSM : Hid (∀ k, ∀ x ∈ Gate.greedyN s ms k, x.size ≤ maxLen) := by
    intro k x hx
    obtain ⟨i, hi, rfl⟩ := Gate.greedyN_mem s ms k x hx
    unfold Gate.nmAt
    rw [Gate.getD_at _ _ _ hi]
    exact (hf.smalls.small i hi).1.nm
  obtain ⟨i0, hi0, hz0, hz1', hz2⟩ := info_parts Tryz.infoString
  clear hf hm
  go_enter Tryz.func63, Tryz.ntmps63
  go_wp2_with fail
  have hnI : (s.fs.length : Int) ≤ 6 := by omega
  go_loopw [5, 6] (fun v0 iv wr => ∃ (k : Nat) (v : Value), v = v0 ∧ k ≤ s.fs.length ∧ iv = .int .i64 k ∧ wr.ownsRow (w.heap.size + 1) 9 1 v (Gate.greedyN s ms k).length ((Gate.greedyN s ms k).map Value.string) ∧ wr.heap[w.heap.size]? = some (.cells #[.string s.kd, .slice fa s.fs.length fcap] 69) ∧ Below w.heap.size w wr) (fun _ iv _ => s.fs.length - (intOf iv).toNat)
  case atStart => exact ⟨0, _, rfl, Nat.zero_le _, rfl, ⟨rfl, .inr ⟨w.heap.size + 1, 0, #[], rfl, Nat.le_refl _, (two_blocks _ _ _).2, Nat.le_refl _, by simp [maxLen], rfl, rfl⟩⟩, (two_blocks _ _ _).1, below2' _ _ _⟩
  case round =>
    obtain ⟨k, v, hv, hk, rfl, hown, hbox, hB⟩ := hrel
    subst hv
    obtain ⟨va, vcap, rfl⟩ := ownsRow_slice hown
    have HW : Hid (wr.ownsRow (w.heap.size + 1) 9 1 (.slice va (Gate.greedyN s ms k).length vcap) (Gate.greedyN s ms k).length ((Gate.greedyN s ms k).map Value.string) ∧ wr.heap[w.heap.size]? = some (.cells #[.string s.kd, .slice fa s.fs.length fcap] 69) ∧ Below w.heap.size w wr) := ⟨hown, hbox, hB⟩
    have hXr : ∀ j, wr.cell? ⟨w.heap.size, j, none⟩ = (#[.string s.kd, .slice fa s.fs.length fcap] : Array Value)[j]? := fun j => cell_of_block hbox
    have hzr : w.heap.size < wr.heap.size := (Array.getElem?_eq_some_iff.1 hbox).1
    have HGL : Hid ((Gate.greedyN s ms k).length ≤ 6) := by have := Gate.greedyN_length s ms k; show _ ≤ _; omega
    clear hown hbox hB
    by_cases hlt : k < s.fs.length
    · have hltI : (k : Int) < (s.fs.length : Int) := by omega
      go_wp2_with fail
      clear hXr
      obtain ⟨wo, hwo⟩ : ∃ wo, wo = wr := ⟨_, rfl⟩
      have HWO : Hid (wo.ownsRow (w.heap.size + 1) 9 1 (.slice va (Gate.greedyN s ms k).length vcap) (Gate.greedyN s ms k).length ((Gate.greedyN s ms k).map Value.string) ∧ wo.heap[w.heap.size]? = some (.cells #[.string s.kd, .slice fa s.fs.length fcap] 69) ∧ Below w.heap.size w wo ∧ w.heap.size < wo.heap.size) := by rw [hwo]; exact ⟨HW.out.1, HW.out.2.1, HW.out.2.2, hzr⟩
      have HWE : Hid (wo = wr) := hwo
      clear hwo HW hzr
      go_loopw [5, 7] (fun v1 iv wq => ∃ i : Nat, i ≤ s.fs.length ∧ iv = .int .i64 i ∧ v1 = .slice va (Gate.greedyN s ms k).length vcap ∧ (∀ q, q < i → Gate.readyName s ms (Gate.greedyN s ms k) q = false) ∧ Below wo.heap.size wo wq) (fun _ iv _ => s.fs.length - (intOf iv).toNat)
      case atStart => exact ⟨0, Nat.zero_le _, rfl, rfl, fun q h => absurd h (by omega), by rw [HWE.out]; exact Below.refl _ _⟩
      case round =>
        obtain ⟨i, hi, rfl, rfl, hno, hBq⟩ := hrel
        have HQ : Hid ((∀ q, q < i → Gate.readyName s ms (Gate.greedyN s ms k) q = false) ∧ Below wo.heap.size wo wr ∧ wr.ownsRow (w.heap.size + 1) 9 1 (.slice va (Gate.greedyN s ms k).length vcap) (Gate.greedyN s ms k).length ((Gate.greedyN s ms k).map Value.string) ∧ wr.heap[w.heap.size]? = some (.cells #[.string s.kd, .slice fa s.fs.length fcap] 69) ∧ Below w.heap.size w wr) := ⟨hno, hBq, ownsRow_later HWO.out.1 hBq, (hBq.block _ HWO.out.2.2.2).trans HWO.out.2.1, HWO.out.2.2.1.trans (hBq.mono HWO.out.2.2.1.size)⟩
        have hXq := block_cells HQ.out.2.2.2.1
        have hzq : w.heap.size < wr.heap.size := (Array.getElem?_eq_some_iff.1 HQ.out.2.2.2.1).1
        clear hno hBq
        by_cases hil : i < s.fs.length
        · have hilI : (i : Int) < (s.fs.length : Int) := by omega
          obtain ⟨fb, foff, rfl, hfb, hr⟩ := HM.out.1.rows (by intro e; rw [e] at hil; simp at hil)
          obtain ⟨wa, wcap, hf0⟩ := hr i hil
          obtain ⟨c0, c1, c2, c3, c4, c5, c6, c7, c8, c9, c10⟩ := (hf0.mono hfb HQ.out.2.2.2.2).load
          have HNM : Hid (Gate.nmAt s i = s.fs[i].nm) := by unfold Hid Gate.nmAt; rw [Gate.getD_at _ _ _ hil]
          have HST : Hid (StrsAt wr va (Gate.greedyN s ms k)) := ownsRow_strs HQ.out.2.2.1 (by have := HGL.out; unfold maxLen; omega) (HSM.out k)
          have HFIND : Hid (Gate.readyName s ms (Gate.greedyN s ms k) i = true → Gate.greedyN s ms (k + 1) = Gate.greedyN s ms k ++ [s.fs[i].nm]) := by
            intro h
            show Gate.moreN s ms (Gate.greedyN s ms k) = _
            unfold Gate.moreN
            have : (List.range s.fs.length).find? (Gate.readyName s ms (Gate.greedyN s ms k)) = some i := by
              rw [List.find?_range_eq_some]
              exact ⟨h, List.mem_range.2 hil, fun j hj => by rw [HQ.out.1 j hj]; rfl⟩
            rw [this]
            show Gate.greedyN s ms k ++ [Gate.nmAt s i] = _
            rw [HNM.out]
          clear hr hf0 c1 c2 c3 c4 c5 c6 c7 c8 c9 c10
          go_wp2_with fail
          have h := l1Has_any va vcap (Gate.greedyN s ms k) s.fs[i].nm wr HST.out
          rcases hh : Gate.has (Gate.greedyN s ms k) s.fs[i].nm with _ | _
          rotate_left
          · rw [hh] at h
            refine h.mono ?_
            rintro e w3 ⟨rfl, rfl⟩
            have HNR : Hid (∀ q, q < i + 1 → Gate.readyName s ms (Gate.greedyN s ms k) q = false) := by
              intro q hq
              rcases Nat.lt_or_ge q i with h1 | h1
              · exact HQ.out.1 q h1
              · have e : q = i := by omega
                subst e; unfold Gate.readyName; rw [HNM.out, hh]; rfl
            clear h hh
            go_wp2_with fail
            exact ⟨⟨i + 1, by omega, by go_num, rfl, HNR.out, HQ.out.2.1⟩, step_less' hil⟩
          rw [hh] at h
          refine h.mono ?_
          rintro e w3' ⟨rfl, hw3⟩
          rw [hw3]
          clear hw3 w3'
          have HRN : Hid (Gate.readyName s ms (Gate.greedyN s ms k) i = Gate.readyN ms s.kd s.fs[i].nm (Gate.greedyN s ms k)) := by unfold Hid Gate.readyName; rw [HNM.out, hh]; rfl
          clear h hh
          go_wp2_with fail
          have h := l3Ready_any ma va mcap vcap ms s.kd s.fs[i].nm (Gate.greedyN s ms k) wr (HM.out.2.mono HQ.out.2.2.2.2) HST.out hml
          rcases hh : Gate.readyN ms s.kd s.fs[i].nm (Gate.greedyN s ms k) with _ | _
          · rw [hh] at h
            refine h.mono ?_
            rintro e w3 ⟨rfl, hb3⟩
            have HNR : Hid ((∀ q, q < i + 1 → Gate.readyName s ms (Gate.greedyN s ms k) q = false) ∧ Below wo.heap.size wo w3) := by
              refine ⟨fun q hq => ?_, HQ.out.2.1.trans (hb3.mono HQ.out.2.1.size)⟩
              rcases Nat.lt_or_ge q i with h1 | h1
              · exact HQ.out.1 q h1
              · have e : q = i := by omega
                subst e; rw [HRN.out, hh]
            clear h hh hb3
            go_wp2_with fail
            exact ⟨⟨i + 1, by omega, by go_num, rfl, HNR.out.1, HNR.out.2⟩, step_less' hil⟩
          rw [hh] at h
          refine h.mono ?_
          rintro e w3 ⟨rfl, hb3⟩
          have HG1 : Hid (Gate.greedyN s ms (k + 1) = Gate.greedyN s ms k ++ [s.fs[i].nm]) := HFIND.out (by rw [HRN.out, hh])
          have H3 : Hid (w3.ownsRow (w.heap.size + 1) 9 1 (.slice va (Gate.greedyN s ms k).length vcap) (Gate.greedyN s ms k).length ((Gate.greedyN s ms k).map Value.string) ∧ w3.heap[w.heap.size]? = some (.cells #[.string s.kd, .slice (some ⟨fb, foff, none⟩) s.fs.length fcap] 69) ∧ Below w.heap.size w w3 ∧ w.heap.size < w3.heap.size) := ⟨ownsRow_later HQ.out.2.2.1 hb3, (hb3.block _ hzq).trans HQ.out.2.2.2.1, HQ.out.2.2.2.2.trans (hb3.mono HQ.out.2.2.2.2.size), Nat.lt_of_lt_of_le hzq hb3.size⟩
          clear h hh hb3 hXq c0
          go_wp2_with (at_builtin; refine hold_here ?_)
          show wpList _ _ _ _ _ _
          refine wpList_append_own _ rfl (.tmp 42) (.tmp 44) 24 rfl (w.heap.size + 1) 9 i0 (.string ByteArray.empty) 1 16 Tryz.underlying24 hi0 hz0 hz1' hz2 rfl (by decide) (.slice va (Gate.greedyN s ms k).length vcap) _ _ rfl (H3.out.1.alloc _) ⟨w3.heap.size, 0, none⟩ 1 1 [.string s.fs[i].nm] rfl rfl (one_news _ _ _) (by intro u hu; simp at hu; subst hu; rfl) (by have := HGL.out; unfold maxLen; omega) (by have := HGL.out; omega) (by have := H3.out.2.2.2; simp; omega) ?_
          intro v' w4 hown' hgr _
          obtain ⟨va', vcap', rfl⟩ := ownsRow_slice hown'
          have hgb : ∀ g, (Value.slice va (Gate.greedyN s ms k).length vcap).ownBlock = some g → w.heap.size + 1 ≤ g := fun g hg => (H3.out.1.lt g hg).1
          have HY : Hid (w4.ownsRow (w.heap.size + 1) 9 1 (.slice va' ((Gate.greedyN s ms k).length + 1) vcap') (Gate.greedyN s ms (k + 1)).length ((Gate.greedyN s ms (k + 1)).map Value.string) ∧ w4.heap[w.heap.size]? = some (.cells #[.string s.kd, .slice (some ⟨fb, foff, none⟩) s.fs.length fcap] 69) ∧ Below w.heap.size w w4) := by
            refine ⟨by rw [HG1.out, List.length_append, List.map_append]; exact hown', ?_, grown_below H3.out.2.2.1 H3.out.2.2.1.size hgr (fun g hg => by have := hgb g hg; omega)⟩
            exact (grown_block hgr (by have := H3.out.2.2.2; simp; omega) (fun g hg => by have := hgb g hg; omega)).trans ((Below.heap_alloc _ _ _ H3.out.2.2.2).trans H3.out.2.1)
          clear hown' hgr hgb
          go_wp2_with fail
          exact ⟨⟨k + 1, _, rfl, by omega, by go_num, HY.out.1, HY.out.2.1, HY.out.2.2⟩, step_less' hlt⟩
        · have e : i = s.fs.length := by omega
          have HN : Hid (Gate.greedyN s ms (k + 1) = Gate.greedyN s ms k) := by
            show Gate.moreN s ms (Gate.greedyN s ms k) = _
            unfold Gate.moreN
            have : (List.range s.fs.length).find? (Gate.readyName s ms (Gate.greedyN s ms k)) = none := by
              rw [List.find?_eq_none]
              intro q hq
              rw [HQ.out.1 q (by rw [e]; exact List.mem_range.1 hq)]
              simp
            rw [this]
          subst e
          go_wp2_with fail
          exact ⟨⟨k + 1, _, rfl, by omega, by go_num, by rw [HN.out]; exact HQ.out.2.2.1, HQ.out.2.2.2.1, HQ.out.2.2.2.2⟩, step_less' hlt⟩
    · have e : k = s.fs.length := by omega
      subst e
      go_wp2_with fail
      go_ret
      exact ⟨_, rfl, ownsRow_low HW.out.1 (by omega), HW.out.2.2⟩

end Go.Proofs.YtponiggfclcbgaaGreat

namespace Go.Proofs.YtponiggfclcbgaaGreat
open Go.RowKit

namespace Gate
def specAt (ss : List Shp) (m : Mnd) : Bool := hasKind ss m.kd && specOk (shapeOf ss m.kd).fs m
def rowOkS (ms : List Mnd) (s : Shp) : Bool := decide ((greedyN s ms s.fs.length).length = s.fs.length)
def mendsOkS (ss : List Shp) (ms : List Mnd) : Bool := shapesOk ss && decide (ms.length ≤ 12) && ms.all (specAt ss) && ss.all (rowOkS ms)
end Gate

set_option maxHeartbeats 1000000 in
theorem l3MendOk_any (a : Option Addr) (cap : Nat) (ss : List Shp) (m : Mnd) (w : World) (hw : ShpsAt w a ss) (hm : m.Small) :
    Calls Tryz.prog 62 #[.slice a ss.length cap, .agg m.cells] w fun e w' => e = .returned (.bool (Gate.specAt ss m)) ∧ Below w.heap.size w w' := by
  by_cases hk : Gate.hasKind ss m.kd = true
  · refine (l3MendOk_yes a cap ss m w hw hm hk).mono ?_
    rintro e w' ⟨rfl, hb⟩
    exact ⟨by unfold Gate.specAt; rw [hk]; rfl, hb⟩
  · have hkf : Gate.hasKind ss m.kd = false := by simpa using hk
    have HF : Hid (Gate.specAt ss m = false) := by unfold Hid Gate.specAt; rw [hkf]; rfl
    unfold Mnd.cells
    have hba := (Below.refl w.heap.size w).alloc (Nat.le_refl _) (.cells #[.string m.kd, .string m.fd, .string m.wh, .string m.wi, .string m.pt, .string m.fr] 71)
    go_enter Tryz.func62, Tryz.ntmps62
    go_wp2_with fail
    refine (l1Shape_no _ _ _ _ _ (hw.mono hba) hkf).mono ?_
    rintro e w1 ⟨rfl, rfl⟩
    go_wp2_with fail
    go_ret
    exact ⟨by rw [HF.out]; rfl, hba⟩

set_option maxRecDepth 20000 in
set_option maxHeartbeats 4000000 in
theorem specMendsOk_any (a a' : Option Addr) (cap cap' : Nat) (ss : List Shp) (ms : List Mnd) (w : World) (hw : ShpsAt w a ss) (hm : MndsAt w a' ms) :
    Calls Tryz.prog 35 #[.slice a ss.length cap, .slice a' ms.length cap'] w fun e w' => e = .returned (.bool (Gate.mendsOkS ss ms)) ∧ Below w.heap.size w w' := by
  have HW : Hid (ShpsAt w a ss ∧ MndsAt w a' ms) := ⟨hw, hm⟩
  have hl := hw.len
  have hml := hm.len
  unfold maxLen at hl hml
  clear hw hm
  by_cases hok : Gate.shapesOk ss = true
  rotate_left
  · have hokf : Gate.shapesOk ss = false := by simpa using hok
    have HF : Hid (Gate.mendsOkS ss ms = false) := by unfold Hid Gate.mendsOkS; rw [hokf]; simp
    go_enter Tryz.func35, Tryz.ntmps35
    go_wp2_with fail
    have h := specShapesOk_any a cap ss w HW.out.1
    rw [hokf] at h
    refine h.mono ?_
    rintro e w1 ⟨rfl, hb1⟩
    clear h
    go_wp2_with fail
    go_ret
    exact ⟨by rw [HF.out]; rfl, hb1⟩
  have HOK : Hid (Gate.shapesOk ss = true) := hok
  by_cases h12 : ms.length ≤ 12
  rotate_left
  · have HF : Hid (Gate.mendsOkS ss ms = false) := by unfold Hid Gate.mendsOkS; rw [decide_eq_false h12]; simp
    go_enter Tryz.func35, Tryz.ntmps35
    go_wp2_with fail
    have h := specShapesOk_any a cap ss w HW.out.1
    rw [hok] at h
    refine h.mono ?_
    rintro e w1 ⟨rfl, hb1⟩
    clear h hok
    go_wp2_with fail
    go_ret
    exact ⟨by rw [HF.out]; rfl, hb1⟩
  have h12I : (ms.length : Int) ≤ 12 := by omega
  go_enter Tryz.func35, Tryz.ntmps35
  go_wp2_with fail
  have h := specShapesOk_any a cap ss w HW.out.1
  rw [hok] at h
  refine h.mono ?_
  rintro e w1 ⟨rfl, hb1⟩
  have HB1 : Hid (Below w.heap.size w w1) := hb1
  clear h hok hb1
  go_wp2_with fail
  go_loopw [5] (fun iv wr => ∃ k : Nat, k ≤ ms.length ∧ iv = .int .i64 k ∧ (ms.take k).all (Gate.specAt ss) = true ∧ Below w.heap.size w wr) (fun iv _ => ms.length - (intOf iv).toNat)
  case atStart => exact ⟨0, Nat.zero_le _, rfl, rfl, HB1.out⟩
  case round =>
    obtain ⟨k, hk, rfl, hall, hB⟩ := hrel
    have HB : Hid (Below w.heap.size w wr) := hB
    have HA : Hid ((ms.take k).all (Gate.specAt ss) = true) := hall
    clear hall hB
    by_cases hlt : k < ms.length
    · obtain ⟨b, off, rfl, hb, c0, c1, c2, c3, c4, c5⟩ := HW.out.2.load HB.out k hlt
      have hltI : (k : Int) < (ms.length : Int) := by omega
      have HSM : Hid (ms[k].Small) := HW.out.2.small k hlt
      have HTK : Hid ((ms.take (k + 1)).all (Gate.specAt ss) = Gate.specAt ss ms[k]) := by
        unfold Hid; rw [List.take_succ_eq_append_getElem hlt, List.all_append, HA.out]; simp
      have HNO : Hid (Gate.specAt ss ms[k] = false → Gate.mendsOkS ss ms = false) := by
        intro h
        have : ms.all (Gate.specAt ss) = false := by rw [List.all_eq_false]; exact ⟨_, List.getElem_mem hlt, by rw [h]; simp⟩
        unfold Gate.mendsOkS; rw [this]; simp
      go_wp2_with fail
      have h := l3MendOk_any a cap ss ms[k] wr (HW.out.1.mono HB.out) HSM.out
      rcases hh : Gate.specAt ss ms[k] with _ | _
      · rw [hh] at h
        refine h.mono ?_
        rintro e w3 ⟨rfl, hb3⟩
        have HF : Hid (Gate.mendsOkS ss ms = false ∧ Below w.heap.size w w3) := ⟨HNO.out hh, HB.out.trans (hb3.mono HB.out.size)⟩
        clear h hb3 hh c0 c1 c2 c3 c4 c5
        go_wp2_with fail
        go_ret
        exact ⟨by rw [HF.out.1]; rfl, HF.out.2⟩
      · rw [hh] at h
        refine h.mono ?_
        rintro e w3 ⟨rfl, hb3⟩
        have HY : Hid ((ms.take (k + 1)).all (Gate.specAt ss) = true ∧ Below w.heap.size w w3) := ⟨by rw [HTK.out]; exact hh, HB.out.trans (hb3.mono HB.out.size)⟩
        clear h hb3 hh c0 c1 c2 c3 c4 c5
        go_wp2_with fail
        exact ⟨⟨k + 1, by omega, by go_num, HY.out.1, HY.out.2⟩, step_less' hlt⟩
    · have e : k = ms.length := by omega
      have hall := HA.out
      rw [e, List.take_of_length_le (Nat.le_refl _)] at hall
      have HALL : Hid (ms.all (Gate.specAt ss) = true) := hall
      subst e
      clear hall HA
      go_wp2_with fail
      have HBw : Hid (Below w.heap.size w wr) := HB.out
      clear HB
      go_loopw [6] (fun iv wq => ∃ k : Nat, k ≤ ss.length ∧ iv = .int .i64 k ∧ (ss.take k).all (Gate.rowOkS ms) = true ∧ Below w.heap.size w wq) (fun iv _ => ss.length - (intOf iv).toNat)
      case atStart => exact ⟨0, Nat.zero_le _, rfl, rfl, HBw.out⟩
      case round =>
        obtain ⟨k, hk, rfl, hall, hB⟩ := hrel
        have HB : Hid (Below w.heap.size w wr) := hB
        have HA : Hid ((ss.take k).all (Gate.rowOkS ms) = true) := hall
        clear hall hB
        by_cases hlt : k < ss.length
        · obtain ⟨b, off, rfl, hb, hr⟩ := HW.out.1.rows (by rintro rfl; simp at hlt)
          obtain ⟨fa, fcap, hs0⟩ := hr k hlt
          have HSI : Hid (∀ W, Below w.heap.size w W → ShpIn W b (off + k * 2) ss[k] fa fcap) := fun W hbb => hs0.mono hb hbb
          have hck := (HSI.out _ HB.out).kind
          have hcl := (HSI.out _ HB.out).list
          have hltI : (k : Int) < (ss.length : Int) := by omega
          have HTK : Hid ((ss.take (k + 1)).all (Gate.rowOkS ms) = Gate.rowOkS ms ss[k]) := by
            unfold Hid; rw [List.take_succ_eq_append_getElem hlt, List.all_append, HA.out]; simp
          have HNO : Hid (Gate.rowOkS ms ss[k] = false → Gate.mendsOkS ss ms = false) := by
            intro h
            have : ss.all (Gate.rowOkS ms) = false := by rw [List.all_eq_false]; exact ⟨_, List.getElem_mem hlt, by rw [h]; simp⟩
            unfold Gate.mendsOkS; rw [this]; simp
          have HFW : Hid (ss[k].fs.length ≤ 6) := Gate.fields_few HOK.out k hlt
          clear hr hs0
          go_wp2_with fail
          have hbc : Below w.heap.size w wr.drew := HB.out.drew
          have hL := (⟨(HSI.out _ hbc).kind, (HSI.out _ hbc).list⟩ : _ ∧ _)
          go_region_held3 (fun w' => w'.cell? ⟨b, off + k * 2, none⟩ = some (.string ss[k].kd) ∧ w'.cell? ⟨b, off + k * 2 + 1, none⟩ = some (.slice fa ss[k].fs.length fcap)) (exact hL) (first
            | (go_at_call 63; refine (l3Row_any fa a' fcap cap' ss[k] ms _ (by exact (HSI.out _ hbc).flds) (by exact HW.out.2.mono hbc) h12 HFW.out).mono ?_; rintro e w5 ⟨v5, rfl, hrow, hb5⟩; obtain ⟨ra, rcap, rfl⟩ := ownsRow_slice hrow; have hbc := hbc.trans (hb5.mono hbc.size); have hL := (⟨(HSI.out _ hbc).kind, (HSI.out _ hbc).list⟩ : _ ∧ _); clear hb5 hrow))
          by_cases hrk : (Gate.greedyN ss[k] ms ss[k].fs.length).length = ss[k].fs.length
          · have hrI : (((Gate.greedyN ss[k] ms ss[k].fs.length).length : Int) != (ss[k].fs.length : Int)) = false := by rw [hrk]; simp
            have HY : Hid ((ss.take (k + 1)).all (Gate.rowOkS ms) = true) := by unfold Hid; rw [HTK.out]; unfold Gate.rowOkS; exact decide_eq_true hrk
            clear hrk
            go_wp2_with fail
            exact ⟨⟨k + 1, by omega, by go_num, HY.out, hbc⟩, step_less' hlt⟩
          · have hrI : (((Gate.greedyN ss[k] ms ss[k].fs.length).length : Int) != (ss[k].fs.length : Int)) = true := by rw [bne_iff_ne]; omega
            have HF : Hid (Gate.mendsOkS ss ms = false) := HNO.out (by unfold Gate.rowOkS; exact decide_eq_false hrk)
            clear hrk
            go_wp2_with fail
            go_ret
            exact ⟨by rw [HF.out]; rfl, hbc⟩
        · have e : k = ss.length := by omega
          have hall := HA.out
          rw [e, List.take_of_length_le (Nat.le_refl _)] at hall
          have HF : Hid (Gate.mendsOkS ss ms = true) := by unfold Hid Gate.mendsOkS; rw [HALL.out, HOK.out, hall, decide_eq_true h12]; rfl
          subst e
          clear hall HA
          go_wp2_with fail
          go_ret
          exact ⟨by rw [HF.out]; rfl, HB.out⟩

end Go.Proofs.YtponiggfclcbgaaGreat

namespace Go.Proofs.YtponiggfclcbgaaGreat.Gate

theorem has_iff (ws : List ByteArray) (v : ByteArray) : has ws v = true ↔ v ∈ ws := by
  unfold has
  rw [List.any_eq_true]
  constructor
  · rintro ⟨x, hx, he⟩
    have : x = v := by simpa using he
    rw [← this]; exact hx
  · intro h; exact ⟨v, h, by simp⟩

theorem field_at {ss : List Shp} (h : shapesOk ss = true) (i : Nat) (hi : i < ss.length) (j : Nat) (hj : j < ss[i].fs.length) : okAt ss ss[i].fs j = true := by
  have h1 := shapes_at h i hi
  unfold shapeAt at h1
  rw [getD_at ss i _ hi] at h1
  simp only [Bool.and_eq_true] at h1
  have h2 := h1.2
  unfold fieldsOk at h2
  simp only [Bool.and_eq_true] at h2
  exact up_at hj h2.2

theorem field_named {ss : List Shp} (h : shapesOk ss = true) (i : Nat) (hi : i < ss.length) (j : Nat) (hj : j < ss[i].fs.length) : isSet ss[i].fs[j].nm = true := by
  have h1 := field_at h i hi j hj
  rw [okAt_eq _ _ _ hj] at h1
  simp only [Bool.and_eq_true] at h1
  have h2 := h1.1.1
  rw [isSet_iff]
  intro e
  rw [e] at h2
  revert h2
  decide

theorem names_apart {ss : List Shp} (h : shapesOk ss = true) (i : Nat) (hi : i < ss.length) (j k : Nat) (hj : j < k) (hk : k < ss[i].fs.length) : (ss[i].fs[j]'(by omega)).nm ≠ ss[i].fs[k].nm := by
  have h1 := field_at h i hi k hk
  rw [okAt_eq _ _ _ hk] at h1
  simp only [Bool.and_eq_true, Bool.not_eq_true'] at h1
  have h2 := h1.1.2
  intro e
  unfold hasName at h2
  rw [List.any_eq_false] at h2
  have hm : ss[i].fs[j]'(by omega) ∈ ss[i].fs.take k := by
    rw [List.mem_iff_getElem]
    exact ⟨j, by simp; omega, by simp⟩
  exact h2 _ hm (by simpa using e)

theorem nmAt_inj {ss : List Shp} (h : shapesOk ss = true) (i : Nat) (hi : i < ss.length) (j k : Nat) (hj : j < ss[i].fs.length) (hk : k < ss[i].fs.length) (e : nmAt ss[i] j = nmAt ss[i] k) : j = k := by
  unfold nmAt at e
  rw [getD_at _ _ _ hj, getD_at _ _ _ hk] at e
  rcases Nat.lt_trichotomy j k with h1 | h1 | h1
  · exact absurd e (names_apart h i hi j k h1 hk)
  · exact h1
  · exact absurd e.symm (names_apart h i hi k j h1 hj)

theorem mend_spec {ss : List Shp} (h : shapesOk ss = true) (m : Mnd) : mendAt ss m = specAt ss m := by
  unfold mendAt specAt
  by_cases hk : hasKind ss m.kd = true
  · rw [hk, Bool.true_and, Bool.true_and]
    unfold hasKind at hk
    rw [List.any_eq_true] at hk
    obtain ⟨x, hx, he⟩ := hk
    obtain ⟨i, hi, rfl⟩ := List.mem_iff_getElem.1 hx
    have hkd : ss[i].kd = m.kd := by simpa using he
    rw [← hkd, shapeOf_self h i hi]
    unfold mendOk specOk
    by_cases hp : plain ss[i].fs m.fd = true
    · have hfd : isSet m.fd = true := by
        rcases field_cases ss[i].fs m.fd with ⟨_, h2⟩ | ⟨k, hk', _, h2, _⟩
        · rw [plain_none h2] at hp; cases hp
        · rw [← h2]; exact field_named h i hi k hk'
      have hne : ∀ v, isSet v = false → v ≠ m.fd := fun v hv e => by rw [e, hfd] at hv; cases hv
      rw [hp, Bool.true_and, Bool.true_and]
      have e : (readNames m).all (nameFits ss[i].fs m) = ((!isSet m.wh || plain ss[i].fs m.wh) && (!isSet m.fr || plain ss[i].fs m.fr) && !decide (m.wh = m.fd) && !decide (m.fr = m.fd)) := by
        unfold readNames
        rw [List.all_filter]
        unfold nameFits
        rcases hw : isSet m.wh with _ | _ <;> rcases hf : isSet m.fr with _ | _
        · simp [hw, hf, hne _ hw, hne _ hf]
        · simp [hw, hf, hne _ hw]
          cases plain ss[i].fs m.fr <;> simp
        · simp [hw, hf, hne _ hf]
          cases plain ss[i].fs m.wh <;> simp
        · simp [hw, hf]
          cases plain ss[i].fs m.wh <;> cases plain ss[i].fs m.fr <;> simp
      rw [e]
    · have hpf : plain ss[i].fs m.fd = false := by simpa using hp
      rw [hpf]; simp
  · have hkf : hasKind ss m.kd = false := by simpa using hk
    rw [hkf]; rfl

theorem ready_same {ss : List Shp} {ms : List Mnd} (h : shapesOk ss = true) (hm : ms.all (mendAt ss) = true) (i : Nat) (hi : i < ss.length) (row : List Nat) (hrow : ∀ q ∈ row, q < ss[i].fs.length) (j : Nat) (hj : j < ss[i].fs.length) :
    readyName ss[i] ms (row.map (nmAt ss[i])) j = ready (readsN ss[i] ms) row j := by
  have hmem : ∀ q, q < ss[i].fs.length → (has (row.map (nmAt ss[i])) (nmAt ss[i] q) = true ↔ q ∈ row) := by
    intro q hq
    rw [has_iff, List.mem_map]
    constructor
    · rintro ⟨p, hp, e⟩
      rw [← nmAt_inj h i hi p q (hrow p hp) hq e]; exact hp
    · intro hp; exact ⟨q, hp, rfl⟩
  rw [Bool.eq_iff_iff, ready_iff]
  unfold readyName
  rw [Bool.and_eq_true, Bool.not_eq_true', ← Bool.not_eq_true, hmem j hj]
  refine and_congr Iff.rfl ?_
  unfold readyN
  rw [List.all_eq_true]
  -- what a mend that turns j reads
  have hread : ∀ m ∈ ms, turns m ss[i] j = true → ∀ v ∈ readNames m, ∃ q, q < ss[i].fs.length ∧ fieldIx ss[i].fs v = (q : Int) ∧ nmAt ss[i] q = v := by
    intro m hmm ht v hv
    unfold turns at ht
    simp only [Bool.and_eq_true, decide_eq_true_eq] at ht
    have h1 := List.all_eq_true.1 hm m hmm
    unfold mendAt at h1
    rw [ht.1, shapeOf_self h i hi] at h1
    simp only [Bool.and_eq_true] at h1
    have h2 := h1.2
    unfold mendOk at h2
    simp only [Bool.and_eq_true] at h2
    have h3 := List.all_eq_true.1 h2.1.2 v hv
    unfold nameFits at h3
    simp only [Bool.and_eq_true] at h3
    rcases field_cases ss[i].fs v with ⟨_, h5⟩ | ⟨k, hk, h4, h5, _⟩
    · rw [plain_none h5] at h3; exact absurd h3.2 (by simp)
    · exact ⟨k, hk, h4, by unfold nmAt; rw [getD_at _ _ _ hk]; exact h5⟩
  have hR : ∀ m, mendReady ss[i].kd (nmAt ss[i] j) (row.map (nmAt ss[i])) m = true ↔ (turns m ss[i] j = true → ∀ v ∈ readNames m, has (row.map (nmAt ss[i])) v = true) := by
    intro m
    have e1 : turns m ss[i] j = (decide (m.kd = ss[i].kd) && decide (m.fd = nmAt ss[i] j)) := rfl
    unfold mendReady
    rw [← e1]
    rcases turns m ss[i] j with _ | _
    · simp
    · unfold readNames
      rcases hw : isSet m.wh with _ | _ <;> rcases hf : isSet m.fr with _ | _ <;> simp [hw, hf]
  constructor
  · intro hall q hq
    unfold readsN at hq
    obtain ⟨x, hx, rfl⟩ := List.mem_map.1 hq
    unfold readsI at hx
    obtain ⟨m, hmm, hx⟩ := List.mem_flatMap.1 hx
    by_cases ht : turns m ss[i] j = true
    · rw [if_pos ht] at hx
      obtain ⟨v, hv, rfl⟩ := List.mem_map.1 hx
      obtain ⟨q, hq, e1, e2⟩ := hread m hmm ht v hv
      have := (hR m).1 (hall m hmm) ht v hv
      rw [e1, Int.toNat_natCast]
      rw [← e2] at this
      exact (hmem q hq).1 this
    · rw [if_neg ht] at hx; cases hx
  · intro hall m hmm
    rw [hR]
    intro ht v hv
    obtain ⟨q, hq, e1, e2⟩ := hread m hmm ht v hv
    rw [← e2, hmem q hq]
    refine hall q ?_
    unfold readsN
    rw [List.mem_map]
    refine ⟨(q : Int), ?_, Int.toNat_natCast _⟩
    unfold readsI
    rw [List.mem_flatMap]
    refine ⟨m, hmm, ?_⟩
    rw [if_pos ht, List.mem_map]
    exact ⟨v, hv, e1⟩

theorem find_congr {α : Type} {f g : α → Bool} : ∀ {l : List α}, (∀ x ∈ l, f x = g x) → l.find? f = l.find? g
  | [], _ => rfl
  | a :: l, h => by
    have h1 := h a (by simp)
    have h2 := find_congr (f := f) (g := g) (l := l) (fun x hx => h x (by simp [hx]))
    rw [List.find?_cons, List.find?_cons, h1, h2]

theorem greedy_names {ss : List Shp} {ms : List Mnd} (h : shapesOk ss = true) (hm : ms.all (mendAt ss) = true) (i : Nat) (hi : i < ss.length) : ∀ k, greedyN ss[i] ms k = (greedy (readsN ss[i] ms) ss[i].fs.length k).map (nmAt ss[i])
  | 0 => rfl
  | k + 1 => by
    show moreN ss[i] ms (greedyN ss[i] ms k) = (more (readsN ss[i] ms) ss[i].fs.length (greedy (readsN ss[i] ms) ss[i].fs.length k)).map (nmAt ss[i])
    rw [greedy_names h hm i hi k]
    have hpart := greedy_part (readsN ss[i] ms) ss[i].fs.length k
    have e : (List.range ss[i].fs.length).find? (readyName ss[i] ms ((greedy (readsN ss[i] ms) ss[i].fs.length k).map (nmAt ss[i]))) = pick (readsN ss[i] ms) ss[i].fs.length (greedy (readsN ss[i] ms) ss[i].fs.length k) := by
      unfold pick
      apply find_congr
      intro x hx
      exact ready_same h hm i hi _ hpart.mem x (List.mem_range.1 hx)
    unfold moreN more
    rw [e]
    cases pick (readsN ss[i] ms) ss[i].fs.length (greedy (readsN ss[i] ms) ss[i].fs.length k) with
    | none => rfl
    | some q => simp

theorem row_same {ss : List Shp} {ms : List Mnd} (h : shapesOk ss = true) (hm : ms.all (mendAt ss) = true) (i : Nat) (hi : i < ss.length) : rowOk ms ss[i] = rowOkS ms ss[i] := by
  unfold rowOk rowOkS
  rw [greedy_names h hm i hi, List.length_map]
  refine walk_iff_greedy (fun p hp q hq => ?_)
  unfold readsN at hq
  obtain ⟨x, hx, rfl⟩ := List.mem_map.1 hq
  have := reads_ok h hm i hi p hp x hx
  omega

theorem mendsOk_same (ss : List Shp) (ms : List Mnd) : mendsOk ss ms = mendsOkS ss ms := by
  unfold mendsOk mendsOkS
  by_cases h : shapesOk ss = true
  · have e1 : ms.all (specAt ss) = ms.all (mendAt ss) := by congr 1; funext m; exact (mend_spec h m).symm
    rw [e1, h]
    by_cases hm : ms.all (mendAt ss) = true
    · have e2 : ss.all (rowOk ms) = ss.all (rowOkS ms) := by
        rw [Bool.eq_iff_iff, List.all_eq_true, List.all_eq_true]
        constructor
        · intro ha x hx
          obtain ⟨i, hi, rfl⟩ := List.mem_iff_getElem.1 hx
          rw [← row_same h hm i hi]; exact ha _ hx
        · intro ha x hx
          obtain ⟨i, hi, rfl⟩ := List.mem_iff_getElem.1 hx
          rw [row_same h hm i hi]; exact ha _ hx
      rw [e2]; cases decide (ms.length ≤ 12) <;> simp
    · have hmf : ms.all (mendAt ss) = false := by simpa using hm
      rw [hmf]; simp
  · have hf : shapesOk ss = false := by simpa using h
    rw [hf]; simp

end Go.Proofs.YtponiggfclcbgaaGreat.Gate
