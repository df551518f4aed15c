import Derived.Test.YtbefjngbilakjaaM19
import Derived.Test.YtbefjngbilakjaaM18
namespace Go.Proofs.Ytbefjngbilakjaa
open Go.RowKit

namespace Gate
def nmAt (s : Shp) (i : Nat) : ByteArray := (s.fs.getD i noField).nm
def readyName (s : Shp) (ms : List Mnd) (row : List ByteArray) (i : Nat) : Bool := !has row (nmAt s i) && readyN ms s.kd (nmAt s i) row
def moreN (s : Shp) (ms : List Mnd) (row : List ByteArray) : List ByteArray := match (List.range s.fs.length).find? (readyName s ms row) with | none => row | some i => row ++ [nmAt s i]
def greedyN (s : Shp) (ms : List Mnd) : Nat → List ByteArray
  | 0 => []
  | k + 1 => moreN s ms (greedyN s ms k)

theorem moreN_length (s : Shp) (ms : List Mnd) (row : List ByteArray) : (moreN s ms row).length ≤ row.length + 1 := by
  unfold moreN; split
  · omega
  · simp
theorem greedyN_length (s : Shp) (ms : List Mnd) : ∀ k, (greedyN s ms k).length ≤ k
  | 0 => Nat.le_refl _
  | k + 1 => Nat.le_trans (moreN_length s ms _) (by have := greedyN_length s ms k; omega)
theorem greedyN_mem (s : Shp) (ms : List Mnd) : ∀ k, ∀ x ∈ greedyN s ms k, ∃ i, i < s.fs.length ∧ x = nmAt s i
  | 0, x, h => by cases h
  | k + 1, x, h => by
    have h' : x ∈ moreN s ms (greedyN s ms k) := h
    unfold moreN at h'
    split at h'
    · exact greedyN_mem s ms k x h'
    · rename_i i hi
      rw [List.mem_append, List.mem_singleton] at h'
      rcases h' with h' | h'
      · exact greedyN_mem s ms k x h'
      · exact ⟨i, List.mem_range.1 (List.mem_of_find?_eq_some hi), h'⟩
end Gate

theorem ownsRow_strs {w : World} {lo : Nat} {a : Option Addr} {n cap : Nat} {row : List ByteArray} (h : w.ownsRow lo 9 1 (.slice a n cap) row.length (row.map Value.string)) (hl : row.length ≤ maxLen) (hs : ∀ s ∈ row, s.size ≤ maxLen) : StrsAt w a row := by
  refine ⟨hl, hs, fun hne => ?_⟩
  obtain ⟨_, ⟨h0, h1⟩ | ⟨g, cp, cur, h0, h1⟩⟩ := id h
  · exact absurd (List.length_eq_zero_iff.1 h1) hne
  · cases h0
    refine ⟨g, 0, rfl, (h.lt g rfl).2, fun i hi => ?_⟩
    rw [Nat.zero_add, h.cellAt i (by omega)]
    simp [hi]

set_option maxRecDepth 20000 in
set_option maxHeartbeats 4000000 in
theorem l3Row_any (fa ma : Option Addr) (fcap mcap : Nat) (s : Shp) (ms : List Mnd) (w : World) (hf : FldsAt w fa s.fs) (hm : MndsAt w ma ms) (hml : ms.length ≤ 12) (hn : s.fs.length ≤ 6) :
    Calls Try.prog 56 #[.agg #[.string s.kd, .slice fa s.fs.length fcap], .slice ma ms.length mcap] w fun e w' => ∃ v, e = .returned v ∧ w'.ownsRow w.heap.size 9 1 v (Gate.greedyN s ms s.fs.length).length ((Gate.greedyN s ms s.fs.length).map Value.string) ∧ Below w.heap.size w w' := by
  have HM : Hid (FldsAt w fa s.fs ∧ MndsAt w ma ms) := ⟨hf, hm⟩
  have HSM : Hid (∀ k, ∀ x ∈ Gate.greedyN s ms k, x.size ≤ maxLen) := by
    intro k x hx
    obtain ⟨i, hi, rfl⟩ := Gate.greedyN_mem s ms k x hx
    unfold Gate.nmAt
    rw [Gate.getD_at _ _ _ hi]
    exact (hf.smalls.small i hi).1.nm
  obtain ⟨i0, hi0, hz0, hz1', hz2⟩ := info_parts Try.infoString
  clear hf hm
  go_enter Try.func56, Try.ntmps56
  go_wp2_with fail
  have hnI : (s.fs.length : Int) ≤ 6 := by omega
  go_loopw [5, 6] (fun v0 iv wr => ∃ (k : Nat) (v : Value), v = v0 ∧ k ≤ s.fs.length ∧ iv = .int .i64 k ∧ wr.ownsRow (w.heap.size + 1) 9 1 v (Gate.greedyN s ms k).length ((Gate.greedyN s ms k).map Value.string) ∧ wr.heap[w.heap.size]? = some (.cells #[.string s.kd, .slice fa s.fs.length fcap] 71) ∧ Below w.heap.size w wr) (fun _ iv _ => s.fs.length - (intOf iv).toNat)
  case atStart => exact ⟨0, _, rfl, Nat.zero_le _, rfl, ⟨rfl, .inr ⟨w.heap.size + 1, 0, #[], rfl, Nat.le_refl _, (two_blocks _ _ _).2, Nat.le_refl _, by simp [maxLen], rfl, rfl⟩⟩, (two_blocks _ _ _).1, below2' _ _ _⟩
  case round =>
    obtain ⟨k, v, hv, hk, rfl, hown, hbox, hB⟩ := hrel
    subst hv
    obtain ⟨va, vcap, rfl⟩ := ownsRow_slice hown
    have HW : Hid (wr.ownsRow (w.heap.size + 1) 9 1 (.slice va (Gate.greedyN s ms k).length vcap) (Gate.greedyN s ms k).length ((Gate.greedyN s ms k).map Value.string) ∧ wr.heap[w.heap.size]? = some (.cells #[.string s.kd, .slice fa s.fs.length fcap] 71) ∧ Below w.heap.size w wr) := ⟨hown, hbox, hB⟩
    have hXr : ∀ j, wr.cell? ⟨w.heap.size, j, none⟩ = (#[.string s.kd, .slice fa s.fs.length fcap] : Array Value)[j]? := fun j => cell_of_block hbox
    have hzr : w.heap.size < wr.heap.size := (Array.getElem?_eq_some_iff.1 hbox).1
    have HGL : Hid ((Gate.greedyN s ms k).length ≤ 6) := by have := Gate.greedyN_length s ms k; show _ ≤ _; omega
    clear hown hbox hB
    by_cases hlt : k < s.fs.length
    · have hltI : (k : Int) < (s.fs.length : Int) := by omega
      go_wp2_with fail
      clear hXr
      obtain ⟨wo, hwo⟩ : ∃ wo, wo = wr := ⟨_, rfl⟩
      have HWO : Hid (wo.ownsRow (w.heap.size + 1) 9 1 (.slice va (Gate.greedyN s ms k).length vcap) (Gate.greedyN s ms k).length ((Gate.greedyN s ms k).map Value.string) ∧ wo.heap[w.heap.size]? = some (.cells #[.string s.kd, .slice fa s.fs.length fcap] 71) ∧ Below w.heap.size w wo ∧ w.heap.size < wo.heap.size) := by rw [hwo]; exact ⟨HW.out.1, HW.out.2.1, HW.out.2.2, hzr⟩
      have HWE : Hid (wo = wr) := hwo
      clear hwo HW hzr
      go_loopw [5, 7] (fun v1 iv wq => ∃ i : Nat, i ≤ s.fs.length ∧ iv = .int .i64 i ∧ v1 = .slice va (Gate.greedyN s ms k).length vcap ∧ (∀ q, q < i → Gate.readyName s ms (Gate.greedyN s ms k) q = false) ∧ Below wo.heap.size wo wq) (fun _ iv _ => s.fs.length - (intOf iv).toNat)
      case atStart => exact ⟨0, Nat.zero_le _, rfl, rfl, fun q h => absurd h (by omega), by rw [HWE.out]; exact Below.refl _ _⟩
      case round =>
        obtain ⟨i, hi, rfl, rfl, hno, hBq⟩ := hrel
        have HQ : Hid ((∀ q, q < i → Gate.readyName s ms (Gate.greedyN s ms k) q = false) ∧ Below wo.heap.size wo wr ∧ wr.ownsRow (w.heap.size + 1) 9 1 (.slice va (Gate.greedyN s ms k).length vcap) (Gate.greedyN s ms k).length ((Gate.greedyN s ms k).map Value.string) ∧ wr.heap[w.heap.size]? = some (.cells #[.string s.kd, .slice fa s.fs.length fcap] 71) ∧ Below w.heap.size w wr) := ⟨hno, hBq, ownsRow_later HWO.out.1 hBq, (hBq.block _ HWO.out.2.2.2).trans HWO.out.2.1, HWO.out.2.2.1.trans (hBq.mono HWO.out.2.2.1.size)⟩
        have hXq := block_cells HQ.out.2.2.2.1
        have hzq : w.heap.size < wr.heap.size := (Array.getElem?_eq_some_iff.1 HQ.out.2.2.2.1).1
        clear hno hBq
        by_cases hil : i < s.fs.length
        · have hilI : (i : Int) < (s.fs.length : Int) := by omega
          obtain ⟨fb, foff, rfl, hfb, hr⟩ := HM.out.1.rows (by intro e; rw [e] at hil; simp at hil)
          obtain ⟨wa, wcap, hf0⟩ := hr i hil
          obtain ⟨c0, c1, c2, c3, c4, c5, c6, c7, c8, c9, c10⟩ := (hf0.mono hfb HQ.out.2.2.2.2).load
          have HNM : Hid (Gate.nmAt s i = s.fs[i].nm) := by unfold Hid Gate.nmAt; rw [Gate.getD_at _ _ _ hil]
          have HST : Hid (StrsAt wr va (Gate.greedyN s ms k)) := ownsRow_strs HQ.out.2.2.1 (by have := HGL.out; unfold maxLen; omega) (HSM.out k)
          have HFIND : Hid (Gate.readyName s ms (Gate.greedyN s ms k) i = true → Gate.greedyN s ms (k + 1) = Gate.greedyN s ms k ++ [s.fs[i].nm]) := by
            intro h
            show Gate.moreN s ms (Gate.greedyN s ms k) = _
            unfold Gate.moreN
            have : (List.range s.fs.length).find? (Gate.readyName s ms (Gate.greedyN s ms k)) = some i := by
              rw [List.find?_range_eq_some]
              exact ⟨h, List.mem_range.2 hil, fun j hj => by rw [HQ.out.1 j hj]; rfl⟩
            rw [this]
            show Gate.greedyN s ms k ++ [Gate.nmAt s i] = _
            rw [HNM.out]
          clear hr hf0 c1 c2 c3 c4 c5 c6 c7 c8 c9 c10
          go_wp2_with fail
          have h := l1Has_any va vcap (Gate.greedyN s ms k) s.fs[i].nm wr HST.out
          rcases hh : Gate.has (Gate.greedyN s ms k) s.fs[i].nm with _ | _
          rotate_left
          · rw [hh] at h
            refine h.mono ?_
            rintro e w3 ⟨rfl, rfl⟩
            have HNR : Hid (∀ q, q < i + 1 → Gate.readyName s ms (Gate.greedyN s ms k) q = false) := by
              intro q hq
              rcases Nat.lt_or_ge q i with h1 | h1
              · exact HQ.out.1 q h1
              · have e : q = i := by omega
                subst e; unfold Gate.readyName; rw [HNM.out, hh]; rfl
            clear h hh
            go_wp2_with fail
            exact ⟨⟨i + 1, by omega, by go_num, rfl, HNR.out, HQ.out.2.1⟩, step_less' hil⟩
          rw [hh] at h
          refine h.mono ?_
          rintro e w3' ⟨rfl, hw3⟩
          rw [hw3]
          clear hw3 w3'
          have HRN : Hid (Gate.readyName s ms (Gate.greedyN s ms k) i = Gate.readyN ms s.kd s.fs[i].nm (Gate.greedyN s ms k)) := by unfold Hid Gate.readyName; rw [HNM.out, hh]; rfl
          clear h hh
          go_wp2_with fail
          have h := l3Ready_any ma va mcap vcap ms s.kd s.fs[i].nm (Gate.greedyN s ms k) wr (HM.out.2.mono HQ.out.2.2.2.2) HST.out hml
          rcases hh : Gate.readyN ms s.kd s.fs[i].nm (Gate.greedyN s ms k) with _ | _
          · rw [hh] at h
            refine h.mono ?_
            rintro e w3 ⟨rfl, hb3⟩
            have HNR : Hid ((∀ q, q < i + 1 → Gate.readyName s ms (Gate.greedyN s ms k) q = false) ∧ Below wo.heap.size wo w3) := by
              refine ⟨fun q hq => ?_, HQ.out.2.1.trans (hb3.mono HQ.out.2.1.size)⟩
              rcases Nat.lt_or_ge q i with h1 | h1
              · exact HQ.out.1 q h1
              · have e : q = i := by omega
                subst e; rw [HRN.out, hh]
            clear h hh hb3
            go_wp2_with fail
            exact ⟨⟨i + 1, by omega, by go_num, rfl, HNR.out.1, HNR.out.2⟩, step_less' hil⟩
          rw [hh] at h
          refine h.mono ?_
          rintro e w3 ⟨rfl, hb3⟩
          have HG1 : Hid (Gate.greedyN s ms (k + 1) = Gate.greedyN s ms k ++ [s.fs[i].nm]) := HFIND.out (by rw [HRN.out, hh])
          have H3 : Hid (w3.ownsRow (w.heap.size + 1) 9 1 (.slice va (Gate.greedyN s ms k).length vcap) (Gate.greedyN s ms k).length ((Gate.greedyN s ms k).map Value.string) ∧ w3.heap[w.heap.size]? = some (.cells #[.string s.kd, .slice (some ⟨fb, foff, none⟩) s.fs.length fcap] 71) ∧ Below w.heap.size w w3 ∧ w.heap.size < w3.heap.size) := ⟨ownsRow_later HQ.out.2.2.1 hb3, (hb3.block _ hzq).trans HQ.out.2.2.2.1, HQ.out.2.2.2.2.trans (hb3.mono HQ.out.2.2.2.2.size), Nat.lt_of_lt_of_le hzq hb3.size⟩
          clear h hh hb3 hXq c0
          go_wp2_with (at_builtin; refine hold_here ?_)
          show wpList _ _ _ _ _ _
          refine wpList_append_own _ rfl (.tmp 42) (.tmp 44) 22 rfl (w.heap.size + 1) 9 i0 (.string ByteArray.empty) 1 16 Try.underlying22 hi0 hz0 hz1' hz2 rfl (by decide) (.slice va (Gate.greedyN s ms k).length vcap) _ _ rfl (H3.out.1.alloc _) ⟨w3.heap.size, 0, none⟩ 1 1 [.string s.fs[i].nm] rfl rfl (one_news _ _ _) (by intro u hu; simp at hu; subst hu; rfl) (by have := HGL.out; unfold maxLen; omega) (by have := HGL.out; omega) (by have := H3.out.2.2.2; simp; omega) ?_
          intro v' w4 hown' hgr _
          obtain ⟨va', vcap', rfl⟩ := ownsRow_slice hown'
          have hgb : ∀ g, (Value.slice va (Gate.greedyN s ms k).length vcap).ownBlock = some g → w.heap.size + 1 ≤ g := fun g hg => (H3.out.1.lt g hg).1
          have HY : Hid (w4.ownsRow (w.heap.size + 1) 9 1 (.slice va' ((Gate.greedyN s ms k).length + 1) vcap') (Gate.greedyN s ms (k + 1)).length ((Gate.greedyN s ms (k + 1)).map Value.string) ∧ w4.heap[w.heap.size]? = some (.cells #[.string s.kd, .slice (some ⟨fb, foff, none⟩) s.fs.length fcap] 71) ∧ Below w.heap.size w w4) := by
            refine ⟨by rw [HG1.out, List.length_append, List.map_append]; exact hown', ?_, grown_below H3.out.2.2.1 H3.out.2.2.1.size hgr (fun g hg => by have := hgb g hg; omega)⟩
            exact (grown_block hgr (by have := H3.out.2.2.2; simp; omega) (fun g hg => by have := hgb g hg; omega)).trans ((Below.heap_alloc _ _ _ H3.out.2.2.2).trans H3.out.2.1)
          clear hown' hgr hgb
          go_wp2_with fail
          exact ⟨⟨k + 1, _, rfl, by omega, by go_num, HY.out.1, HY.out.2.1, HY.out.2.2⟩, step_less' hlt⟩
        · have e : i = s.fs.length := by omega
          have HN : Hid (Gate.greedyN s ms (k + 1) = Gate.greedyN s ms k) := by
            show Gate.moreN s ms (Gate.greedyN s ms k) = _
            unfold Gate.moreN
            have : (List.range s.fs.length).find? (Gate.readyName s ms (Gate.greedyN s ms k)) = none := by
              rw [List.find?_eq_none]
              intro q hq
              rw [HQ.out.1 q (by rw [e]; exact List.mem_range.1 hq)]
              simp
            rw [this]
          subst e
          go_wp2_with fail
          exact ⟨⟨k + 1, _, rfl, by omega, by go_num, by rw [HN.out]; exact HQ.out.2.2.1, HQ.out.2.2.2.1, HQ.out.2.2.2.2⟩, step_less' hlt⟩
    · have e : k = s.fs.length := by omega
      subst e
      go_wp2_with fail
      go_ret
      exact ⟨_, rfl, ownsRow_low HW.out.1 (by omega), HW.out.2.2⟩

end Go.Proofs.Ytbefjngbilakjaa

namespace Go.Proofs.Ytbefjngbilakjaa
open Go.RowKit

set_option maxHeartbeats 2000000 in
theorem specField_1 (a0 : Option Addr) (cap0 : Nat) (ss : List Shp) (nm : ByteArray) (ls ms : Int) (a : Option Addr) (cap : Nat) (ws : List ByteArray) (to : ByteArray) (rl : Int) (mu fx : Bool) (df wg : ByteArray) (w : World) (hnm : nm.size ≤ maxLen) (hdf : df.size ≤ maxLen) (hwg : wg.size ≤ maxLen) (hws : StrsAt w a ws) :
    Calls Try.prog 40 #[.slice a0 ss.length cap0, .agg #[.string nm, .int .i64 1, .int .i64 ls, .int .i64 ms, .slice a ws.length cap, .string to, .int .i64 rl, .bool mu, .bool fx, .string df, .string wg]] w
      fun e w' => e = .returned (.bool (Gate.nameOk nm && Gate.fieldOk ss ⟨nm, 1, ls, ms, ws, to, rl, mu, fx, df, wg⟩)) ∧ Below w.heap.size w w' := by
  have HO : Hid ((Gate.nameOk nm && Gate.fieldOk ss ⟨nm, 1, ls, ms, ws, to, rl, mu, fx, df, wg⟩) = (Gate.nameOk nm && (Gate.bareOf 1 ls ms ws.length to rl wg && Gate.soundOf ss ⟨nm, 1, ls, ms, ws, to, rl, mu, fx, df, wg⟩ && (df.toList.isEmpty || Gate.fits 1 ls ms ws df)))) := rfl
  generalize (Gate.nameOk nm && Gate.fieldOk ss ⟨nm, 1, ls, ms, ws, to, rl, mu, fx, df, wg⟩) = res at HO
  by_cases hn : Gate.nameOk nm = true
  rotate_left
  · have HNm : Hid (Gate.nameOk nm = false) := by simpa [Hid] using hn
    clear hn
    go_enter Try.func40, Try.ntmps40
    go_wp2_with fail
    refine (as_bool HNm.out (l1NameOk_any _ _ hnm)).mono ?_
    rintro e w1 ⟨rfl, rfl⟩
    go_wp2_with fail
    go_ret
    exact ⟨ret_bool (by rw [HO.out, HNm.out]; rfl), (Below.refl _ _).alloc (Nat.le_refl _) _⟩
  have HNm : Hid (Gate.nameOk nm = true) := hn
  clear hn
  by_cases hbare : Gate.bareOf 1 ls ms ws.length to rl wg = true
  rotate_left
  · have HBare : Hid (Gate.bareOf 1 ls ms ws.length to rl wg = false) := by simpa [Hid] using hbare
    clear hbare
    go_enter Try.func40, Try.ntmps40
    go_wp2_with fail
    refine (as_bool HNm.out (l1NameOk_any _ _ hnm)).mono ?_
    rintro e w1 ⟨rfl, rfl⟩
    go_wp2_with fail
    refine (as_bool HBare.out (specBare_1 _ _ _ _ _ _ _ _ _ _ _ _ _)).mono ?_
    rintro e w2 ⟨rfl, hb2⟩
    have hX2 := box_later (box_new w _ _) (by simp) hb2
    have hz2 : w.heap.size < w2.heap.size := by have := hb2.size; simp at this; omega
    have hB2 : Below w.heap.size w w2 := ((Below.refl _ _).alloc (Nat.le_refl _) _).trans (hb2.mono (by simp))
    clear hb2
    go_wp2_with fail
    go_ret
    exact ⟨ret_bool (by rw [HO.out, HNm.out, HBare.out]; rfl), hB2⟩
  have HBare : Hid (Gate.bareOf 1 ls ms ws.length to rl wg = true) := hbare
  clear hbare
  by_cases hd : df.toList.isEmpty = true
  · have HD : Hid (df.toList.isEmpty = true) := hd
    have HR : Hid (res = Gate.soundOf ss ⟨nm, 1, ls, ms, ws, to, rl, mu, fx, df, wg⟩) := by unfold Hid; rw [HO.out, HNm.out, HBare.out, hd]; simp
    clear HO
    go_enter Try.func40, Try.ntmps40
    go_wp2_with fail
    refine (as_bool HNm.out (l1NameOk_any _ _ hnm)).mono ?_
    rintro e w1 ⟨rfl, rfl⟩
    go_wp2_with fail
    refine (as_bool HBare.out (specBare_1 _ _ _ _ _ _ _ _ _ _ _ _ _)).mono ?_
    rintro e w2 ⟨rfl, hb2⟩
    have hX2 := box_later (box_new w _ _) (by simp) hb2
    have hz2 : w.heap.size < w2.heap.size := by have := hb2.size; simp at this; omega
    have hB2 : Below w.heap.size w w2 := ((Below.refl _ _).alloc (Nat.le_refl _) _).trans (hb2.mono (by simp))
    clear hb2
    go_wp2_with (go_at_call 34; refine (l1NameOk_any _ _ hwg).mono ?_; rintro e w5 ⟨rfl, rfl⟩)
    all_goals
      go_ret
      refine ⟨ret_bool ?_, hB2⟩
      rw [HR.out]
      simp_all [Gate.soundOf, Gate.rangeOk]
      try omega
  have hd' : df.toList.isEmpty = false := by simpa using hd
  have HD : Hid (df.toList.isEmpty = false) := hd'
  clear hd
  by_cases hfit : Gate.fits 1 ls ms ws df = true
  rotate_left
  · have HFit : Hid (Gate.fits 1 ls ms ws df = false) := by simpa [Hid] using hfit
    clear hfit
    go_enter Try.func40, Try.ntmps40
    go_wp2_with fail
    refine (as_bool HNm.out (l1NameOk_any _ _ hnm)).mono ?_
    rintro e w1 ⟨rfl, rfl⟩
    go_wp2_with fail
    refine (as_bool HBare.out (specBare_1 _ _ _ _ _ _ _ _ _ _ _ _ _)).mono ?_
    rintro e w2 ⟨rfl, hb2⟩
    have hX2 := box_later (box_new w _ _) (by simp) hb2
    have hz2 : w.heap.size < w2.heap.size := by have := hb2.size; simp at this; omega
    have hB2 : Below w.heap.size w w2 := ((Below.refl _ _).alloc (Nat.le_refl _) _).trans (hb2.mono (by simp))
    clear hb2
    go_wp2_with fail
    refine (as_bool HFit.out (specFits_any _ _ _ _ _ _ _ _ _ _ _ _ _ _ _ hdf (hws.mono hB2))).mono ?_
    rintro e w3 ⟨rfl, hb3⟩
    have hX3 := box_later hX2 hz2 hb3
    have hz3 : w.heap.size < w3.heap.size := by have := hb3.size; omega
    have hB3 : Below w.heap.size w w3 := hB2.trans (hb3.mono (by omega))
    clear hb3 hX2 hz2 hB2
    go_wp2_with fail
    go_ret
    exact ⟨ret_bool (by rw [HO.out, HNm.out, HBare.out, HD.out, HFit.out]; simp), hB3⟩
  · have HFit : Hid (Gate.fits 1 ls ms ws df = true) := hfit
    have HR : Hid (res = Gate.soundOf ss ⟨nm, 1, ls, ms, ws, to, rl, mu, fx, df, wg⟩) := by unfold Hid; rw [HO.out, HNm.out, HBare.out, HD.out, hfit]; simp
    clear hfit HO
    go_enter Try.func40, Try.ntmps40
    go_wp2_with fail
    refine (as_bool HNm.out (l1NameOk_any _ _ hnm)).mono ?_
    rintro e w1 ⟨rfl, rfl⟩
    go_wp2_with fail
    refine (as_bool HBare.out (specBare_1 _ _ _ _ _ _ _ _ _ _ _ _ _)).mono ?_
    rintro e w2 ⟨rfl, hb2⟩
    have hX2 := box_later (box_new w _ _) (by simp) hb2
    have hz2 : w.heap.size < w2.heap.size := by have := hb2.size; simp at this; omega
    have hB2 : Below w.heap.size w w2 := ((Below.refl _ _).alloc (Nat.le_refl _) _).trans (hb2.mono (by simp))
    clear hb2
    go_wp2_with fail
    refine (as_bool HFit.out (specFits_any _ _ _ _ _ _ _ _ _ _ _ _ _ _ _ hdf (hws.mono hB2))).mono ?_
    rintro e w3 ⟨rfl, hb3⟩
    have hX3 := box_later hX2 hz2 hb3
    have hz3 : w.heap.size < w3.heap.size := by have := hb3.size; omega
    have hB3 : Below w.heap.size w w3 := hB2.trans (hb3.mono (by omega))
    clear hb3 hX2 hz2 hB2
    go_wp2_with (go_at_call 34; refine (l1NameOk_any _ _ hwg).mono ?_; rintro e w5 ⟨rfl, rfl⟩)
    all_goals
      go_ret
      refine ⟨ret_bool ?_, hB3⟩
      rw [HR.out]
      simp_all [Gate.soundOf, Gate.rangeOk]
      try omega

end Go.Proofs.Ytbefjngbilakjaa

namespace Go.Proofs.Ytbefjngbilakjaa
open Go.RowKit

set_option maxHeartbeats 2000000 in
theorem specField_2 (a0 : Option Addr) (cap0 : Nat) (ss : List Shp) (nm : ByteArray) (ls ms : Int) (a : Option Addr) (cap : Nat) (ws : List ByteArray) (to : ByteArray) (rl : Int) (mu fx : Bool) (df wg : ByteArray) (w : World) (hnm : nm.size ≤ maxLen) (hdf : df.size ≤ maxLen) (hws : StrsAt w a ws) :
    Calls Try.prog 40 #[.slice a0 ss.length cap0, .agg #[.string nm, .int .i64 2, .int .i64 ls, .int .i64 ms, .slice a ws.length cap, .string to, .int .i64 rl, .bool mu, .bool fx, .string df, .string wg]] w
      fun e w' => e = .returned (.bool (Gate.nameOk nm && Gate.fieldOk ss ⟨nm, 2, ls, ms, ws, to, rl, mu, fx, df, wg⟩)) ∧ Below w.heap.size w w' := by
  have HO : Hid ((Gate.nameOk nm && Gate.fieldOk ss ⟨nm, 2, ls, ms, ws, to, rl, mu, fx, df, wg⟩) = (Gate.nameOk nm && (Gate.bareOf 2 ls ms ws.length to rl wg && Gate.soundOf ss ⟨nm, 2, ls, ms, ws, to, rl, mu, fx, df, wg⟩ && (df.toList.isEmpty || Gate.fits 2 ls ms ws df)))) := rfl
  generalize (Gate.nameOk nm && Gate.fieldOk ss ⟨nm, 2, ls, ms, ws, to, rl, mu, fx, df, wg⟩) = res at HO
  by_cases hn : Gate.nameOk nm = true
  rotate_left
  · have HNm : Hid (Gate.nameOk nm = false) := by simpa [Hid] using hn
    clear hn
    go_enter Try.func40, Try.ntmps40
    go_wp2_with fail
    refine (as_bool HNm.out (l1NameOk_any _ _ hnm)).mono ?_
    rintro e w1 ⟨rfl, rfl⟩
    go_wp2_with fail
    go_ret
    exact ⟨ret_bool (by rw [HO.out, HNm.out]; rfl), (Below.refl _ _).alloc (Nat.le_refl _) _⟩
  have HNm : Hid (Gate.nameOk nm = true) := hn
  clear hn
  by_cases hbare : Gate.bareOf 2 ls ms ws.length to rl wg = true
  rotate_left
  · have HBare : Hid (Gate.bareOf 2 ls ms ws.length to rl wg = false) := by simpa [Hid] using hbare
    clear hbare
    go_enter Try.func40, Try.ntmps40
    go_wp2_with fail
    refine (as_bool HNm.out (l1NameOk_any _ _ hnm)).mono ?_
    rintro e w1 ⟨rfl, rfl⟩
    go_wp2_with fail
    refine (as_bool HBare.out (specBare_2 _ _ _ _ _ _ _ _ _ _ _ _ _)).mono ?_
    rintro e w2 ⟨rfl, hb2⟩
    have hX2 := box_later (box_new w _ _) (by simp) hb2
    have hz2 : w.heap.size < w2.heap.size := by have := hb2.size; simp at this; omega
    have hB2 : Below w.heap.size w w2 := ((Below.refl _ _).alloc (Nat.le_refl _) _).trans (hb2.mono (by simp))
    clear hb2
    go_wp2_with fail
    go_ret
    exact ⟨ret_bool (by rw [HO.out, HNm.out, HBare.out]; rfl), hB2⟩
  have HBare : Hid (Gate.bareOf 2 ls ms ws.length to rl wg = true) := hbare
  clear hbare
  by_cases hd : df.toList.isEmpty = true
  · have HD : Hid (df.toList.isEmpty = true) := hd
    have HR : Hid (res = Gate.soundOf ss ⟨nm, 2, ls, ms, ws, to, rl, mu, fx, df, wg⟩) := by unfold Hid; rw [HO.out, HNm.out, HBare.out, hd]; simp
    clear HO
    have HSn : Hid (Gate.soundOf ss ⟨nm, 2, ls, ms, ws, to, rl, mu, fx, df, wg⟩ = (decide (1 ≤ ws.length) && decide (ws.length ≤ 6) && Gate.asc ws)) := by simp [Gate.soundOf, Hid]
    have hl := hws.len
    unfold maxLen at hl
    by_cases h16 : 1 ≤ ws.length ∧ ws.length ≤ 6
    · obtain ⟨h1, h6⟩ := h16
      go_enter Try.func40, Try.ntmps40
      go_wp2_with fail
      refine (as_bool HNm.out (l1NameOk_any _ _ hnm)).mono ?_
      rintro e w1 ⟨rfl, rfl⟩
      go_wp2_with fail
      refine (as_bool HBare.out (specBare_2 _ _ _ _ _ _ _ _ _ _ _ _ _)).mono ?_
      rintro e w2 ⟨rfl, hb2⟩
      have hX2 := box_later (box_new w _ _) (by simp) hb2
      have hz2 : w.heap.size < w2.heap.size := by have := hb2.size; simp at this; omega
      have hB2 : Below w.heap.size w w2 := ((Below.refl _ _).alloc (Nat.le_refl _) _).trans (hb2.mono (by simp))
      clear hb2
      go_wp2_with fail
      refine (l1In_yes _ _ _ _ (by omega) (by omega)).mono ?_
      rintro e w5 ⟨rfl, rfl⟩
      go_wp2_with fail
      refine (l1Ascending_any _ _ _ _ (hws.mono hB2)).mono ?_
      rintro e w6 ⟨rfl, nd, rfl⟩
      go_wp2_with fail
      go_ret
      exact ⟨ret_bool (by rw [HR.out, HSn.out, decide_eq_true h1, decide_eq_true h6]; rfl), below_drewN hB2 _⟩
    · have HS0 : Hid (Gate.soundOf ss ⟨nm, 2, ls, ms, ws, to, rl, mu, fx, df, wg⟩ = false) := by
        rw [HSn.out]; unfold Hid
        by_cases h1 : 1 ≤ ws.length
        · rw [decide_eq_false (show ¬ ws.length ≤ 6 by omega)]; simp
        · rw [decide_eq_false h1]; rfl
      go_enter Try.func40, Try.ntmps40
      go_wp2_with fail
      refine (as_bool HNm.out (l1NameOk_any _ _ hnm)).mono ?_
      rintro e w1 ⟨rfl, rfl⟩
      go_wp2_with fail
      refine (as_bool HBare.out (specBare_2 _ _ _ _ _ _ _ _ _ _ _ _ _)).mono ?_
      rintro e w2 ⟨rfl, hb2⟩
      have hX2 := box_later (box_new w _ _) (by simp) hb2
      have hz2 : w.heap.size < w2.heap.size := by have := hb2.size; simp at this; omega
      have hB2 : Below w.heap.size w w2 := ((Below.refl _ _).alloc (Nat.le_refl _) _).trans (hb2.mono (by simp))
      clear hb2
      go_wp2_with fail
      refine (l1In_no _ _ _ _ (by omega)).mono ?_
      rintro e w5 ⟨rfl, rfl⟩
      go_wp2_with fail
      go_ret
      exact ⟨ret_bool (by rw [HR.out, HS0.out]), hB2⟩
  have hd' : df.toList.isEmpty = false := by simpa using hd
  have HD : Hid (df.toList.isEmpty = false) := hd'
  clear hd
  by_cases hfit : Gate.fits 2 ls ms ws df = true
  rotate_left
  · have HFit : Hid (Gate.fits 2 ls ms ws df = false) := by simpa [Hid] using hfit
    clear hfit
    go_enter Try.func40, Try.ntmps40
    go_wp2_with fail
    refine (as_bool HNm.out (l1NameOk_any _ _ hnm)).mono ?_
    rintro e w1 ⟨rfl, rfl⟩
    go_wp2_with fail
    refine (as_bool HBare.out (specBare_2 _ _ _ _ _ _ _ _ _ _ _ _ _)).mono ?_
    rintro e w2 ⟨rfl, hb2⟩
    have hX2 := box_later (box_new w _ _) (by simp) hb2
    have hz2 : w.heap.size < w2.heap.size := by have := hb2.size; simp at this; omega
    have hB2 : Below w.heap.size w w2 := ((Below.refl _ _).alloc (Nat.le_refl _) _).trans (hb2.mono (by simp))
    clear hb2
    go_wp2_with fail
    refine (as_bool HFit.out (specFits_any _ _ _ _ _ _ _ _ _ _ _ _ _ _ _ hdf (hws.mono hB2))).mono ?_
    rintro e w3 ⟨rfl, hb3⟩
    have hX3 := box_later hX2 hz2 hb3
    have hz3 : w.heap.size < w3.heap.size := by have := hb3.size; omega
    have hB3 : Below w.heap.size w w3 := hB2.trans (hb3.mono (by omega))
    clear hb3 hX2 hz2 hB2
    go_wp2_with fail
    go_ret
    exact ⟨ret_bool (by rw [HO.out, HNm.out, HBare.out, HD.out, HFit.out]; simp), hB3⟩
  · have HFit : Hid (Gate.fits 2 ls ms ws df = true) := hfit
    have HR : Hid (res = Gate.soundOf ss ⟨nm, 2, ls, ms, ws, to, rl, mu, fx, df, wg⟩) := by unfold Hid; rw [HO.out, HNm.out, HBare.out, HD.out, hfit]; simp
    clear hfit HO
    have HSn : Hid (Gate.soundOf ss ⟨nm, 2, ls, ms, ws, to, rl, mu, fx, df, wg⟩ = (decide (1 ≤ ws.length) && decide (ws.length ≤ 6) && Gate.asc ws)) := by simp [Gate.soundOf, Hid]
    have hl := hws.len
    unfold maxLen at hl
    by_cases h16 : 1 ≤ ws.length ∧ ws.length ≤ 6
    · obtain ⟨h1, h6⟩ := h16
      go_enter Try.func40, Try.ntmps40
      go_wp2_with fail
      refine (as_bool HNm.out (l1NameOk_any _ _ hnm)).mono ?_
      rintro e w1 ⟨rfl, rfl⟩
      go_wp2_with fail
      refine (as_bool HBare.out (specBare_2 _ _ _ _ _ _ _ _ _ _ _ _ _)).mono ?_
      rintro e w2 ⟨rfl, hb2⟩
      have hX2 := box_later (box_new w _ _) (by simp) hb2
      have hz2 : w.heap.size < w2.heap.size := by have := hb2.size; simp at this; omega
      have hB2 : Below w.heap.size w w2 := ((Below.refl _ _).alloc (Nat.le_refl _) _).trans (hb2.mono (by simp))
      clear hb2
      go_wp2_with fail
      refine (as_bool HFit.out (specFits_any _ _ _ _ _ _ _ _ _ _ _ _ _ _ _ hdf (hws.mono hB2))).mono ?_
      rintro e w3 ⟨rfl, hb3⟩
      have hX3 := box_later hX2 hz2 hb3
      have hz3 : w.heap.size < w3.heap.size := by have := hb3.size; omega
      have hB3 : Below w.heap.size w w3 := hB2.trans (hb3.mono (by omega))
      clear hb3 hX2 hz2 hB2
      go_wp2_with fail
      refine (l1In_yes _ _ _ _ (by omega) (by omega)).mono ?_
      rintro e w5 ⟨rfl, rfl⟩
      go_wp2_with fail
      refine (l1Ascending_any _ _ _ _ (hws.mono hB3)).mono ?_
      rintro e w6 ⟨rfl, nd, rfl⟩
      go_wp2_with fail
      go_ret
      exact ⟨ret_bool (by rw [HR.out, HSn.out, decide_eq_true h1, decide_eq_true h6]; rfl), below_drewN hB3 _⟩
    · have HS0 : Hid (Gate.soundOf ss ⟨nm, 2, ls, ms, ws, to, rl, mu, fx, df, wg⟩ = false) := by
        rw [HSn.out]; unfold Hid
        by_cases h1 : 1 ≤ ws.length
        · rw [decide_eq_false (show ¬ ws.length ≤ 6 by omega)]; simp
        · rw [decide_eq_false h1]; rfl
      go_enter Try.func40, Try.ntmps40
      go_wp2_with fail
      refine (as_bool HNm.out (l1NameOk_any _ _ hnm)).mono ?_
      rintro e w1 ⟨rfl, rfl⟩
      go_wp2_with fail
      refine (as_bool HBare.out (specBare_2 _ _ _ _ _ _ _ _ _ _ _ _ _)).mono ?_
      rintro e w2 ⟨rfl, hb2⟩
      have hX2 := box_later (box_new w _ _) (by simp) hb2
      have hz2 : w.heap.size < w2.heap.size := by have := hb2.size; simp at this; omega
      have hB2 : Below w.heap.size w w2 := ((Below.refl _ _).alloc (Nat.le_refl _) _).trans (hb2.mono (by simp))
      clear hb2
      go_wp2_with fail
      refine (as_bool HFit.out (specFits_any _ _ _ _ _ _ _ _ _ _ _ _ _ _ _ hdf (hws.mono hB2))).mono ?_
      rintro e w3 ⟨rfl, hb3⟩
      have hX3 := box_later hX2 hz2 hb3
      have hz3 : w.heap.size < w3.heap.size := by have := hb3.size; omega
      have hB3 : Below w.heap.size w w3 := hB2.trans (hb3.mono (by omega))
      clear hb3 hX2 hz2 hB2
      go_wp2_with fail
      refine (l1In_no _ _ _ _ (by omega)).mono ?_
      rintro e w5 ⟨rfl, rfl⟩
      go_wp2_with fail
      go_ret
      exact ⟨ret_bool (by rw [HR.out, HS0.out]), hB3⟩

end Go.Proofs.Ytbefjngbilakjaa
