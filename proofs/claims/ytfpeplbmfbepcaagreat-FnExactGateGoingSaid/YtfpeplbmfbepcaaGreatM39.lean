import Derived.Test.YtfpeplbmfbepcaaGreatM31
import Derived.Test.YtfpeplbmfbepcaaGreatM05
import Derived.Test.YtfpeplbmfbepcaaGreatM03
import Derived.Test.YtfpeplbmfbepcaaGreatM21
import Derived.Test.YtfpeplbmfbepcaaGreatM33
import Derived.Test.YtfpeplbmfbepcaaGreatM35
import Derived.Deep.RegionHeld3
import Derived.Test.YtfpeplbmfbepcaaGreatM11
import Derived.Test.YtfpeplbmfbepcaaGreatM32
import Derived.Deep.QuietTactic
namespace Go.Proofs.YtfpeplbmfbepcaaGreat
open Go.RowKit
namespace Gate
def yS (kd fld : ByteArray) (row : List ByteArray) (m : Mnd) : Bool := !(decide (m.kd = kd) && decide (m.fd = fld)) || ((!isSet m.wh || has row m.wh) && (!isSet m.fr || has row m.fr))
def zbU (ms : List Mnd) (kd fld : ByteArray) (row : List ByteArray) : Bool := ms.all (yS kd fld row)
end Gate
set_option maxRecDepth 20000 in
set_option maxHeartbeats 4000000 in
theorem zmd (a ra : Option Addr) (cap rcap : Nat) (ms : List Mnd) (kd fld : ByteArray) (row : List ByteArray) (w : World) (hm : qy w a ms) (hr : zA w ra row) (hml : ms.length <= 12) :
    Calls Tryz.prog 173 #[.slice a ms.length cap, .string kd, .string fld, .slice ra row.length rcap] w fun e w' => e = .returned (.bool (Gate.zbU ms kd fld row)) /\ Below w.heap.size w w' := by
  have HM := qJ hm hr
  clear hm hr
  go_enter Tryz.func173, Tryz.ntmps173
  go_wp2_with fail
  go_loopw [9] (fun iv wr => ∃ k : Nat, k <= ms.length /\ iv = .int .i64 k /\ (ms.take k).all (Gate.yS kd fld row) = true /\ Below w.heap.size w wr) (fun iv _ => ms.length - (intOf iv).toNat)
  case atStart => exact ⟨0, Nat.zero_le _, rfl, rfl, Below.refl _ _⟩
  case round =>
    obtain ⟨k, hk, rfl, hall, hB⟩ := hrel
    have HB := hid hB
    have HA : Hid ((ms.take k).all (Gate.yS kd fld row) = true) := hall
    by_cases hlt : k < ms.length
    · obtain ⟨b, off, rfl, hb, c0, c1, c2, c3, c4, c5⟩ := HM.out.1.load hB k hlt
      have hltI : (k : Int) < (ms.length : Int) := by omega
      have HTK : Hid ((ms.take (k + 1)).all (Gate.yS kd fld row) = Gate.yS kd fld row ms[k]) := by
        unfold Hid; rw [List.take_succ_eq_append_getElem hlt, List.all_append, HA.out]; simp
      have HNO : Hid (Gate.yS kd fld row ms[k] = false -> Gate.zbU ms kd fld row = false) := by
        intro h
        unfold Gate.zbU
        rw [List.all_eq_false]; exact ⟨_, List.getElem_mem hlt, by rw [h]; simp⟩
      have HBA : Hid (Below w.heap.size w (wr.alloc (.cells #[.string ms[k].kd, .string ms[k].fd, .string ms[k].wh, .string ms[k].wi, .string ms[k].pt, .string ms[k].fr] 125))) := hB.alloc hB.size _
      clear hall hB HA
      by_cases e1 : ms[k].kd = kd
      rotate_left
      · have he1 : (ms[k].kd.toList == kd.toList) = false := by rw [Gate.beq_toList]; simpa using e1
        have HY : Hid (Gate.yS kd fld row ms[k] = true) := by unfold Hid Gate.yS; simp [e1]
        clear e1
        go_wp2_with fail
        exact ⟨⟨k + 1, by omega, by go_num, by rw [HTK.out]; exact HY.out, HBA.out⟩, zi hlt⟩
      have he1 : (ms[k].kd.toList == kd.toList) = true := by rw [Gate.beq_toList]; simpa using e1
      by_cases e2 : ms[k].fd = fld
      rotate_left
      · have he2 : (ms[k].fd.toList == fld.toList) = false := by rw [Gate.beq_toList]; simpa using e2
        have HY : Hid (Gate.yS kd fld row ms[k] = true) := by unfold Hid Gate.yS; simp [e2]
        clear e1 e2
        go_wp2_with fail
        exact ⟨⟨k + 1, by omega, by go_num, by rw [HTK.out]; exact HY.out, HBA.out⟩, zi hlt⟩
      have he2 : (ms[k].fd.toList == fld.toList) = true := by rw [Gate.beq_toList]; simpa using e2
      have HRD : Hid (Gate.yS kd fld row ms[k] = ((!Gate.isSet ms[k].wh || Gate.has row ms[k].wh) && (!Gate.isSet ms[k].fr || Gate.has row ms[k].fr))) := by unfold Hid Gate.yS; simp [e1, e2]
      clear e1 e2
      rcases hwh : ms[k].wh.toList.isEmpty with _ | _ <;> rcases hfr : ms[k].fr.toList.isEmpty with _ | _
      all_goals go_wp2_with fail
      · skip
        have h := zb2 ra rcap row ms[k].wh _ (HM.out.2.mono HBA.out)
        rcases hh1 : Gate.has row ms[k].wh with _ | _
        · rw [hh1] at h
          refine h.mono ?_
          rintro e w3 ⟨rfl, rfl⟩
          have HF : Hid (Gate.zbU ms kd fld row = false) := HNO.out (by rw [HRD.out]; unfold Gate.isSet; simp [*])
          clear h
          go_wp2_with fail
          go_ret
          exact ⟨by rw [HF.out]; rfl, HBA.out⟩
        · rw [hh1] at h
          refine h.mono ?_
          rintro e w3 ⟨rfl, rfl⟩
          clear h
          go_wp2_with fail
          have h := zb2 ra rcap row ms[k].fr _ (HM.out.2.mono HBA.out)
          rcases hh2 : Gate.has row ms[k].fr with _ | _
          · rw [hh2] at h
            refine h.mono ?_
            rintro e w3 ⟨rfl, rfl⟩
            have HF : Hid (Gate.zbU ms kd fld row = false) := HNO.out (by rw [HRD.out]; unfold Gate.isSet; simp [*])
            clear h
            go_wp2_with fail
            go_ret
            exact ⟨by rw [HF.out]; rfl, HBA.out⟩
          · rw [hh2] at h
            refine h.mono ?_
            rintro e w3 ⟨rfl, rfl⟩
            clear h
            go_wp2_with fail
            have HY : Hid (Gate.yS kd fld row ms[k] = true) := by unfold Hid; rw [HRD.out]; unfold Gate.isSet; simp [*]
            exact ⟨⟨k + 1, by omega, by go_num, by rw [HTK.out]; exact HY.out, HBA.out⟩, zi hlt⟩
      · skip
        have h := zb2 ra rcap row ms[k].wh _ (HM.out.2.mono HBA.out)
        rcases hh1 : Gate.has row ms[k].wh with _ | _
        · rw [hh1] at h
          refine h.mono ?_
          rintro e w3 ⟨rfl, rfl⟩
          have HF : Hid (Gate.zbU ms kd fld row = false) := HNO.out (by rw [HRD.out]; unfold Gate.isSet; simp [*])
          clear h
          go_wp2_with fail
          go_ret
          exact ⟨by rw [HF.out]; rfl, HBA.out⟩
        · rw [hh1] at h
          refine h.mono ?_
          rintro e w3 ⟨rfl, rfl⟩
          clear h
          go_wp2_with fail
          have HY : Hid (Gate.yS kd fld row ms[k] = true) := by unfold Hid; rw [HRD.out]; unfold Gate.isSet; simp [*]
          exact ⟨⟨k + 1, by omega, by go_num, by rw [HTK.out]; exact HY.out, HBA.out⟩, zi hlt⟩
      · skip
        have h := zb2 ra rcap row ms[k].fr _ (HM.out.2.mono HBA.out)
        rcases hh2 : Gate.has row ms[k].fr with _ | _
        · rw [hh2] at h
          refine h.mono ?_
          rintro e w3 ⟨rfl, rfl⟩
          have HF : Hid (Gate.zbU ms kd fld row = false) := HNO.out (by rw [HRD.out]; unfold Gate.isSet; simp [*])
          clear h
          go_wp2_with fail
          go_ret
          exact ⟨by rw [HF.out]; rfl, HBA.out⟩
        · rw [hh2] at h
          refine h.mono ?_
          rintro e w3 ⟨rfl, rfl⟩
          clear h
          go_wp2_with fail
          have HY : Hid (Gate.yS kd fld row ms[k] = true) := by unfold Hid; rw [HRD.out]; unfold Gate.isSet; simp [*]
          exact ⟨⟨k + 1, by omega, by go_num, by rw [HTK.out]; exact HY.out, HBA.out⟩, zi hlt⟩
      · skip
        have HY : Hid (Gate.yS kd fld row ms[k] = true) := by unfold Hid; rw [HRD.out]; unfold Gate.isSet; simp [*]
        exact ⟨⟨k + 1, by omega, by go_num, by rw [HTK.out]; exact HY.out, HBA.out⟩, zi hlt⟩
    · have e : k = ms.length := by omega
      rw [e, List.take_of_length_le (Nat.le_refl _)] at hall
      have HF : Hid (Gate.zbU ms kd fld row = true) := hall
      subst e
      clear hall HA hB
      go_wp2_with fail
      go_ret
      exact ⟨by rw [HF.out]; rfl, HB.out⟩
end Go.Proofs.YtfpeplbmfbepcaaGreat

namespace Go.Proofs.YtfpeplbmfbepcaaGreat
open Go.RowKit
namespace Gate
def zaJ (s : Shp) (i : Nat) : ByteArray := (s.fs.getD i za9).nm
def qQ (s : Shp) (ms : List Mnd) (row : List ByteArray) (i : Nat) : Bool := !has row (zaJ s i) && zbU ms s.kd (zaJ s i) row
def zdS (s : Shp) (ms : List Mnd) (row : List ByteArray) : List ByteArray := match (List.range s.fs.length).find? (qQ s ms row) with | none => row | some i => row ++ [zaJ s i]
def zZ (s : Shp) (ms : List Mnd) : Nat -> List ByteArray
  | 0 => []
  | k + 1 => zdS s ms (zZ s ms k)
theorem zkX (s : Shp) (ms : List Mnd) (row : List ByteArray) : (zdS s ms row).length <= row.length + 1 := by
  unfold zdS; split
  · omega
  · simp
theorem zd8 (s : Shp) (ms : List Mnd) : ∀ k, (zZ s ms k).length <= k
  | 0 => Nat.le_refl _
  | k + 1 => Nat.le_trans (zkX s ms _) (by have := zd8 s ms k; omega)
theorem zek (s : Shp) (ms : List Mnd) : ∀ k, ∀ x ∈ zZ s ms k, ∃ i, i < s.fs.length /\ x = zaJ s i
  | 0, x, h => by cases h
  | k + 1, x, h => by
    have h' : x ∈ zdS s ms (zZ s ms k) := h
    unfold zdS at h'
    split at h'
    · exact zek s ms k x h'
    · rename_i i hi
      rw [List.mem_append, List.mem_singleton] at h'
      rcases h' with h' | h'
      · exact zek s ms k x h'
      · exact ⟨i, List.mem_range.1 (List.mem_of_find?_eq_some hi), h'⟩
end Gate
set_option maxRecDepth 20000 in
set_option maxHeartbeats 4000000 in
theorem zkm (fa ma : Option Addr) (fcap mcap : Nat) (s : Shp) (ms : List Mnd) (w : World) (hf : zW w fa s.fs) (hm : qy w ma ms) (hml : ms.length <= 12) (hn : s.fs.length <= 6) :
    Calls Tryz.prog 127 #[.agg #[.string s.kd, .slice fa s.fs.length fcap], .slice ma ms.length mcap] w fun e w' => ∃ v, e = .returned v /\ w'.ownsRow w.heap.size 9 1 v (Gate.zZ s ms s.fs.length).length ((Gate.zZ s ms s.fs.length).map Value.string) /\ Below w.heap.size w w' := by
  have HM := qJ hf hm
  have HSM : Hid (∀ k, ∀ x ∈ Gate.zZ s ms k, x.size <= maxLen) := by
    intro k x hx
    obtain ⟨i, hi, rfl⟩ := Gate.zek s ms k x hx
    unfold Gate.zaJ
    rw [Gate.getD_at _ _ _ hi]
    exact (hf.smalls.small i hi).1.nm
  obtain ⟨i0, hi0, hz0, hz1', hz2⟩ := info_parts Tryz.zdm
  clear hf hm
  go_enter Tryz.func127, Tryz.ntmps127
  go_wp2_with fail
  have hnI : (s.fs.length : Int) <= 6 := by omega
  go_loopw [5, 6] (fun v0 iv wr => ∃ (k : Nat) (v : Value), v = v0 /\ k <= s.fs.length /\ iv = .int .i64 k /\ wr.ownsRow (w.heap.size + 1) 9 1 v (Gate.zZ s ms k).length ((Gate.zZ s ms k).map Value.string) /\ wr.heap[w.heap.size]? = some (.cells #[.string s.kd, .slice fa s.fs.length fcap] 123) /\ Below w.heap.size w wr) (fun _ iv _ => s.fs.length - (intOf iv).toNat)
  case atStart => exact ⟨0, _, rfl, Nat.zero_le _, rfl, ⟨rfl, .inr ⟨w.heap.size + 1, 0, #[], rfl, Nat.le_refl _, (zP _ _ _).2, Nat.le_refl _, by simp [maxLen], rfl, rfl⟩⟩, (zP _ _ _).1, zn _ _ _⟩
  case round =>
    obtain ⟨k, v, hv, hk, rfl, hown, hbox, hB⟩ := hrel
    subst hv
    obtain ⟨va, vcap, rfl⟩ := yE hown
    have HW := zdB hown hbox hB
    have hXr : ∀ j, wr.cell? ⟨w.heap.size, j, none⟩ = (#[.string s.kd, .slice fa s.fs.length fcap] : Array Value)[j]? := fun j => cell_of_block hbox
    have hzr := (Array.getElem?_eq_some_iff.1 hbox).1
    have HGL : Hid ((Gate.zZ s ms k).length <= 6) := by have := Gate.zd8 s ms k; show _ <= _; omega
    clear hown hbox hB
    by_cases hlt : k < s.fs.length
    · have hltI : (k : Int) < (s.fs.length : Int) := by omega
      go_wp2_with fail
      clear hXr
      obtain ⟨wo, hwo⟩ : ∃ wo, wo = wr := ⟨_, rfl⟩
      have HWO : Hid (wo.ownsRow (w.heap.size + 1) 9 1 (.slice va (Gate.zZ s ms k).length vcap) (Gate.zZ s ms k).length ((Gate.zZ s ms k).map Value.string) /\ wo.heap[w.heap.size]? = some (.cells #[.string s.kd, .slice fa s.fs.length fcap] 123) /\ Below w.heap.size w wo /\ w.heap.size < wo.heap.size) := by rw [hwo]; exact ⟨HW.out.1, HW.out.2.1, HW.out.2.2, hzr⟩
      have HWE := hid hwo
      clear hwo HW hzr
      go_loopw [5, 7] (fun v1 iv wq => ∃ i : Nat, i <= s.fs.length /\ iv = .int .i64 i /\ v1 = .slice va (Gate.zZ s ms k).length vcap /\ (∀ q, q < i -> Gate.qQ s ms (Gate.zZ s ms k) q = false) /\ Below wo.heap.size wo wq) (fun _ iv _ => s.fs.length - (intOf iv).toNat)
      case atStart => exact ⟨0, Nat.zero_le _, rfl, rfl, fun q h => absurd h (by omega), by rw [HWE.out]; exact Below.refl _ _⟩
      case round =>
        obtain ⟨i, hi, rfl, rfl, hno, hBq⟩ := hrel
        have HQ := zoB hno hBq (yA HWO.out.1 hBq) ((hBq.block _ HWO.out.2.2.2).trans HWO.out.2.1) (HWO.out.2.2.1.trans (hBq.mono HWO.out.2.2.1.size))
        have hXq := za6 HQ.out.2.2.2.1
        have hzq := (Array.getElem?_eq_some_iff.1 HQ.out.2.2.2.1).1
        clear hno hBq
        by_cases hil : i < s.fs.length
        · have hilI : (i : Int) < (s.fs.length : Int) := by omega
          obtain ⟨fb, foff, rfl, hfb, hr⟩ := HM.out.1.rows (by intro e; rw [e] at hil; simp at hil)
          obtain ⟨wa, wcap, hf0⟩ := hr i hil
          obtain ⟨c0, c1, c2, c3, c4, c5, c6, c7, c8, c9, c10⟩ := (hf0.mono hfb HQ.out.2.2.2.2).load
          have HNM : Hid (Gate.zaJ s i = s.fs[i].nm) := by unfold Hid Gate.zaJ; rw [Gate.getD_at _ _ _ hil]
          have HST := hid (zlc HQ.out.2.2.1 (by have := HGL.out; unfold maxLen; omega) (HSM.out k))
          have HFIND : Hid (Gate.qQ s ms (Gate.zZ s ms k) i = true -> Gate.zZ s ms (k + 1) = Gate.zZ s ms k ++ [s.fs[i].nm]) := by
            intro h
            show Gate.zdS s ms (Gate.zZ s ms k) = _
            unfold Gate.zdS
            have : (List.range s.fs.length).find? (Gate.qQ s ms (Gate.zZ s ms k)) = some i := by
              rw [List.find?_range_eq_some]
              exact ⟨h, List.mem_range.2 hil, fun j hj => by rw [HQ.out.1 j hj]; rfl⟩
            rw [this]
            show Gate.zZ s ms k ++ [Gate.zaJ s i] = _
            rw [HNM.out]
          clear hr hf0 c1 c2 c3 c4 c5 c6 c7 c8 c9 c10
          go_wp2_with fail
          have h := zb2 va vcap (Gate.zZ s ms k) s.fs[i].nm wr HST.out
          rcases hh : Gate.has (Gate.zZ s ms k) s.fs[i].nm with _ | _
          rotate_left
          · rw [hh] at h
            refine h.mono ?_
            rintro e w3 ⟨rfl, rfl⟩
            have HNR : Hid (∀ q, q < i + 1 -> Gate.qQ s ms (Gate.zZ s ms k) q = false) := by
              intro q hq
              rcases Nat.lt_or_ge q i with h1 | h1
              · exact HQ.out.1 q h1
              · have e : q = i := by omega
                subst e; unfold Gate.qQ; rw [HNM.out, hh]; rfl
            clear h hh
            go_wp2_with fail
            exact ⟨⟨i + 1, by omega, by go_num, rfl, HNR.out, HQ.out.2.1⟩, zi hil⟩
          rw [hh] at h
          refine h.mono ?_
          rintro e w3' ⟨rfl, hw3⟩
          rw [hw3]
          clear hw3 w3'
          have HRN : Hid (Gate.qQ s ms (Gate.zZ s ms k) i = Gate.zbU ms s.kd s.fs[i].nm (Gate.zZ s ms k)) := by unfold Hid Gate.qQ; rw [HNM.out, hh]; rfl
          clear h hh
          go_wp2_with fail
          have h := zmd ma va mcap vcap ms s.kd s.fs[i].nm (Gate.zZ s ms k) wr (HM.out.2.mono HQ.out.2.2.2.2) HST.out hml
          rcases hh : Gate.zbU ms s.kd s.fs[i].nm (Gate.zZ s ms k) with _ | _
          · rw [hh] at h
            refine h.mono ?_
            rintro e w3 ⟨rfl, hb3⟩
            have HNR : Hid ((∀ q, q < i + 1 -> Gate.qQ s ms (Gate.zZ s ms k) q = false) /\ Below wo.heap.size wo w3) := by
              refine ⟨fun q hq => ?_, HQ.out.2.1.trans (hb3.mono HQ.out.2.1.size)⟩
              rcases Nat.lt_or_ge q i with h1 | h1
              · exact HQ.out.1 q h1
              · have e : q = i := by omega
                subst e; rw [HRN.out, hh]
            clear h hh hb3
            go_wp2_with fail
            exact ⟨⟨i + 1, by omega, by go_num, rfl, HNR.out.1, HNR.out.2⟩, zi hil⟩
          rw [hh] at h
          refine h.mono ?_
          rintro e w3 ⟨rfl, hb3⟩
          have HG1 := hid (HFIND.out (by rw [HRN.out, hh]))
          have H3 := zia (yA HQ.out.2.2.1 hb3) ((hb3.block _ hzq).trans HQ.out.2.2.2.1) (HQ.out.2.2.2.2.trans (hb3.mono HQ.out.2.2.2.2.size)) (Nat.lt_of_lt_of_le hzq hb3.size)
          clear h hh hb3 hXq c0
          go_wp2_with (at_builtin; refine zga ?_)
          show wpList _ _ _ _ _ _
          refine wpList_append_own _ rfl (.tmp 42) (.tmp 44) 102 rfl (w.heap.size + 1) 9 i0 (.string ByteArray.empty) 1 16 Tryz.underlying102 hi0 hz0 hz1' hz2 rfl (by decide) (.slice va (Gate.zZ s ms k).length vcap) _ _ rfl (H3.out.1.alloc _) ⟨w3.heap.size, 0, none⟩ 1 1 [.string s.fs[i].nm] rfl rfl (zbI _ _ _) (by intro u hu; simp at hu; subst hu; rfl) (by have := HGL.out; unfold maxLen; omega) (by have := HGL.out; omega) (by have := H3.out.2.2.2; simp; omega) ?_
          intro v' w4 hown' hgr _
          obtain ⟨va', vcap', rfl⟩ := yE hown'
          have hgb : ∀ g, (Value.slice va (Gate.zZ s ms k).length vcap).ownBlock = some g -> w.heap.size + 1 <= g := fun g hg => (H3.out.1.lt g hg).1
          have HY : Hid (w4.ownsRow (w.heap.size + 1) 9 1 (.slice va' ((Gate.zZ s ms k).length + 1) vcap') (Gate.zZ s ms (k + 1)).length ((Gate.zZ s ms (k + 1)).map Value.string) /\ w4.heap[w.heap.size]? = some (.cells #[.string s.kd, .slice (some ⟨fb, foff, none⟩) s.fs.length fcap] 123) /\ Below w.heap.size w w4) := by
            refine ⟨by rw [HG1.out, List.length_append, List.map_append]; exact hown', ?_, zam H3.out.2.2.1 H3.out.2.2.1.size hgr (fun g hg => by have := hgb g hg; omega)⟩
            exact (zan hgr (by have := H3.out.2.2.2; simp; omega) (fun g hg => by have := hgb g hg; omega)).trans ((Below.heap_alloc _ _ _ H3.out.2.2.2).trans H3.out.2.1)
          clear hown' hgr hgb
          go_wp2_with fail
          exact ⟨⟨k + 1, _, rfl, by omega, by go_num, HY.out.1, HY.out.2.1, HY.out.2.2⟩, zi hlt⟩
        · have e : i = s.fs.length := by omega
          have HN : Hid (Gate.zZ s ms (k + 1) = Gate.zZ s ms k) := by
            show Gate.zdS s ms (Gate.zZ s ms k) = _
            unfold Gate.zdS
            have : (List.range s.fs.length).find? (Gate.qQ s ms (Gate.zZ s ms k)) = none := by
              rw [List.find?_eq_none]
              intro q hq
              rw [HQ.out.1 q (by rw [e]; exact List.mem_range.1 hq)]
              simp
            rw [this]
          subst e
          go_wp2_with fail
          exact ⟨⟨k + 1, _, rfl, by omega, by go_num, by rw [HN.out]; exact HQ.out.2.2.1, HQ.out.2.2.2.1, HQ.out.2.2.2.2⟩, zi hlt⟩
    · have e : k = s.fs.length := by omega
      subst e
      go_wp2_with fail
      go_ret
      exact ⟨_, rfl, jo HW.out.1 (by omega), HW.out.2.2⟩
end Go.Proofs.YtfpeplbmfbepcaaGreat

namespace Go.Proofs.YtfpeplbmfbepcaaGreat
open Go.RowKit
set_option maxRecDepth 20000 in
set_option maxHeartbeats 4000000 in
theorem zdG (a a' : Option Addr) (cap cap' : Nat) (ss : List Shp) (ms : List Mnd) (w : World) (hw : yI w a ss) (hm : qy w a' ms) (hml : ms.length <= 1048576) :
    Calls Tryz.prog 107 #[.slice a ss.length cap, .slice a' ms.length cap'] w fun e w' => e = .returned (.bool (Gate.yc ss ms)) /\ Below w.heap.size w w' := by
  have HW := qJ hw hm
  have hl := hw.len
  unfold maxLen at hl
  clear hw hm
  by_cases h12 : ms.length <= 12
  rotate_left
  · have HF : Hid (Gate.yc ss ms = false) := by unfold Hid Gate.yc; rw [decide_eq_false h12]; simp
    go_enter Tryz.func107, Tryz.ntmps107
    go_wp2_with fail
    go_ret
    exact ⟨by rw [HF.out]; rfl, Below.refl _ _⟩
  have h12I : (ms.length : Int) <= 12 := by omega
  by_cases hok : Gate.zJ ss = true
  rotate_left
  · have hokf : Gate.zJ ss = false := by simpa using hok
    have HF : Hid (Gate.yc ss ms = false) := by unfold Hid Gate.yc; rw [hokf]; simp
    go_enter Tryz.func107, Tryz.ntmps107
    go_wp2_with fail
    have h := zcZ a cap ss w HW.out.1
    rw [hokf] at h
    refine h.mono ?_
    rintro e w1 ⟨rfl, hb1⟩
    clear h
    go_wp2_with fail
    go_ret
    exact ⟨by rw [HF.out]; rfl, hb1⟩
  have HOK := hid hok
  go_enter Tryz.func107, Tryz.ntmps107
  go_wp2_with fail
  have h := zcZ a cap ss w HW.out.1
  rw [hok] at h
  refine h.mono ?_
  rintro e w1 ⟨rfl, hb1⟩
  have HB1 := hid hb1
  clear h hb1 hok
  go_wp2_with fail
  refine (zb8 _).mono ?_
  rintro e w2 ⟨rfl, hw2⟩
  have HB2 : Hid (Below w.heap.size w w2 /\ w2.heap[w1.heap.size]? = some (.map qI 4) /\ w1.heap.size < w2.heap.size) := by
    rw [hw2]; exact ⟨HB1.out.trans (((Below.refl _ _).alloc (Nat.le_refl _) _).mono HB1.out.size), alloc_at _ _, by simp⟩
  clear hw2
  go_wp2_with fail
  go_loopw [25] (fun iv wr => ∃ k : Nat, k <= ms.length /\ iv = .int .i64 k /\ (ms.take k).all (Gate.jD ss) = true /\ Below w2.heap.size w2 wr) (fun iv _ => ms.length - (intOf iv).toNat)
  case atStart => exact ⟨0, Nat.zero_le _, rfl, rfl, Below.refl _ _⟩
  case round =>
    obtain ⟨k, hk, rfl, hall, hB⟩ := hrel
    have HB := qJ hB (HB2.out.1.trans (hB.mono HB2.out.1.size))
    have HA := hid hall
    clear hall hB
    by_cases hlt : k < ms.length
    · obtain ⟨b, off, rfl, hb, c0, c1, c2, c3, c4, c5⟩ := HW.out.2.load HB.out.2 k hlt
      have hltI : (k : Int) < (ms.length : Int) := by omega
      have hsm := HW.out.2.small k hlt
      have HTK : Hid ((ms.take (k + 1)).all (Gate.jD ss) = Gate.jD ss ms[k]) := by
        unfold Hid; rw [List.take_succ_eq_append_getElem hlt, List.all_append, HA.out]; simp
      have HNO : Hid (Gate.jD ss ms[k] = false -> Gate.yc ss ms = false) := by
        intro h
        have : ms.all (Gate.jD ss) = false := by rw [List.all_eq_false]; exact ⟨_, List.getElem_mem hlt, by rw [h]; simp⟩
        unfold Gate.yc; rw [this]; simp
      have hba := (Below.refl wr.heap.size wr).alloc (Nat.le_refl _) (.cells #[.string ms[k].kd, .string ms[k].fd, .string ms[k].wh, .string ms[k].wi, .string ms[k].pt, .string ms[k].fr] 125)
      have HSM := hid hsm
      clear hsm
      go_wp2_with fail
      have h := qC a cap ss ms[k].kd _ (HW.out.1.mono (HB.out.2.trans (hba.mono HB.out.2.size)))
      by_cases hkk : Gate.zC ss ms[k].kd = true
      rotate_left
      · have hkf : Gate.zC ss ms[k].kd = false := by simpa using hkk
        rw [hkf] at h
        refine h.mono ?_
        rintro e w3 ⟨fa, fcap, rfl, hfl, hb3⟩
        have HF := qJ (HNO.out (by unfold Gate.jD; rw [hkf]; rfl)) (HB.out.2.trans ((hba.trans (hb3.mono hba.size)).mono HB.out.2.size))
        clear h hba hfl hb3 c0 c1 c2 c3 c4 c5
        go_wp2_with fail
        go_ret
        exact ⟨by rw [HF.out.1]; rfl, HF.out.2.alloc HF.out.2.size _⟩
      rw [hkk] at h
      refine h.mono ?_
      rintro e w3 ⟨fa, fcap, rfl, hfl, hb3⟩
      have hX3 := za (zG wr _ _) (by simp) hb3
      have hz3 : wr.heap.size < w3.heap.size := by have := hb3.size; simp at this; omega
      have HB3 := hid (hba.trans (hb3.mono hba.size))
      have hbs := (Below.refl w3.heap.size w3).alloc (Nat.le_refl _) (.cells #[.string (Gate.shapeOf ss ms[k].kd).kd, .slice fa (Gate.shapeOf ss ms[k].kd).fs.length fcap] 123)
      have HB4 := hid (HB3.out.trans (hbs.mono HB3.out.size))
      have HFL := hid ((hfl.mono hb3).mono hbs)
      have HMA : Hid (Gate.jD ss ms[k] = Gate.zaC (Gate.shapeOf ss ms[k].kd).fs ms[k]) := by unfold Hid Gate.jD; rw [hkk]; simp
      have HRM : Hid ((w3.alloc (.cells #[.string (Gate.shapeOf ss ms[k].kd).kd, .slice fa (Gate.shapeOf ss ms[k].kd).fs.length fcap] 123)).heap[w1.heap.size]? = some (.map qI 4)) := by
        have h1 := HB.out.1.size
        have h2 := HB2.out.2.2
        exact (HB4.out.block w1.heap.size (by omega)).trans ((HB.out.1.block w1.heap.size h2).trans HB2.out.2.1)
      clear h hba hfl hb3 hbs hkk c0 c1 c2 c3 c4 c5
      go_wp2_with fail
      have h := znC w1.heap.size fa fcap (Gate.shapeOf ss ms[k].kd).fs ms[k] _ HRM.out HFL.out HSM.out
      by_cases hmo : Gate.zaC (Gate.shapeOf ss ms[k].kd).fs ms[k] = true
      · rw [hmo] at h
        refine h.mono ?_
        rintro e w5 ⟨rfl, hb5⟩
        have HY : Hid ((ms.take (k + 1)).all (Gate.jD ss) = true /\ Below w2.heap.size w2 w5) := ⟨by rw [HTK.out, HMA.out]; exact hmo, HB.out.1.trans ((HB4.out.trans (hb5.mono HB4.out.size)).mono HB.out.1.size)⟩
        clear h hb5 hmo hX3
        go_wp2_with fail
        exact ⟨⟨k + 1, by omega, by go_num, HY.out.1, HY.out.2⟩, zi hlt⟩
      · have hmf : Gate.zaC (Gate.shapeOf ss ms[k].kd).fs ms[k] = false := by simpa using hmo
        rw [hmf] at h
        refine h.mono ?_
        rintro e w5 ⟨rfl, hb5⟩
        have HF := qJ (HNO.out (by rw [HMA.out]; exact hmf)) (HB.out.2.trans ((HB4.out.trans (hb5.mono HB4.out.size)).mono HB.out.2.size))
        clear h hb5 hmo hX3
        go_wp2_with fail
        go_ret
        exact ⟨by rw [HF.out.1]; rfl, HF.out.2⟩
    · have e : k = ms.length := by omega
      have hall := HA.out
      rw [e, List.take_of_length_le (Nat.le_refl _)] at hall
      have HALL := hid hall
      subst e
      clear hall HA
      go_wp2_with fail
      have HBw := hid HB.out.2
      clear HB
      go_loopw [49] (fun iv wq => ∃ k : Nat, k <= ss.length /\ iv = .int .i64 k /\ (ss.take k).all (Gate.rowOk ms) = true /\ Below w.heap.size w wq) (fun iv _ => ss.length - (intOf iv).toNat)
      case atStart => exact ⟨0, Nat.zero_le _, rfl, rfl, HBw.out⟩
      case round =>
        obtain ⟨k, hk, rfl, hall, hB⟩ := hrel
        have HB := hid hB
        have HA := hid hall
        clear hall hB
        by_cases hlt : k < ss.length
        · obtain ⟨b, off, rfl, hb, hr⟩ := HW.out.1.rows (by rintro rfl; simp at hlt)
          obtain ⟨fa, fcap, hs0⟩ := hr k hlt
          have hs := hs0.mono hb HB.out
          have hck := hs.kind
          have hcl := hs.list
          have hfl := hs.zcE
          have hltI : (k : Int) < (ss.length : Int) := by omega
          have HTK : Hid ((ss.take (k + 1)).all (Gate.rowOk ms) = Gate.rowOk ms ss[k]) := by
            unfold Hid; rw [List.take_succ_eq_append_getElem hlt, List.all_append, HA.out]; simp
          have HNO : Hid (Gate.rowOk ms ss[k] = false -> Gate.yc ss ms = false) := by
            intro h
            have : ss.all (Gate.rowOk ms) = false := by rw [List.all_eq_false]; exact ⟨_, List.getElem_mem hlt, by rw [h]; simp⟩
            unfold Gate.yc; rw [this]; simp
          have hba := (Below.refl wr.heap.size wr).alloc (Nat.le_refl _) (.cells #[.string ss[k].kd, .slice fa ss[k].fs.length fcap] 123)
          have HFL := hid (hfl.mono hba)
          have HBA : Hid (Below w.heap.size w (wr.alloc (.cells #[.string ss[k].kd, .slice fa ss[k].fs.length fcap] 123))) := HB.out.trans (hba.mono HB.out.size)
          clear hr hs0 hs hfl hba
          go_wp2_with fail
          have h := zgN ss[k] ms a' fa cap' fcap _ (HW.out.2.mono HBA.out) HFL.out hml (Gate.zeV HOK.out k hlt) (Gate.ziP HOK.out HALL.out k hlt)
          by_cases hrk : Gate.rowOk ms ss[k] = true
          · have hrk' : (Gate.zD (Gate.zk ss[k] ms) ss[k].fs.length).1 = true := hrk
            refine h.mono ?_
            rintro e w5 ⟨v5, rfl, hb5, _⟩
            have HY : Hid ((ss.take (k + 1)).all (Gate.rowOk ms) = true /\ Below w.heap.size w w5) := ⟨by rw [HTK.out]; exact hrk, HBA.out.trans (hb5.mono HBA.out.size)⟩
            rw [hrk']
            clear h hb5 hrk hrk' hck hcl
            go_wp2_with fail
            exact ⟨⟨k + 1, by omega, by go_num, HY.out.1, HY.out.2⟩, zi hlt⟩
          · have hrf : Gate.rowOk ms ss[k] = false := by simpa using hrk
            have hrk' : (Gate.zD (Gate.zk ss[k] ms) ss[k].fs.length).1 = false := hrf
            refine h.mono ?_
            rintro e w5 ⟨v5, rfl, hb5, _⟩
            have HF : Hid (Gate.yc ss ms = false /\ Below w.heap.size w w5) := ⟨HNO.out hrf, HBA.out.trans (hb5.mono HBA.out.size)⟩
            rw [hrk']
            clear h hb5 hrk hrk' hck hcl
            go_wp2_with fail
            go_ret
            exact ⟨by rw [HF.out.1]; rfl, HF.out.2⟩
        · have e : k = ss.length := by omega
          have hall := HA.out
          rw [e, List.take_of_length_le (Nat.le_refl _)] at hall
          have HF : Hid (Gate.yc ss ms = true) := by unfold Hid Gate.yc; rw [HALL.out, HOK.out, hall, decide_eq_true h12]; rfl
          subst e
          clear hall HA
          go_wp2_with fail
          go_ret
          exact ⟨by rw [HF.out]; rfl, HB.out⟩
end Go.Proofs.YtfpeplbmfbepcaaGreat

namespace Go.Proofs.YtfpeplbmfbepcaaGreat
open Go.RowKit
namespace Gate
theorem zez {α : Type} {key : α -> α -> Int} {ms : List α} {k : Nat} (h : zaB key ms k) (hk : k < ms.length) (hn : ∀ m (e : k = m + 1), key (ms[m]'(by omega)) ms[k] < 0) : zaB key ms (k + 1) := by
  intro i hi hik
  rcases Nat.lt_or_ge (i + 1) k with hlt | hge
  · exact h i hi hlt
  · have e : k = i + 1 := by omega
    subst e
    exact hn i rfl
theorem zh1 {α : Type} {key : α -> α -> Int} {ms : List α} {k : Nat} (hk : k < ms.length) (h : ∀ h0 : 0 < k, key (ms[k - 1]'(by omega)) ms[k] < 0) : ∀ m (e : k = m + 1), key (ms[m]'(by omega)) ms[k] < 0 := by
  intro m e; subst e; exact h (by omega)
theorem zff {α : Type} {key : α -> α -> Int} {ms : List α} {k : Nat} (h : zaB key ms k) (hk : ms.length <= k) : zbs key ms = true := by
  rw [zh9]; exact fun i hi => h i hi (by omega)
theorem zdr {α : Type} {key : α -> α -> Int} {ms : List α} {k : Nat} (hk : k < ms.length) (h0 : 0 < k) (hn : ¬ key (ms[k - 1]'(by omega)) ms[k] < 0) : zbs key ms = false := by
  obtain ⟨m, rfl⟩ : ∃ m, k = m + 1 := ⟨k - 1, by omega⟩
  exact zfL hk hn
end Gate
end Go.Proofs.YtfpeplbmfbepcaaGreat

namespace Go.Proofs.YtfpeplbmfbepcaaGreat
open Go.RowKit
set_option maxHeartbeats 4000000 in
theorem zle (l : Lw) (la lb lc : Option Addr) (lca lcb lcc : Nat) (b : Bk) (a0 a1 a2 a3 : Option Addr) (c0 c1 c2 c3 : Nat) (team res : ByteArray) (w : World) (hl : qB w l la lb lc) (hb : y9 w b a0 a1 a2 a3) (hz : yZ b.os <= 1048576) :
    Calls Tryz.prog 101 #[.agg (l.cells la lb lc lca lcb lcc), .agg (b.cells a0 a1 a2 a3 c0 c1 c2 c3), .string team, .string res] w fun e w' => e = .returned (.int .i64 (Gate.used l b.os team res)) /\ Below w.heap.size w w' := by
  have HL : Hid (qB w l la lb lc) := hl
  have HK : Hid (y9 w b a0 a1 a2 a3) := hb
  have HZ : Hid (yZ b.os <= 1048576 /\ b.os.length <= 1048576) := ⟨hz, by unfold yZ at hz; omega⟩
  clear hl hb hz
  unfold Lw.cells Bk.cells
  go_enter Tryz.func101, Tryz.ntmps101
  go_wp2_with fail
  obtain ⟨hX0, hY0⟩ := yP w (lC l la lb lc lca lcb lcc) (bC b a0 a1 a2 a3 c0 c1 c2 c3) 41 48
  have HB0 : Hid (Below w.heap.size w ((w.alloc (.cells (lC l la lb lc lca lcb lcc) 41)).alloc (.cells (bC b a0 a1 a2 a3 c0 c1 c2 c3) 48))) := zn w _ _
  obtain ⟨W0, hW0⟩ : ∃ W0, W0 = (w.alloc (.cells (lC l la lb lc lca lcb lcc) 41)).alloc (.cells (bC b a0 a1 a2 a3 c0 c1 c2 c3) 48) := ⟨_, rfl⟩
  have hz0 : w.heap.size + 1 < W0.heap.size := by rw [hW0]; simp
  rw [<- hW0] at HB0 hX0 hY0 ⊢
  clear hW0
  go_loopw [9, 10] (fun nv iv wr => ∃ (k : Nat) (s : Int), k <= b.os.length /\ iv = .int .i64 k /\ nv = .int .i64 s /\ Hid (s = Gate.zak l b.os team res k /\ Below W0.heap.size W0 wr)) (fun _ iv _ => b.os.length - (intOf iv).toNat)
  case atStart => exact ⟨0, 0, Nat.zero_le _, rfl, rfl, by simp [Gate.zak], Below.refl _ _⟩
  case round =>
    obtain ⟨k, s, hk, rfl, rfl, HQ⟩ := hrel
    have hsb : 0 <= s /\ s <= 20000000000000 := by
      have h1 := HQ.out.1; have h2 := Gate.zbD l b.os team res k hk; have h3 := HZ.out
      have h4 : zaI (b.os.take k) <= zaI b.os := zce Ob.sz b.os k
      unfold yZ at h3
      omega
    have hX := za hX0 (Nat.lt_of_succ_lt hz0) HQ.out.2
    have hY := za hY0 hz0 HQ.out.2
    have hz := Nat.lt_of_lt_of_le hz0 HQ.out.2.size
    have hzX := Nat.lt_of_succ_lt hz
    have hkn : k <= 1048576 := by have := HZ.out.2; omega
    by_cases hlt : k < b.os.length
    · obtain ⟨ob, off, v0, v1, q0, q1, rfl, hob, hsm, hl0, hl1, d0, d1, d2, d3, d4, d5, d6⟩ := HK.out.os.load (HB0.out.trans (HQ.out.2.mono HB0.out.size)) k hlt
      have hob' := Nat.lt_of_lt_of_le hob (HB0.out.trans (HQ.out.2.mono HB0.out.size)).size
      have hltI : (k : Int) < (b.os.length : Int) := by omega
      have HSt : Hid (Gate.zak l b.os team res (k + 1) = Gate.zak l b.os team res k + Gate.zbq l team res b.os[k]) := Gate.ze3 l b.os team res k hlt
      have HOo : Hid (qR wr b.os[k] v0 v1) := ⟨hsm, hl0, hl1⟩
      have HOl : Hid (b.os[k].vs.length <= 1048576) := by
        have h3 := HZ.out.1
        have := (zkZ (left := 1048576) (ms := b.os) (by omega) (by omega)).2 k hlt
        exact this.1
      have hwb := Gate.zfU l.ss b.os[k] res HOl.out
      have HBr : Hid (Below w.heap.size w wr) := HB0.out.trans (HQ.out.2.mono HB0.out.size)
      clear hsm hl0 hl1
      go_wp2_with fail
      have HS : Hid ((∀ j, wr.cell? ⟨w.heap.size, j, none⟩ = (lC l la lb lc lca lcb lcc)[j]?) /\ (∀ j, wr.cell? ⟨w.heap.size + 1, j, none⟩ = (bC b (some ⟨ob, off, none⟩) a1 a2 a3 c0 c1 c2 c3)[j]?) /\ wr.cell? ⟨ob, off + k * 7, none⟩ = some (.string b.os[k].kd) /\ wr.cell? ⟨ob, off + k * 7 + 1, none⟩ = some (.string b.os[k].nm) /\ wr.cell? ⟨ob, off + k * 7 + 2, none⟩ = some (.string b.os[k].tm) /\ wr.cell? ⟨ob, off + k * 7 + 3, none⟩ = some (.slice v0 b.os[k].vs.length q0) /\ wr.cell? ⟨ob, off + k * 7 + 4, none⟩ = some (.bool b.os[k].en) /\ wr.cell? ⟨ob, off + k * 7 + 5, none⟩ = some (.slice v1 b.os[k].hs.length q1) /\ wr.cell? ⟨ob, off + k * 7 + 6, none⟩ = some (.int .i64 b.os[k].vr)) := ⟨hX, hY, d0, d1, d2, d3, d4, d5, d6⟩
      have hS : (∀ j, wr.drew.cell? ⟨w.heap.size, j, none⟩ = (lC l la lb lc lca lcb lcc)[j]?) /\ (∀ j, wr.drew.cell? ⟨w.heap.size + 1, j, none⟩ = (bC b (some ⟨ob, off, none⟩) a1 a2 a3 c0 c1 c2 c3)[j]?) /\ wr.drew.cell? ⟨ob, off + k * 7, none⟩ = some (.string b.os[k].kd) /\ wr.drew.cell? ⟨ob, off + k * 7 + 1, none⟩ = some (.string b.os[k].nm) /\ wr.drew.cell? ⟨ob, off + k * 7 + 2, none⟩ = some (.string b.os[k].tm) /\ wr.drew.cell? ⟨ob, off + k * 7 + 3, none⟩ = some (.slice v0 b.os[k].vs.length q0) /\ wr.drew.cell? ⟨ob, off + k * 7 + 4, none⟩ = some (.bool b.os[k].en) /\ wr.drew.cell? ⟨ob, off + k * 7 + 5, none⟩ = some (.slice v1 b.os[k].hs.length q1) /\ wr.drew.cell? ⟨ob, off + k * 7 + 6, none⟩ = some (.int .i64 b.os[k].vr) := HS.out
      clear hX hY d0 d1 d2 d3 d4 d5 d6
      go_region_held3 (fun w' => (∀ j, w'.cell? ⟨w.heap.size, j, none⟩ = (lC l la lb lc lca lcb lcc)[j]?) /\ (∀ j, w'.cell? ⟨w.heap.size + 1, j, none⟩ = (bC b (some ⟨ob, off, none⟩) a1 a2 a3 c0 c1 c2 c3)[j]?) /\ w'.cell? ⟨ob, off + k * 7, none⟩ = some (.string b.os[k].kd) /\ w'.cell? ⟨ob, off + k * 7 + 1, none⟩ = some (.string b.os[k].nm) /\ w'.cell? ⟨ob, off + k * 7 + 2, none⟩ = some (.string b.os[k].tm) /\ w'.cell? ⟨ob, off + k * 7 + 3, none⟩ = some (.slice v0 b.os[k].vs.length q0) /\ w'.cell? ⟨ob, off + k * 7 + 4, none⟩ = some (.bool b.os[k].en) /\ w'.cell? ⟨ob, off + k * 7 + 5, none⟩ = some (.slice v1 b.os[k].hs.length q1) /\ w'.cell? ⟨ob, off + k * 7 + 6, none⟩ = some (.int .i64 b.os[k].vr)) (exact hS) (first | (go_at_call 136; refine (zjC _ _ l.ts b.os[k].tm team _ (by exact HL.out.ts.mono HBr.out.drew)).mono ?_; rintro e w1 ⟨rfl, rfl⟩))
      obtain ⟨w2, hw2⟩ : ∃ w2, w2 = wr.drew := ⟨_, rfl⟩
      have hB2 : Below W0.heap.size W0 w2 := by rw [hw2]; exact HQ.out.2.drew
      have HBr2 : Hid (Below w.heap.size w w2) := by unfold Hid; rw [hw2]; exact HBr.out.drew
      have HO2 : Hid (qR w2 b.os[k] v0 v1) := by unfold Hid; rw [hw2]; exact HOo.out.mono (Below.refl _ _).drew
      have hS2 : (∀ j, w2.cell? ⟨w.heap.size, j, none⟩ = (lC l la lb lc lca lcb lcc)[j]?) /\ (∀ j, w2.cell? ⟨w.heap.size + 1, j, none⟩ = (bC b (some ⟨ob, off, none⟩) a1 a2 a3 c0 c1 c2 c3)[j]?) /\ w2.cell? ⟨ob, off + k * 7, none⟩ = some (.string b.os[k].kd) /\ w2.cell? ⟨ob, off + k * 7 + 1, none⟩ = some (.string b.os[k].nm) /\ w2.cell? ⟨ob, off + k * 7 + 2, none⟩ = some (.string b.os[k].tm) /\ w2.cell? ⟨ob, off + k * 7 + 3, none⟩ = some (.slice v0 b.os[k].vs.length q0) /\ w2.cell? ⟨ob, off + k * 7 + 4, none⟩ = some (.bool b.os[k].en) /\ w2.cell? ⟨ob, off + k * 7 + 5, none⟩ = some (.slice v1 b.os[k].hs.length q1) /\ w2.cell? ⟨ob, off + k * 7 + 6, none⟩ = some (.int .i64 b.os[k].vr) := by rw [hw2]; exact hS
      have hz2 : w.heap.size + 1 < w2.heap.size := by rw [hw2]; exact hz
      have hzX2 := Nat.lt_of_succ_lt hz2
      have hob2 : ob < w2.heap.size := by rw [hw2]; exact hob'
      have HB2 : Hid (Below W0.heap.size W0 w2) := hB2
      rw [<- hw2]
      clear hw2 hS HS hB2 hz hzX hob'
      by_cases hu : Gate.under l.ts 4 b.os[k].tm team = true
      · have HU : Hid (Gate.zbq l team res b.os[k] = Gate.qp l.ss b.os[k] res) := by unfold Hid Gate.zbq; rw [if_pos hu]
        rw [hu]
        clear hu
        have hS : (∀ j, w2.drew.cell? ⟨w.heap.size, j, none⟩ = (lC l la lb lc lca lcb lcc)[j]?) /\ (∀ j, w2.drew.cell? ⟨w.heap.size + 1, j, none⟩ = (bC b (some ⟨ob, off, none⟩) a1 a2 a3 c0 c1 c2 c3)[j]?) /\ w2.drew.cell? ⟨ob, off + k * 7, none⟩ = some (.string b.os[k].kd) /\ w2.drew.cell? ⟨ob, off + k * 7 + 1, none⟩ = some (.string b.os[k].nm) /\ w2.drew.cell? ⟨ob, off + k * 7 + 2, none⟩ = some (.string b.os[k].tm) /\ w2.drew.cell? ⟨ob, off + k * 7 + 3, none⟩ = some (.slice v0 b.os[k].vs.length q0) /\ w2.drew.cell? ⟨ob, off + k * 7 + 4, none⟩ = some (.bool b.os[k].en) /\ w2.drew.cell? ⟨ob, off + k * 7 + 5, none⟩ = some (.slice v1 b.os[k].hs.length q1) /\ w2.drew.cell? ⟨ob, off + k * 7 + 6, none⟩ = some (.int .i64 b.os[k].vr) := hS2
        clear hS2
        go_wp2_with fail
        go_region_held3 (fun w' => (∀ j, w'.cell? ⟨w.heap.size, j, none⟩ = (lC l la lb lc lca lcb lcc)[j]?) /\ (∀ j, w'.cell? ⟨w.heap.size + 1, j, none⟩ = (bC b (some ⟨ob, off, none⟩) a1 a2 a3 c0 c1 c2 c3)[j]?) /\ w'.cell? ⟨ob, off + k * 7, none⟩ = some (.string b.os[k].kd) /\ w'.cell? ⟨ob, off + k * 7 + 1, none⟩ = some (.string b.os[k].nm) /\ w'.cell? ⟨ob, off + k * 7 + 2, none⟩ = some (.string b.os[k].tm) /\ w'.cell? ⟨ob, off + k * 7 + 3, none⟩ = some (.slice v0 b.os[k].vs.length q0) /\ w'.cell? ⟨ob, off + k * 7 + 4, none⟩ = some (.bool b.os[k].en) /\ w'.cell? ⟨ob, off + k * 7 + 5, none⟩ = some (.slice v1 b.os[k].hs.length q1) /\ w'.cell? ⟨ob, off + k * 7 + 6, none⟩ = some (.int .i64 b.os[k].vr)) (exact hS) (first | (go_at_call 137; refine (zjg l _ _ _ _ _ _ b.os[k] _ _ _ _ res _ (by exact HL.out.mono HBr2.out.drew) (by exact HO2.out.mono (Below.refl _ _).drew) HOl.out).mono ?_; rintro e w3 ⟨rfl, hb3⟩; have hS := (⟨za hS.1 hzX2 hb3, za hS.2.1 hz2 hb3, (hb3.cell (p := ⟨ob, _, none⟩) hob2).trans hS.2.2.1, (hb3.cell (p := ⟨ob, _, none⟩) hob2).trans hS.2.2.2.1, (hb3.cell (p := ⟨ob, _, none⟩) hob2).trans hS.2.2.2.2.1, (hb3.cell (p := ⟨ob, _, none⟩) hob2).trans hS.2.2.2.2.2.1, (hb3.cell (p := ⟨ob, _, none⟩) hob2).trans hS.2.2.2.2.2.2.1, (hb3.cell (p := ⟨ob, _, none⟩) hob2).trans hS.2.2.2.2.2.2.2.1, (hb3.cell (p := ⟨ob, _, none⟩) hob2).trans hS.2.2.2.2.2.2.2.2⟩ : _ /\ _ /\ _ /\ _ /\ _ /\ _ /\ _ /\ _ /\ _); have hB3 := HB2.out.drew.trans (hb3.mono HB2.out.drew.size); clear hb3))
        go_wp2_with fail
        refine ⟨⟨k + 1, s + Gate.qp l.ss b.os[k] res, by omega, by go_num, ?_, by rw [HSt.out, HU.out, HQ.out.1], hB3⟩, zi hlt⟩
        have hw : IntKind.i64.wrap (s + Gate.qp l.ss b.os[k] res) = s + Gate.qp l.ss b.os[k] res := by
          rw [IntKind.wrap_i64]
          omega
        rw [hw]
      · have hu' : Gate.under l.ts 4 b.os[k].tm team = false := by simpa using hu
        have HU : Hid (Gate.zbq l team res b.os[k] = 0) := by unfold Hid Gate.zbq; rw [if_neg hu]
        rw [hu']
        clear hu hu'
        go_wp2_with fail
        exact ⟨⟨k + 1, s, by omega, by go_num, rfl, by rw [HSt.out, HU.out, HQ.out.1]; omega, HB2.out⟩, zi hlt⟩
    · have e : k = b.os.length := by omega
      subst e
      have HE : Hid (Gate.used l b.os team res = s) := by unfold Hid Gate.used; rw [HQ.out.1]
      clear hlt hk
      go_wp2_with fail
      go_ret
      exact ⟨zl HE.out.symm, HB0.out.trans (HQ.out.2.mono HB0.out.size)⟩
end Go.Proofs.YtfpeplbmfbepcaaGreat

namespace Go.Proofs.YtfpeplbmfbepcaaGreat
open Go.RowKit
namespace Gate
def yT (ss : List Shp) (o : Ob) : List ByteArray := if zo ss o = true then jN (shapeOf ss o.kd).fs o.vs else o.vs
theorem znS {ss : List Shp} {o : Ob} (h : zJ ss = true) : zh4 ss o = yT ss o := by
  unfold zh4 yT zo
  by_cases h1 : zC ss o.kd = true
  · by_cases h2 : o.vs.length = (shapeOf ss o.kd).fs.length
    · rw [if_pos ⟨h1, h, h2⟩, if_pos (by rw [h1]; simp [h2])]
    · rw [if_neg (fun hh => h2 hh.2.2), if_neg (by rw [h1]; simp [h2])]
  · rw [if_neg (fun hh => h1 hh.1), if_neg (by simp [h1])]
end Gate
set_option maxHeartbeats 1000000 in
theorem zeK (a0 : Option Addr) (cap0 : Nat) (ss : List Shp) (o : Ob) (a a' : Option Addr) (cap cap' : Nat) (w0 w : World) (hw0 : yI w0 a0 ss) (hbb : Below w0.heap.size w0 w) (hc : Gate.zo ss o = true) :
    Calls Tryz.prog 95 #[.slice a0 ss.length cap0, .agg (oC o a a' cap cap')] w fun e w' => ∃ fa fcap, e = .returned (.tuple #[.slice fa (Gate.shapeOf ss o.kd).fs.length fcap, .bool true]) /\ zW w0 fa (Gate.shapeOf ss o.kd).fs /\ Below w.heap.size w w' := by
  unfold Gate.zo at hc
  simp only [Bool.and_eq_true, decide_eq_true_eq] at hc
  have HK := hid hc.1
  have HL := hid hc.2
  clear hc
  have hw := hw0.mono hbb
  have hl := hw.len
  unfold maxLen at hl
  go_enter Tryz.func95, Tryz.ntmps95
  go_wp2_with fail
  refine (za8 _ _ _ _ _ (hw.mono ((Below.refl _ _).alloc (Nat.le_refl _) _)) HK.out).mono ?_
  rintro e w1 ⟨ix, hix, rfl, hsh, rfl⟩
  have HSh := hid hsh
  clear hsh
  obtain ⟨b, off, rfl, hb0, hr⟩ := hw0.rows (by rintro rfl; simp at hix)
  obtain ⟨fa, fcap, hs0⟩ := hr ix hix
  have hs := hs0.mono hb0 hbb
  have hcl := hs.list
  have hfl := hs0.zcE
  have hixI : (ix : Int) < (ss.length : Int) := by omega
  have hix0 : decide ((ix : Int) < 0) = false := by simp
  have hneq : ((ss[ix].fs.length : Int) != (o.vs.length : Int)) = false := by have h1 := HL.out; have h2 := HSh.out; rw [h2] at h1; simp [h1]
  have hbw := Nat.lt_of_lt_of_le hb0 hbb.size
  clear hr hs
  go_wp2_with fail
  go_quiet (fail)
  go_wp2_with fail
  go_ret2
  rw [HSh.out]
  exact ⟨fa, fcap, rfl, hfl, below_drewN ((Below.refl _ _).alloc (Nat.le_refl _) _) _⟩
end Go.Proofs.YtfpeplbmfbepcaaGreat
