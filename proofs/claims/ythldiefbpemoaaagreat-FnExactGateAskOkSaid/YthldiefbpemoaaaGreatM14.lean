import Derived.Test.YthldiefbpemoaaaGreatM09
import Derived.Test.YthldiefbpemoaaaGreatM13
import Derived.Deep.RegionHeld3
import Derived.Test.YthldiefbpemoaaaGreatM12
namespace Go.Proofs.YthldiefbpemoaaaGreat
open Go.RowKit

set_option maxHeartbeats 4000000 in
theorem isUnused_any (x : Ak) (a0 a1 a2 : Option Addr) (c0 c1 c2 : Nat) (w : World) :
    Calls Tryz.prog 54 #[.agg (x.cells a0 a1 a2 c0 c1 c2)] w fun e w' => e = .returned (.bool (Gate.unused x)) ∧ Below w.heap.size w w' := by
  unfold Ak.cells
  have HB : Hid (∀ ob, Below w.heap.size w (w.alloc ob)) := fun ob => (Below.refl _ _).alloc (Nat.le_refl _) _
  by_cases hkd : x.kd.toList.isEmpty = true
  rotate_left
  · have HF : Hid (Gate.unused x = false) := by unfold Hid Gate.unused; simp [hkd]
    have fkd : x.kd.toList.isEmpty = false := by simpa using hkd
    clear hkd 
    go_enter Tryz.func54, Tryz.ntmps54
    go_wp2_with fail
    go_ret
    exact ⟨ret_bool HF.out.symm, HB.out _⟩
  by_cases hnm : x.nm.toList.isEmpty = true
  rotate_left
  · have HF : Hid (Gate.unused x = false) := by unfold Hid Gate.unused; simp [hnm]
    have fkd : x.kd.toList.isEmpty = true := by simpa using hkd
    have fnm : x.nm.toList.isEmpty = false := by simpa using hnm
    clear hnm hkd
    go_enter Tryz.func54, Tryz.ntmps54
    go_wp2_with fail
    go_ret
    exact ⟨ret_bool HF.out.symm, HB.out _⟩
  by_cases htm : x.tm.toList.isEmpty = true
  rotate_left
  · have HF : Hid (Gate.unused x = false) := by unfold Hid Gate.unused; simp [htm]
    have fkd : x.kd.toList.isEmpty = true := by simpa using hkd
    have fnm : x.nm.toList.isEmpty = true := by simpa using hnm
    have ftm : x.tm.toList.isEmpty = false := by simpa using htm
    clear htm hkd hnm
    go_enter Tryz.func54, Tryz.ntmps54
    go_wp2_with fail
    go_ret
    exact ⟨ret_bool HF.out.symm, HB.out _⟩
  by_cases hhd : x.hd.toList.isEmpty = true
  rotate_left
  · have HF : Hid (Gate.unused x = false) := by unfold Hid Gate.unused; simp [hhd]
    have fkd : x.kd.toList.isEmpty = true := by simpa using hkd
    have fnm : x.nm.toList.isEmpty = true := by simpa using hnm
    have ftm : x.tm.toList.isEmpty = true := by simpa using htm
    have fhd : x.hd.toList.isEmpty = false := by simpa using hhd
    clear hhd hkd hnm htm
    go_enter Tryz.func54, Tryz.ntmps54
    go_wp2_with fail
    go_ret
    exact ⟨ret_bool HF.out.symm, HB.out _⟩
  by_cases hto : x.to.toList.isEmpty = true
  rotate_left
  · have HF : Hid (Gate.unused x = false) := by unfold Hid Gate.unused; simp [hto]
    have fkd : x.kd.toList.isEmpty = true := by simpa using hkd
    have fnm : x.nm.toList.isEmpty = true := by simpa using hnm
    have ftm : x.tm.toList.isEmpty = true := by simpa using htm
    have fhd : x.hd.toList.isEmpty = true := by simpa using hhd
    have fto : x.to.toList.isEmpty = false := by simpa using hto
    clear hto hkd hnm htm hhd
    go_enter Tryz.func54, Tryz.ntmps54
    go_wp2_with fail
    go_ret
    exact ⟨ret_bool HF.out.symm, HB.out _⟩
  by_cases hsn : x.sn = 0
  rotate_left
  · have HF : Hid (Gate.unused x = false) := by unfold Hid Gate.unused; simp [hsn]
    have fkd : x.kd.toList.isEmpty = true := by simpa using hkd
    have fnm : x.nm.toList.isEmpty = true := by simpa using hnm
    have ftm : x.tm.toList.isEmpty = true := by simpa using htm
    have fhd : x.hd.toList.isEmpty = true := by simpa using hhd
    have fto : x.to.toList.isEmpty = true := by simpa using hto
    have fsn : (x.sn == 0) = false := by simp [hsn]
    have gsn : (x.sn != 0) = true := by simp [hsn]
    clear hsn hkd hnm htm hhd hto
    go_enter Tryz.func54, Tryz.ntmps54
    go_wp2_with fail
    go_ret
    exact ⟨ret_bool HF.out.symm, HB.out _⟩
  by_cases hno : x.no = 0
  rotate_left
  · have HF : Hid (Gate.unused x = false) := by unfold Hid Gate.unused; simp [hno]
    have fkd : x.kd.toList.isEmpty = true := by simpa using hkd
    have fnm : x.nm.toList.isEmpty = true := by simpa using hnm
    have ftm : x.tm.toList.isEmpty = true := by simpa using htm
    have fhd : x.hd.toList.isEmpty = true := by simpa using hhd
    have fto : x.to.toList.isEmpty = true := by simpa using hto
    have fsn : (x.sn == 0) = true := by simp [hsn]
    have gsn : (x.sn != 0) = false := by simp [hsn]
    have fno : (x.no == 0) = false := by simp [hno]
    have gno : (x.no != 0) = true := by simp [hno]
    clear hno hkd hnm htm hhd hto hsn
    go_enter Tryz.func54, Tryz.ntmps54
    go_wp2_with fail
    go_ret
    exact ⟨ret_bool HF.out.symm, HB.out _⟩
  by_cases hvs : x.vs.length = 0
  rotate_left
  · have HF : Hid (Gate.unused x = false) := by unfold Hid Gate.unused; simp [hvs]
    have fkd : x.kd.toList.isEmpty = true := by simpa using hkd
    have fnm : x.nm.toList.isEmpty = true := by simpa using hnm
    have ftm : x.tm.toList.isEmpty = true := by simpa using htm
    have fhd : x.hd.toList.isEmpty = true := by simpa using hhd
    have fto : x.to.toList.isEmpty = true := by simpa using hto
    have fsn : (x.sn == 0) = true := by simp [hsn]
    have gsn : (x.sn != 0) = false := by simp [hsn]
    have fno : (x.no == 0) = true := by simp [hno]
    have gno : (x.no != 0) = false := by simp [hno]
    have fvs : ¬ x.vs = [] := fun h => hvs (by rw [h]; rfl)
    have gvs : 0 < x.vs.length := by omega
    clear hvs hkd hnm htm hhd hto hsn hno
    go_enter Tryz.func54, Tryz.ntmps54
    go_wp2_with fail
    go_ret
    exact ⟨ret_bool HF.out.symm, HB.out _⟩
  by_cases hhs : x.hs.length = 0
  rotate_left
  · have HF : Hid (Gate.unused x = false) := by unfold Hid Gate.unused; simp [hhs]
    have fkd : x.kd.toList.isEmpty = true := by simpa using hkd
    have fnm : x.nm.toList.isEmpty = true := by simpa using hnm
    have ftm : x.tm.toList.isEmpty = true := by simpa using htm
    have fhd : x.hd.toList.isEmpty = true := by simpa using hhd
    have fto : x.to.toList.isEmpty = true := by simpa using hto
    have fsn : (x.sn == 0) = true := by simp [hsn]
    have gsn : (x.sn != 0) = false := by simp [hsn]
    have fno : (x.no == 0) = true := by simp [hno]
    have gno : (x.no != 0) = false := by simp [hno]
    have fvs : x.vs = [] := List.length_eq_zero_iff.1 hvs
    have fhs : ¬ x.hs = [] := fun h => hhs (by rw [h]; rfl)
    have ghs : 0 < x.hs.length := by omega
    clear hhs hkd hnm htm hhd hto hsn hno hvs
    go_enter Tryz.func54, Tryz.ntmps54
    go_wp2_with fail
    go_ret
    exact ⟨ret_bool HF.out.symm, HB.out _⟩
  by_cases hrv : x.r.vs.length = 0
  rotate_left
  · have HF : Hid (Gate.unused x = false) := by unfold Hid Gate.unused; simp [hrv]
    have fkd : x.kd.toList.isEmpty = true := by simpa using hkd
    have fnm : x.nm.toList.isEmpty = true := by simpa using hnm
    have ftm : x.tm.toList.isEmpty = true := by simpa using htm
    have fhd : x.hd.toList.isEmpty = true := by simpa using hhd
    have fto : x.to.toList.isEmpty = true := by simpa using hto
    have fsn : (x.sn == 0) = true := by simp [hsn]
    have gsn : (x.sn != 0) = false := by simp [hsn]
    have fno : (x.no == 0) = true := by simp [hno]
    have gno : (x.no != 0) = false := by simp [hno]
    have fvs : x.vs = [] := List.length_eq_zero_iff.1 hvs
    have fhs : x.hs = [] := List.length_eq_zero_iff.1 hhs
    have frv : ¬ x.r.vs = [] := fun h => hrv (by rw [h]; rfl)
    have grv : 0 < x.r.vs.length := by omega
    clear hrv hkd hnm htm hhd hto hsn hno hvs hhs
    go_enter Tryz.func54, Tryz.ntmps54
    go_wp2_with fail
    go_ret
    exact ⟨ret_bool HF.out.symm, HB.out _⟩
  by_cases hrk : x.r.kd.toList.isEmpty = true
  rotate_left
  · have HF : Hid (Gate.unused x = false) := by unfold Hid Gate.unused; simp [hrk]
    have fkd : x.kd.toList.isEmpty = true := by simpa using hkd
    have fnm : x.nm.toList.isEmpty = true := by simpa using hnm
    have ftm : x.tm.toList.isEmpty = true := by simpa using htm
    have fhd : x.hd.toList.isEmpty = true := by simpa using hhd
    have fto : x.to.toList.isEmpty = true := by simpa using hto
    have fsn : (x.sn == 0) = true := by simp [hsn]
    have gsn : (x.sn != 0) = false := by simp [hsn]
    have fno : (x.no == 0) = true := by simp [hno]
    have gno : (x.no != 0) = false := by simp [hno]
    have fvs : x.vs = [] := List.length_eq_zero_iff.1 hvs
    have fhs : x.hs = [] := List.length_eq_zero_iff.1 hhs
    have frv : x.r.vs = [] := List.length_eq_zero_iff.1 hrv
    have frk : x.r.kd.toList.isEmpty = false := by simpa using hrk
    clear hrk hkd hnm htm hhd hto hsn hno hvs hhs hrv
    go_enter Tryz.func54, Tryz.ntmps54
    go_wp2_with fail
    go_ret
    exact ⟨ret_bool HF.out.symm, HB.out _⟩
  by_cases hrt : x.r.tm.toList.isEmpty = true
  rotate_left
  · have HF : Hid (Gate.unused x = false) := by unfold Hid Gate.unused; simp [hrt]
    have fkd : x.kd.toList.isEmpty = true := by simpa using hkd
    have fnm : x.nm.toList.isEmpty = true := by simpa using hnm
    have ftm : x.tm.toList.isEmpty = true := by simpa using htm
    have fhd : x.hd.toList.isEmpty = true := by simpa using hhd
    have fto : x.to.toList.isEmpty = true := by simpa using hto
    have fsn : (x.sn == 0) = true := by simp [hsn]
    have gsn : (x.sn != 0) = false := by simp [hsn]
    have fno : (x.no == 0) = true := by simp [hno]
    have gno : (x.no != 0) = false := by simp [hno]
    have fvs : x.vs = [] := List.length_eq_zero_iff.1 hvs
    have fhs : x.hs = [] := List.length_eq_zero_iff.1 hhs
    have frv : x.r.vs = [] := List.length_eq_zero_iff.1 hrv
    have frk : x.r.kd.toList.isEmpty = true := by simpa using hrk
    have frt : x.r.tm.toList.isEmpty = false := by simpa using hrt
    clear hrt hkd hnm htm hhd hto hsn hno hvs hhs hrv hrk
    go_enter Tryz.func54, Tryz.ntmps54
    go_wp2_with fail
    go_ret
    exact ⟨ret_bool HF.out.symm, HB.out _⟩
  by_cases hrp : x.r.px.toList.isEmpty = true
  rotate_left
  · have HF : Hid (Gate.unused x = false) := by unfold Hid Gate.unused; simp [hrp]
    have fkd : x.kd.toList.isEmpty = true := by simpa using hkd
    have fnm : x.nm.toList.isEmpty = true := by simpa using hnm
    have ftm : x.tm.toList.isEmpty = true := by simpa using htm
    have fhd : x.hd.toList.isEmpty = true := by simpa using hhd
    have fto : x.to.toList.isEmpty = true := by simpa using hto
    have fsn : (x.sn == 0) = true := by simp [hsn]
    have gsn : (x.sn != 0) = false := by simp [hsn]
    have fno : (x.no == 0) = true := by simp [hno]
    have gno : (x.no != 0) = false := by simp [hno]
    have fvs : x.vs = [] := List.length_eq_zero_iff.1 hvs
    have fhs : x.hs = [] := List.length_eq_zero_iff.1 hhs
    have frv : x.r.vs = [] := List.length_eq_zero_iff.1 hrv
    have frk : x.r.kd.toList.isEmpty = true := by simpa using hrk
    have frt : x.r.tm.toList.isEmpty = true := by simpa using hrt
    have frp : x.r.px.toList.isEmpty = false := by simpa using hrp
    clear hrp hkd hnm htm hhd hto hsn hno hvs hhs hrv hrk hrt
    go_enter Tryz.func54, Tryz.ntmps54
    go_wp2_with fail
    go_ret
    exact ⟨ret_bool HF.out.symm, HB.out _⟩
  · have HF : Hid (Gate.unused x = true) := by unfold Hid Gate.unused; simp [hkd, hnm, htm, hhd, hto, hsn, hno, hvs, hhs, hrv, hrk, hrt, hrp]
    have fkd : x.kd.toList.isEmpty = true := by simpa using hkd
    have fnm : x.nm.toList.isEmpty = true := by simpa using hnm
    have ftm : x.tm.toList.isEmpty = true := by simpa using htm
    have fhd : x.hd.toList.isEmpty = true := by simpa using hhd
    have fto : x.to.toList.isEmpty = true := by simpa using hto
    have fsn : (x.sn == 0) = true := by simp [hsn]
    have gsn : (x.sn != 0) = false := by simp [hsn]
    have fno : (x.no == 0) = true := by simp [hno]
    have gno : (x.no != 0) = false := by simp [hno]
    have fvs : x.vs = [] := List.length_eq_zero_iff.1 hvs
    have fhs : x.hs = [] := List.length_eq_zero_iff.1 hhs
    have frv : x.r.vs = [] := List.length_eq_zero_iff.1 hrv
    have frk : x.r.kd.toList.isEmpty = true := by simpa using hrk
    have frt : x.r.tm.toList.isEmpty = true := by simpa using hrt
    have frp : x.r.px.toList.isEmpty = true := by simpa using hrp
    clear hkd hnm htm hhd hto hsn hno hvs hhs hrv hrk hrt hrp
    go_enter Tryz.func54, Tryz.ntmps54
    go_wp2_with fail
    go_ret
    exact ⟨ret_bool HF.out.symm, HB.out _⟩

set_option maxHeartbeats 4000000 in
theorem l8Nothing_any (x : Ak) (a0 a1 a2 : Option Addr) (c0 c1 c2 : Nat) (w : World) :
    Calls Tryz.prog 39 #[.agg (x.cells a0 a1 a2 c0 c1 c2)] w fun e w' => e = .returned (.bool (Gate.unused x)) ∧ Below w.heap.size w w' := by
  unfold Ak.cells
  have HB : Hid (∀ ob, Below w.heap.size w (w.alloc ob)) := fun ob => (Below.refl _ _).alloc (Nat.le_refl _) _
  by_cases hkd : x.kd.toList.isEmpty = true
  rotate_left
  · have HF : Hid (Gate.unused x = false) := by unfold Hid Gate.unused; simp [hkd]
    have fkd : x.kd.toList.isEmpty = false := by simpa using hkd
    clear hkd 
    go_enter Tryz.func39, Tryz.ntmps39
    go_wp2_with fail
    go_ret
    exact ⟨ret_bool HF.out.symm, HB.out _⟩
  by_cases hnm : x.nm.toList.isEmpty = true
  rotate_left
  · have HF : Hid (Gate.unused x = false) := by unfold Hid Gate.unused; simp [hnm]
    have fkd : x.kd.toList.isEmpty = true := by simpa using hkd
    have fnm : x.nm.toList.isEmpty = false := by simpa using hnm
    clear hnm hkd
    go_enter Tryz.func39, Tryz.ntmps39
    go_wp2_with fail
    go_ret
    exact ⟨ret_bool HF.out.symm, HB.out _⟩
  by_cases htm : x.tm.toList.isEmpty = true
  rotate_left
  · have HF : Hid (Gate.unused x = false) := by unfold Hid Gate.unused; simp [htm]
    have fkd : x.kd.toList.isEmpty = true := by simpa using hkd
    have fnm : x.nm.toList.isEmpty = true := by simpa using hnm
    have ftm : x.tm.toList.isEmpty = false := by simpa using htm
    clear htm hkd hnm
    go_enter Tryz.func39, Tryz.ntmps39
    go_wp2_with fail
    go_ret
    exact ⟨ret_bool HF.out.symm, HB.out _⟩
  by_cases hvs : x.vs.length = 0
  rotate_left
  · have HF : Hid (Gate.unused x = false) := by unfold Hid Gate.unused; simp [hvs]
    have fkd : x.kd.toList.isEmpty = true := by simpa using hkd
    have fnm : x.nm.toList.isEmpty = true := by simpa using hnm
    have ftm : x.tm.toList.isEmpty = true := by simpa using htm
    have fvs : ¬ x.vs = [] := fun h => hvs (by rw [h]; rfl)
    have gvs : 0 < x.vs.length := by omega
    clear hvs hkd hnm htm
    go_enter Tryz.func39, Tryz.ntmps39
    go_wp2_with fail
    go_ret
    exact ⟨ret_bool HF.out.symm, HB.out _⟩
  by_cases hhs : x.hs.length = 0
  rotate_left
  · have HF : Hid (Gate.unused x = false) := by unfold Hid Gate.unused; simp [hhs]
    have fkd : x.kd.toList.isEmpty = true := by simpa using hkd
    have fnm : x.nm.toList.isEmpty = true := by simpa using hnm
    have ftm : x.tm.toList.isEmpty = true := by simpa using htm
    have fvs : x.vs = [] := List.length_eq_zero_iff.1 hvs
    have fhs : ¬ x.hs = [] := fun h => hhs (by rw [h]; rfl)
    have ghs : 0 < x.hs.length := by omega
    clear hhs hkd hnm htm hvs
    go_enter Tryz.func39, Tryz.ntmps39
    go_wp2_with fail
    go_ret
    exact ⟨ret_bool HF.out.symm, HB.out _⟩
  by_cases hsn : x.sn = 0
  rotate_left
  · have HF : Hid (Gate.unused x = false) := by unfold Hid Gate.unused; simp [hsn]
    have fkd : x.kd.toList.isEmpty = true := by simpa using hkd
    have fnm : x.nm.toList.isEmpty = true := by simpa using hnm
    have ftm : x.tm.toList.isEmpty = true := by simpa using htm
    have fvs : x.vs = [] := List.length_eq_zero_iff.1 hvs
    have fhs : x.hs = [] := List.length_eq_zero_iff.1 hhs
    have fsn : (x.sn == 0) = false := by simp [hsn]
    have gsn : (x.sn != 0) = true := by simp [hsn]
    clear hsn hkd hnm htm hvs hhs
    go_enter Tryz.func39, Tryz.ntmps39
    go_wp2_with fail
    go_ret
    exact ⟨ret_bool HF.out.symm, HB.out _⟩
  by_cases hhd : x.hd.toList.isEmpty = true
  rotate_left
  · have HF : Hid (Gate.unused x = false) := by unfold Hid Gate.unused; simp [hhd]
    have fkd : x.kd.toList.isEmpty = true := by simpa using hkd
    have fnm : x.nm.toList.isEmpty = true := by simpa using hnm
    have ftm : x.tm.toList.isEmpty = true := by simpa using htm
    have fvs : x.vs = [] := List.length_eq_zero_iff.1 hvs
    have fhs : x.hs = [] := List.length_eq_zero_iff.1 hhs
    have fsn : (x.sn == 0) = true := by simp [hsn]
    have gsn : (x.sn != 0) = false := by simp [hsn]
    have fhd : x.hd.toList.isEmpty = false := by simpa using hhd
    clear hhd hkd hnm htm hvs hhs hsn
    go_enter Tryz.func39, Tryz.ntmps39
    go_wp2_with fail
    go_ret
    exact ⟨ret_bool HF.out.symm, HB.out _⟩
  by_cases hto : x.to.toList.isEmpty = true
  rotate_left
  · have HF : Hid (Gate.unused x = false) := by unfold Hid Gate.unused; simp [hto]
    have fkd : x.kd.toList.isEmpty = true := by simpa using hkd
    have fnm : x.nm.toList.isEmpty = true := by simpa using hnm
    have ftm : x.tm.toList.isEmpty = true := by simpa using htm
    have fvs : x.vs = [] := List.length_eq_zero_iff.1 hvs
    have fhs : x.hs = [] := List.length_eq_zero_iff.1 hhs
    have fsn : (x.sn == 0) = true := by simp [hsn]
    have gsn : (x.sn != 0) = false := by simp [hsn]
    have fhd : x.hd.toList.isEmpty = true := by simpa using hhd
    have fto : x.to.toList.isEmpty = false := by simpa using hto
    clear hto hkd hnm htm hvs hhs hsn hhd
    go_enter Tryz.func39, Tryz.ntmps39
    go_wp2_with fail
    go_ret
    exact ⟨ret_bool HF.out.symm, HB.out _⟩
  by_cases hrv : x.r.vs.length = 0
  rotate_left
  · have HF : Hid (Gate.unused x = false) := by unfold Hid Gate.unused; simp [hrv]
    have fkd : x.kd.toList.isEmpty = true := by simpa using hkd
    have fnm : x.nm.toList.isEmpty = true := by simpa using hnm
    have ftm : x.tm.toList.isEmpty = true := by simpa using htm
    have fvs : x.vs = [] := List.length_eq_zero_iff.1 hvs
    have fhs : x.hs = [] := List.length_eq_zero_iff.1 hhs
    have fsn : (x.sn == 0) = true := by simp [hsn]
    have gsn : (x.sn != 0) = false := by simp [hsn]
    have fhd : x.hd.toList.isEmpty = true := by simpa using hhd
    have fto : x.to.toList.isEmpty = true := by simpa using hto
    have frv : ¬ x.r.vs = [] := fun h => hrv (by rw [h]; rfl)
    have grv : 0 < x.r.vs.length := by omega
    clear hrv hkd hnm htm hvs hhs hsn hhd hto
    go_enter Tryz.func39, Tryz.ntmps39
    go_wp2_with fail
    go_ret
    exact ⟨ret_bool HF.out.symm, HB.out _⟩
  by_cases hrk : x.r.kd.toList.isEmpty = true
  rotate_left
  · have HF : Hid (Gate.unused x = false) := by unfold Hid Gate.unused; simp [hrk]
    have fkd : x.kd.toList.isEmpty = true := by simpa using hkd
    have fnm : x.nm.toList.isEmpty = true := by simpa using hnm
    have ftm : x.tm.toList.isEmpty = true := by simpa using htm
    have fvs : x.vs = [] := List.length_eq_zero_iff.1 hvs
    have fhs : x.hs = [] := List.length_eq_zero_iff.1 hhs
    have fsn : (x.sn == 0) = true := by simp [hsn]
    have gsn : (x.sn != 0) = false := by simp [hsn]
    have fhd : x.hd.toList.isEmpty = true := by simpa using hhd
    have fto : x.to.toList.isEmpty = true := by simpa using hto
    have frv : x.r.vs = [] := List.length_eq_zero_iff.1 hrv
    have frk : x.r.kd.toList.isEmpty = false := by simpa using hrk
    clear hrk hkd hnm htm hvs hhs hsn hhd hto hrv
    go_enter Tryz.func39, Tryz.ntmps39
    go_wp2_with fail
    go_ret
    exact ⟨ret_bool HF.out.symm, HB.out _⟩
  by_cases hrt : x.r.tm.toList.isEmpty = true
  rotate_left
  · have HF : Hid (Gate.unused x = false) := by unfold Hid Gate.unused; simp [hrt]
    have fkd : x.kd.toList.isEmpty = true := by simpa using hkd
    have fnm : x.nm.toList.isEmpty = true := by simpa using hnm
    have ftm : x.tm.toList.isEmpty = true := by simpa using htm
    have fvs : x.vs = [] := List.length_eq_zero_iff.1 hvs
    have fhs : x.hs = [] := List.length_eq_zero_iff.1 hhs
    have fsn : (x.sn == 0) = true := by simp [hsn]
    have gsn : (x.sn != 0) = false := by simp [hsn]
    have fhd : x.hd.toList.isEmpty = true := by simpa using hhd
    have fto : x.to.toList.isEmpty = true := by simpa using hto
    have frv : x.r.vs = [] := List.length_eq_zero_iff.1 hrv
    have frk : x.r.kd.toList.isEmpty = true := by simpa using hrk
    have frt : x.r.tm.toList.isEmpty = false := by simpa using hrt
    clear hrt hkd hnm htm hvs hhs hsn hhd hto hrv hrk
    go_enter Tryz.func39, Tryz.ntmps39
    go_wp2_with fail
    go_ret
    exact ⟨ret_bool HF.out.symm, HB.out _⟩
  by_cases hrp : x.r.px.toList.isEmpty = true
  rotate_left
  · have HF : Hid (Gate.unused x = false) := by unfold Hid Gate.unused; simp [hrp]
    have fkd : x.kd.toList.isEmpty = true := by simpa using hkd
    have fnm : x.nm.toList.isEmpty = true := by simpa using hnm
    have ftm : x.tm.toList.isEmpty = true := by simpa using htm
    have fvs : x.vs = [] := List.length_eq_zero_iff.1 hvs
    have fhs : x.hs = [] := List.length_eq_zero_iff.1 hhs
    have fsn : (x.sn == 0) = true := by simp [hsn]
    have gsn : (x.sn != 0) = false := by simp [hsn]
    have fhd : x.hd.toList.isEmpty = true := by simpa using hhd
    have fto : x.to.toList.isEmpty = true := by simpa using hto
    have frv : x.r.vs = [] := List.length_eq_zero_iff.1 hrv
    have frk : x.r.kd.toList.isEmpty = true := by simpa using hrk
    have frt : x.r.tm.toList.isEmpty = true := by simpa using hrt
    have frp : x.r.px.toList.isEmpty = false := by simpa using hrp
    clear hrp hkd hnm htm hvs hhs hsn hhd hto hrv hrk hrt
    go_enter Tryz.func39, Tryz.ntmps39
    go_wp2_with fail
    go_ret
    exact ⟨ret_bool HF.out.symm, HB.out _⟩
  by_cases hno : x.no = 0
  rotate_left
  · have HF : Hid (Gate.unused x = false) := by unfold Hid Gate.unused; simp [hno]
    have fkd : x.kd.toList.isEmpty = true := by simpa using hkd
    have fnm : x.nm.toList.isEmpty = true := by simpa using hnm
    have ftm : x.tm.toList.isEmpty = true := by simpa using htm
    have fvs : x.vs = [] := List.length_eq_zero_iff.1 hvs
    have fhs : x.hs = [] := List.length_eq_zero_iff.1 hhs
    have fsn : (x.sn == 0) = true := by simp [hsn]
    have gsn : (x.sn != 0) = false := by simp [hsn]
    have fhd : x.hd.toList.isEmpty = true := by simpa using hhd
    have fto : x.to.toList.isEmpty = true := by simpa using hto
    have frv : x.r.vs = [] := List.length_eq_zero_iff.1 hrv
    have frk : x.r.kd.toList.isEmpty = true := by simpa using hrk
    have frt : x.r.tm.toList.isEmpty = true := by simpa using hrt
    have frp : x.r.px.toList.isEmpty = true := by simpa using hrp
    have fno : (x.no == 0) = false := by simp [hno]
    have gno : (x.no != 0) = true := by simp [hno]
    clear hno hkd hnm htm hvs hhs hsn hhd hto hrv hrk hrt hrp
    go_enter Tryz.func39, Tryz.ntmps39
    go_wp2_with fail
    go_ret
    exact ⟨ret_bool HF.out.symm, HB.out _⟩
  · have HF : Hid (Gate.unused x = true) := by unfold Hid Gate.unused; simp [hkd, hnm, htm, hvs, hhs, hsn, hhd, hto, hrv, hrk, hrt, hrp, hno]
    have fkd : x.kd.toList.isEmpty = true := by simpa using hkd
    have fnm : x.nm.toList.isEmpty = true := by simpa using hnm
    have ftm : x.tm.toList.isEmpty = true := by simpa using htm
    have fvs : x.vs = [] := List.length_eq_zero_iff.1 hvs
    have fhs : x.hs = [] := List.length_eq_zero_iff.1 hhs
    have fsn : (x.sn == 0) = true := by simp [hsn]
    have gsn : (x.sn != 0) = false := by simp [hsn]
    have fhd : x.hd.toList.isEmpty = true := by simpa using hhd
    have fto : x.to.toList.isEmpty = true := by simpa using hto
    have frv : x.r.vs = [] := List.length_eq_zero_iff.1 hrv
    have frk : x.r.kd.toList.isEmpty = true := by simpa using hrk
    have frt : x.r.tm.toList.isEmpty = true := by simpa using hrt
    have frp : x.r.px.toList.isEmpty = true := by simpa using hrp
    have fno : (x.no == 0) = true := by simp [hno]
    have gno : (x.no != 0) = false := by simp [hno]
    clear hkd hnm htm hvs hhs hsn hhd hto hrv hrk hrt hrp hno
    go_enter Tryz.func39, Tryz.ntmps39
    go_wp2_with fail
    go_ret
    exact ⟨ret_bool HF.out.symm, HB.out _⟩

end Go.Proofs.YthldiefbpemoaaaGreat

namespace Go.Proofs.YthldiefbpemoaaaGreat
open Go.RowKit

def deedsV : Value := .agg #[.nilIface, .iface 122 (.agg #[]), .iface 123 (.agg #[]), .iface 124 (.agg #[]), .iface 125 (.agg #[]), .iface 126 (.agg #[]), .iface 127 (.agg #[])]
set_option maxHeartbeats 1000000 in
theorem deeds_any (w : World) : Calls Tryz.prog 53 #[] w fun e w' => e = .returned deedsV ∧ Below w.heap.size w w' := by
  go_enter Tryz.func53, Tryz.ntmps53
  go_wp2_with fail
  refine bodyPost_ret (v := deedsV) (by simp [results, Tryz.results53, go_sem, deedsV]) rfl ⟨rfl, (Below.refl _ _).alloc (Nat.le_refl _) _⟩

theorem method_make_isUse (x : Value) (w : World) : (method 311 122 x "loop.example/wharfgate/impl.isUse").run Tryz.prog w = .ok (126, x) w := by kernel_rfl
theorem method_make_rest (x : Value) (w : World) : (method 311 122 x "loop.example/wharfgate/impl.rest").run Tryz.prog w = .ok (128, x) w := by kernel_rfl
theorem method_change_isUse (x : Value) (w : World) : (method 311 123 x "loop.example/wharfgate/impl.isUse").run Tryz.prog w = .ok (132, x) w := by kernel_rfl
theorem method_change_rest (x : Value) (w : World) : (method 311 123 x "loop.example/wharfgate/impl.rest").run Tryz.prog w = .ok (134, x) w := by kernel_rfl
theorem method_end_isUse (x : Value) (w : World) : (method 311 124 x "loop.example/wharfgate/impl.isUse").run Tryz.prog w = .ok (136, x) w := by kernel_rfl
theorem method_end_rest (x : Value) (w : World) : (method 311 124 x "loop.example/wharfgate/impl.rest").run Tryz.prog w = .ok (138, x) w := by kernel_rfl
theorem method_letGo_isUse (x : Value) (w : World) : (method 311 125 x "loop.example/wharfgate/impl.isUse").run Tryz.prog w = .ok (140, x) w := by kernel_rfl
theorem method_letGo_rest (x : Value) (w : World) : (method 311 125 x "loop.example/wharfgate/impl.rest").run Tryz.prog w = .ok (142, x) w := by kernel_rfl
theorem method_give_isUse (x : Value) (w : World) : (method 311 126 x "loop.example/wharfgate/impl.isUse").run Tryz.prog w = .ok (144, x) w := by kernel_rfl
theorem method_give_rest (x : Value) (w : World) : (method 311 126 x "loop.example/wharfgate/impl.rest").run Tryz.prog w = .ok (146, x) w := by kernel_rfl
theorem method_take_isUse (x : Value) (w : World) : (method 311 127 x "loop.example/wharfgate/impl.isUse").run Tryz.prog w = .ok (151, x) w := by kernel_rfl
theorem method_take_rest (x : Value) (w : World) : (method 311 127 x "loop.example/wharfgate/impl.rest").run Tryz.prog w = .ok (153, x) w := by kernel_rfl
theorem index_make (w : World) : (Instr.index 97 (.agg #[.nilIface, .iface 122 (.agg #[]), .iface 123 (.agg #[]), .iface 124 (.agg #[]), .iface 125 (.agg #[]), .iface 126 (.agg #[]), .iface 127 (.agg #[])]) (.int .i64 1)).run Tryz.prog w = .ok (.iface 122 (.agg #[])) w := by kernel_rfl
theorem index_change (w : World) : (Instr.index 97 (.agg #[.nilIface, .iface 122 (.agg #[]), .iface 123 (.agg #[]), .iface 124 (.agg #[]), .iface 125 (.agg #[]), .iface 126 (.agg #[]), .iface 127 (.agg #[])]) (.int .i64 2)).run Tryz.prog w = .ok (.iface 123 (.agg #[])) w := by kernel_rfl
theorem index_end (w : World) : (Instr.index 97 (.agg #[.nilIface, .iface 122 (.agg #[]), .iface 123 (.agg #[]), .iface 124 (.agg #[]), .iface 125 (.agg #[]), .iface 126 (.agg #[]), .iface 127 (.agg #[])]) (.int .i64 3)).run Tryz.prog w = .ok (.iface 124 (.agg #[])) w := by kernel_rfl
theorem index_letGo (w : World) : (Instr.index 97 (.agg #[.nilIface, .iface 122 (.agg #[]), .iface 123 (.agg #[]), .iface 124 (.agg #[]), .iface 125 (.agg #[]), .iface 126 (.agg #[]), .iface 127 (.agg #[])]) (.int .i64 4)).run Tryz.prog w = .ok (.iface 125 (.agg #[])) w := by kernel_rfl
theorem index_give (w : World) : (Instr.index 97 (.agg #[.nilIface, .iface 122 (.agg #[]), .iface 123 (.agg #[]), .iface 124 (.agg #[]), .iface 125 (.agg #[]), .iface 126 (.agg #[]), .iface 127 (.agg #[])]) (.int .i64 5)).run Tryz.prog w = .ok (.iface 126 (.agg #[])) w := by kernel_rfl
theorem index_take (w : World) : (Instr.index 97 (.agg #[.nilIface, .iface 122 (.agg #[]), .iface 123 (.agg #[]), .iface 124 (.agg #[]), .iface 125 (.agg #[]), .iface 126 (.agg #[]), .iface 127 (.agg #[])]) (.int .i64 6)).run Tryz.prog w = .ok (.iface 127 (.agg #[])) w := by kernel_rfl

set_option maxRecDepth 20000 in
set_option maxHeartbeats 4000000 in
theorem isAsk_make (l : Lw) (la lb lc : Option Addr) (lca lcb lcc : Nat) (who kd nm tm : ByteArray) (vs hs : List ByteArray) (sn : Int) (hd to : ByteArray) (r : Rl) (no : Int) (a0 a1 a2 : Option Addr) (c0 c1 c2 : Nat) (w : World) (hl : LwAt w l la lb lc) (hx : AkAt w (⟨who, 1, kd, nm, tm, vs, hs, sn, hd, to, r, no⟩ : Ak) a0 a1 a2) (hn : Gate.nameOk who = true) :
    Calls Tryz.prog 25 #[.agg (l.cells la lb lc lca lcb lcc), .agg ((⟨who, 1, kd, nm, tm, vs, hs, sn, hd, to, r, no⟩ : Ak).cells a0 a1 a2 c0 c1 c2)] w fun e w' => e = .returned (.bool (Gate.useMake l (⟨who, 1, kd, nm, tm, vs, hs, sn, hd, to, r, no⟩ : Ak) && Gate.unused ⟨who, 1, ByteArray.empty, ByteArray.empty, ByteArray.empty, [], [], sn, hd, to, r, no⟩)) ∧ Below w.heap.size w w' := by
  have HL : Hid (LwAt w l la lb lc) := hl
  have HX : Hid (AkAt w (⟨who, 1, kd, nm, tm, vs, hs, sn, hd, to, r, no⟩ : Ak) a0 a1 a2) := hx
  have HN : Hid (Gate.nameOk who = true) := hn
  clear hl hx hn
  unfold Ak.cells Lw.cells
  dsimp only
  by_cases hu : Gate.useMake l (⟨who, 1, kd, nm, tm, vs, hs, sn, hd, to, r, no⟩ : Ak) = true
  · have HU : Hid (Gate.useMake l (⟨who, 1, kd, nm, tm, vs, hs, sn, hd, to, r, no⟩ : Ak) = true) := hu
    clear hu
    go_enter Tryz.func25, Tryz.ntmps25
    go_wp2_with fail
    obtain ⟨W0, hW0, hX0, hY0, hz0, hB0⟩ := pair_boxes w #[.slice la l.ss.length lca, .slice lb l.ms.length lcb, .slice lc l.ts.length lcc] #[.string who, .int .i64 1, .string kd, .string nm, .string tm, .slice a0 vs.length c0, .slice a1 hs.length c1, .int .i64 sn, .string hd, .string to, .slice a2 r.vs.length c2, .string r.kd, .string r.tm, .string r.px, .int .i64 no] 40 44
    rw [← hW0]
    clear hW0
    have hq0 := Nat.lt_of_succ_lt hz0
    refine (as_bool HN.out (isName_any who _ HX.out.small.who)).mono ?_
    rintro e w1 ⟨rfl, rfl⟩
    go_wp2_with fail
    refine (as_bool (show Gate.within 1 1 6 = true from rfl) (isWithin_any 1 1 6 _)).mono ?_
    rintro e w1 ⟨rfl, rfl⟩
    go_wp2_with fail
    have hX := box_later hX0 hq0 (Below.refl w1.heap.size w1).drew
    have hY := box_later hY0 hz0 (Below.refl w1.heap.size w1).drew
    have hz : w.heap.size + 1 < w1.drew.heap.size := hz0
    have hB := hB0.drew
    clear hX0 hY0 hz0 hB0 hq0
    have hix := index_make
    go_region_held3 (fun w' => (∀ j, w'.cell? ⟨w.heap.size, j, none⟩ = (#[.slice la l.ss.length lca, .slice lb l.ms.length lcb, .slice lc l.ts.length lcc] : Array Value)[j]?) ∧ ∀ j, w'.cell? ⟨w.heap.size + 1, j, none⟩ = (#[.string who, .int .i64 1, .string kd, .string nm, .string tm, .slice a0 vs.length c0, .slice a1 hs.length c1, .int .i64 sn, .string hd, .string to, .slice a2 r.vs.length c2, .string r.kd, .string r.tm, .string r.px, .int .i64 no] : Array Value)[j]?) (exact ⟨hX, hY⟩) (first
      | (go_at_call 53; refine (deeds_any _).mono ?_; rintro e w3 ⟨rfl, hb⟩; unfold deedsV; have hX := box_later hX (Nat.lt_of_succ_lt hz) hb; have hY := box_later hY hz hb; have hB := hB.trans (hb.mono hB.size); have hz := Nat.lt_of_lt_of_le hz hb.size; clear hb))
    have hm1 := method_make_isUse
    have hm2 := method_make_rest
    have hq := Nat.lt_of_succ_lt hz
    go_wp2_with fail
    refine (as_bool HU.out (makeUse_any l la lb lc lca lcb lcc (⟨who, 1, kd, nm, tm, vs, hs, sn, hd, to, r, no⟩ : Ak) a0 a1 a2 c0 c1 c2 _ (HL.out.mono hB) (HX.out.mono hB))).mono ?_
    rintro e w4 ⟨rfl, hb⟩
    have hX4 := box_later hX hq hb
    have hY4 := box_later hY hz hb
    have hz4 := Nat.lt_of_lt_of_le hz hb.size
    have hq4 := Nat.lt_of_lt_of_le hq hb.size
    have hB4 := hB.trans (hb.mono hB.size)
    clear hb hX hY hB hz hq
    go_wp2_with fail
    refine (makeRest_any (⟨who, 1, kd, nm, tm, vs, hs, sn, hd, to, r, no⟩ : Ak) a0 a1 a2 c0 c1 c2 _).mono ?_
    rintro e w5 ⟨rfl, hb⟩
    have hB5 := hB4.trans (hb.mono hB4.size)
    clear hb hX4 hY4 hz4 hq4 hB4
    go_wp2_with fail
    refine (isUnused_any ⟨who, 1, ByteArray.empty, ByteArray.empty, ByteArray.empty, [], [], sn, hd, to, r, no⟩ _ _ _ _ _ _ _).mono ?_
    rintro e w6 ⟨rfl, hb⟩
    have hB6 := hB5.trans (hb.mono hB5.size)
    clear hb hB5
    go_wp2_with fail
    go_ret
    exact ⟨ret_bool (by rw [HU.out]; rfl), hB6⟩
  · have HU : Hid (Gate.useMake l (⟨who, 1, kd, nm, tm, vs, hs, sn, hd, to, r, no⟩ : Ak) = false) := Bool.eq_false_iff.2 hu
    clear hu
    go_enter Tryz.func25, Tryz.ntmps25
    go_wp2_with fail
    obtain ⟨W0, hW0, hX0, hY0, hz0, hB0⟩ := pair_boxes w #[.slice la l.ss.length lca, .slice lb l.ms.length lcb, .slice lc l.ts.length lcc] #[.string who, .int .i64 1, .string kd, .string nm, .string tm, .slice a0 vs.length c0, .slice a1 hs.length c1, .int .i64 sn, .string hd, .string to, .slice a2 r.vs.length c2, .string r.kd, .string r.tm, .string r.px, .int .i64 no] 40 44
    rw [← hW0]
    clear hW0
    have hq0 := Nat.lt_of_succ_lt hz0
    refine (as_bool HN.out (isName_any who _ HX.out.small.who)).mono ?_
    rintro e w1 ⟨rfl, rfl⟩
    go_wp2_with fail
    refine (as_bool (show Gate.within 1 1 6 = true from rfl) (isWithin_any 1 1 6 _)).mono ?_
    rintro e w1 ⟨rfl, rfl⟩
    go_wp2_with fail
    have hX := box_later hX0 hq0 (Below.refl w1.heap.size w1).drew
    have hY := box_later hY0 hz0 (Below.refl w1.heap.size w1).drew
    have hz : w.heap.size + 1 < w1.drew.heap.size := hz0
    have hB := hB0.drew
    clear hX0 hY0 hz0 hB0 hq0
    have hix := index_make
    go_region_held3 (fun w' => (∀ j, w'.cell? ⟨w.heap.size, j, none⟩ = (#[.slice la l.ss.length lca, .slice lb l.ms.length lcb, .slice lc l.ts.length lcc] : Array Value)[j]?) ∧ ∀ j, w'.cell? ⟨w.heap.size + 1, j, none⟩ = (#[.string who, .int .i64 1, .string kd, .string nm, .string tm, .slice a0 vs.length c0, .slice a1 hs.length c1, .int .i64 sn, .string hd, .string to, .slice a2 r.vs.length c2, .string r.kd, .string r.tm, .string r.px, .int .i64 no] : Array Value)[j]?) (exact ⟨hX, hY⟩) (first
      | (go_at_call 53; refine (deeds_any _).mono ?_; rintro e w3 ⟨rfl, hb⟩; unfold deedsV; have hX := box_later hX (Nat.lt_of_succ_lt hz) hb; have hY := box_later hY hz hb; have hB := hB.trans (hb.mono hB.size); have hz := Nat.lt_of_lt_of_le hz hb.size; clear hb))
    have hm1 := method_make_isUse
    have hm2 := method_make_rest
    have hq := Nat.lt_of_succ_lt hz
    go_wp2_with fail
    refine (as_bool HU.out (makeUse_any l la lb lc lca lcb lcc (⟨who, 1, kd, nm, tm, vs, hs, sn, hd, to, r, no⟩ : Ak) a0 a1 a2 c0 c1 c2 _ (HL.out.mono hB) (HX.out.mono hB))).mono ?_
    rintro e w4 ⟨rfl, hb⟩
    have hX4 := box_later hX hq hb
    have hY4 := box_later hY hz hb
    have hz4 := Nat.lt_of_lt_of_le hz hb.size
    have hq4 := Nat.lt_of_lt_of_le hq hb.size
    have hB4 := hB.trans (hb.mono hB.size)
    clear hb hX hY hB hz hq
    go_wp2_with fail
    go_ret
    exact ⟨ret_bool (by rw [HU.out]; rfl), hB4⟩

set_option maxRecDepth 20000 in
set_option maxHeartbeats 4000000 in
theorem isAsk_change (l : Lw) (la lb lc : Option Addr) (lca lcb lcc : Nat) (who kd nm tm : ByteArray) (vs hs : List ByteArray) (sn : Int) (hd to : ByteArray) (r : Rl) (no : Int) (a0 a1 a2 : Option Addr) (c0 c1 c2 : Nat) (w : World) (hl : LwAt w l la lb lc) (hx : AkAt w (⟨who, 2, kd, nm, tm, vs, hs, sn, hd, to, r, no⟩ : Ak) a0 a1 a2) (hn : Gate.nameOk who = true) :
    Calls Tryz.prog 25 #[.agg (l.cells la lb lc lca lcb lcc), .agg ((⟨who, 2, kd, nm, tm, vs, hs, sn, hd, to, r, no⟩ : Ak).cells a0 a1 a2 c0 c1 c2)] w fun e w' => e = .returned (.bool (Gate.useChange l (⟨who, 2, kd, nm, tm, vs, hs, sn, hd, to, r, no⟩ : Ak) && Gate.unused ⟨who, 2, ByteArray.empty, ByteArray.empty, tm, [], hs, 0, hd, to, r, no⟩)) ∧ Below w.heap.size w w' := by
  have HL : Hid (LwAt w l la lb lc) := hl
  have HX : Hid (AkAt w (⟨who, 2, kd, nm, tm, vs, hs, sn, hd, to, r, no⟩ : Ak) a0 a1 a2) := hx
  have HN : Hid (Gate.nameOk who = true) := hn
  clear hl hx hn
  unfold Ak.cells Lw.cells
  dsimp only
  by_cases hu : Gate.useChange l (⟨who, 2, kd, nm, tm, vs, hs, sn, hd, to, r, no⟩ : Ak) = true
  · have HU : Hid (Gate.useChange l (⟨who, 2, kd, nm, tm, vs, hs, sn, hd, to, r, no⟩ : Ak) = true) := hu
    clear hu
    go_enter Tryz.func25, Tryz.ntmps25
    go_wp2_with fail
    obtain ⟨W0, hW0, hX0, hY0, hz0, hB0⟩ := pair_boxes w #[.slice la l.ss.length lca, .slice lb l.ms.length lcb, .slice lc l.ts.length lcc] #[.string who, .int .i64 2, .string kd, .string nm, .string tm, .slice a0 vs.length c0, .slice a1 hs.length c1, .int .i64 sn, .string hd, .string to, .slice a2 r.vs.length c2, .string r.kd, .string r.tm, .string r.px, .int .i64 no] 40 44
    rw [← hW0]
    clear hW0
    have hq0 := Nat.lt_of_succ_lt hz0
    refine (as_bool HN.out (isName_any who _ HX.out.small.who)).mono ?_
    rintro e w1 ⟨rfl, rfl⟩
    go_wp2_with fail
    refine (as_bool (show Gate.within 2 1 6 = true from rfl) (isWithin_any 2 1 6 _)).mono ?_
    rintro e w1 ⟨rfl, rfl⟩
    go_wp2_with fail
    have hX := box_later hX0 hq0 (Below.refl w1.heap.size w1).drew
    have hY := box_later hY0 hz0 (Below.refl w1.heap.size w1).drew
    have hz : w.heap.size + 1 < w1.drew.heap.size := hz0
    have hB := hB0.drew
    clear hX0 hY0 hz0 hB0 hq0
    have hix := index_change
    go_region_held3 (fun w' => (∀ j, w'.cell? ⟨w.heap.size, j, none⟩ = (#[.slice la l.ss.length lca, .slice lb l.ms.length lcb, .slice lc l.ts.length lcc] : Array Value)[j]?) ∧ ∀ j, w'.cell? ⟨w.heap.size + 1, j, none⟩ = (#[.string who, .int .i64 2, .string kd, .string nm, .string tm, .slice a0 vs.length c0, .slice a1 hs.length c1, .int .i64 sn, .string hd, .string to, .slice a2 r.vs.length c2, .string r.kd, .string r.tm, .string r.px, .int .i64 no] : Array Value)[j]?) (exact ⟨hX, hY⟩) (first
      | (go_at_call 53; refine (deeds_any _).mono ?_; rintro e w3 ⟨rfl, hb⟩; unfold deedsV; have hX := box_later hX (Nat.lt_of_succ_lt hz) hb; have hY := box_later hY hz hb; have hB := hB.trans (hb.mono hB.size); have hz := Nat.lt_of_lt_of_le hz hb.size; clear hb))
    have hm1 := method_change_isUse
    have hm2 := method_change_rest
    have hq := Nat.lt_of_succ_lt hz
    go_wp2_with fail
    refine (as_bool HU.out (changeUse_any l la lb lc lca lcb lcc (⟨who, 2, kd, nm, tm, vs, hs, sn, hd, to, r, no⟩ : Ak) a0 a1 a2 c0 c1 c2 _ (HL.out.mono hB) (HX.out.mono hB))).mono ?_
    rintro e w4 ⟨rfl, hb⟩
    have hX4 := box_later hX hq hb
    have hY4 := box_later hY hz hb
    have hz4 := Nat.lt_of_lt_of_le hz hb.size
    have hq4 := Nat.lt_of_lt_of_le hq hb.size
    have hB4 := hB.trans (hb.mono hB.size)
    clear hb hX hY hB hz hq
    go_wp2_with fail
    refine (changeRest_any (⟨who, 2, kd, nm, tm, vs, hs, sn, hd, to, r, no⟩ : Ak) a0 a1 a2 c0 c1 c2 _).mono ?_
    rintro e w5 ⟨rfl, hb⟩
    have hB5 := hB4.trans (hb.mono hB4.size)
    clear hb hX4 hY4 hz4 hq4 hB4
    go_wp2_with fail
    refine (isUnused_any ⟨who, 2, ByteArray.empty, ByteArray.empty, tm, [], hs, 0, hd, to, r, no⟩ _ _ _ _ _ _ _).mono ?_
    rintro e w6 ⟨rfl, hb⟩
    have hB6 := hB5.trans (hb.mono hB5.size)
    clear hb hB5
    go_wp2_with fail
    go_ret
    exact ⟨ret_bool (by rw [HU.out]; rfl), hB6⟩
  · have HU : Hid (Gate.useChange l (⟨who, 2, kd, nm, tm, vs, hs, sn, hd, to, r, no⟩ : Ak) = false) := Bool.eq_false_iff.2 hu
    clear hu
    go_enter Tryz.func25, Tryz.ntmps25
    go_wp2_with fail
    obtain ⟨W0, hW0, hX0, hY0, hz0, hB0⟩ := pair_boxes w #[.slice la l.ss.length lca, .slice lb l.ms.length lcb, .slice lc l.ts.length lcc] #[.string who, .int .i64 2, .string kd, .string nm, .string tm, .slice a0 vs.length c0, .slice a1 hs.length c1, .int .i64 sn, .string hd, .string to, .slice a2 r.vs.length c2, .string r.kd, .string r.tm, .string r.px, .int .i64 no] 40 44
    rw [← hW0]
    clear hW0
    have hq0 := Nat.lt_of_succ_lt hz0
    refine (as_bool HN.out (isName_any who _ HX.out.small.who)).mono ?_
    rintro e w1 ⟨rfl, rfl⟩
    go_wp2_with fail
    refine (as_bool (show Gate.within 2 1 6 = true from rfl) (isWithin_any 2 1 6 _)).mono ?_
    rintro e w1 ⟨rfl, rfl⟩
    go_wp2_with fail
    have hX := box_later hX0 hq0 (Below.refl w1.heap.size w1).drew
    have hY := box_later hY0 hz0 (Below.refl w1.heap.size w1).drew
    have hz : w.heap.size + 1 < w1.drew.heap.size := hz0
    have hB := hB0.drew
    clear hX0 hY0 hz0 hB0 hq0
    have hix := index_change
    go_region_held3 (fun w' => (∀ j, w'.cell? ⟨w.heap.size, j, none⟩ = (#[.slice la l.ss.length lca, .slice lb l.ms.length lcb, .slice lc l.ts.length lcc] : Array Value)[j]?) ∧ ∀ j, w'.cell? ⟨w.heap.size + 1, j, none⟩ = (#[.string who, .int .i64 2, .string kd, .string nm, .string tm, .slice a0 vs.length c0, .slice a1 hs.length c1, .int .i64 sn, .string hd, .string to, .slice a2 r.vs.length c2, .string r.kd, .string r.tm, .string r.px, .int .i64 no] : Array Value)[j]?) (exact ⟨hX, hY⟩) (first
      | (go_at_call 53; refine (deeds_any _).mono ?_; rintro e w3 ⟨rfl, hb⟩; unfold deedsV; have hX := box_later hX (Nat.lt_of_succ_lt hz) hb; have hY := box_later hY hz hb; have hB := hB.trans (hb.mono hB.size); have hz := Nat.lt_of_lt_of_le hz hb.size; clear hb))
    have hm1 := method_change_isUse
    have hm2 := method_change_rest
    have hq := Nat.lt_of_succ_lt hz
    go_wp2_with fail
    refine (as_bool HU.out (changeUse_any l la lb lc lca lcb lcc (⟨who, 2, kd, nm, tm, vs, hs, sn, hd, to, r, no⟩ : Ak) a0 a1 a2 c0 c1 c2 _ (HL.out.mono hB) (HX.out.mono hB))).mono ?_
    rintro e w4 ⟨rfl, hb⟩
    have hX4 := box_later hX hq hb
    have hY4 := box_later hY hz hb
    have hz4 := Nat.lt_of_lt_of_le hz hb.size
    have hq4 := Nat.lt_of_lt_of_le hq hb.size
    have hB4 := hB.trans (hb.mono hB.size)
    clear hb hX hY hB hz hq
    go_wp2_with fail
    go_ret
    exact ⟨ret_bool (by rw [HU.out]; rfl), hB4⟩

set_option maxRecDepth 20000 in
set_option maxHeartbeats 4000000 in
theorem isAsk_end (l : Lw) (la lb lc : Option Addr) (lca lcb lcc : Nat) (who kd nm tm : ByteArray) (vs hs : List ByteArray) (sn : Int) (hd to : ByteArray) (r : Rl) (no : Int) (a0 a1 a2 : Option Addr) (c0 c1 c2 : Nat) (w : World) (hl : LwAt w l la lb lc) (hx : AkAt w (⟨who, 3, kd, nm, tm, vs, hs, sn, hd, to, r, no⟩ : Ak) a0 a1 a2) (hn : Gate.nameOk who = true) :
    Calls Tryz.prog 25 #[.agg (l.cells la lb lc lca lcb lcc), .agg ((⟨who, 3, kd, nm, tm, vs, hs, sn, hd, to, r, no⟩ : Ak).cells a0 a1 a2 c0 c1 c2)] w fun e w' => e = .returned (.bool (Gate.useEnd l (⟨who, 3, kd, nm, tm, vs, hs, sn, hd, to, r, no⟩ : Ak) && Gate.unused ⟨who, 3, ByteArray.empty, ByteArray.empty, tm, vs, hs, 0, hd, to, r, no⟩)) ∧ Below w.heap.size w w' := by
  have HL : Hid (LwAt w l la lb lc) := hl
  have HX : Hid (AkAt w (⟨who, 3, kd, nm, tm, vs, hs, sn, hd, to, r, no⟩ : Ak) a0 a1 a2) := hx
  have HN : Hid (Gate.nameOk who = true) := hn
  clear hl hx hn
  unfold Ak.cells Lw.cells
  dsimp only
  by_cases hu : Gate.useEnd l (⟨who, 3, kd, nm, tm, vs, hs, sn, hd, to, r, no⟩ : Ak) = true
  · have HU : Hid (Gate.useEnd l (⟨who, 3, kd, nm, tm, vs, hs, sn, hd, to, r, no⟩ : Ak) = true) := hu
    clear hu
    go_enter Tryz.func25, Tryz.ntmps25
    go_wp2_with fail
    obtain ⟨W0, hW0, hX0, hY0, hz0, hB0⟩ := pair_boxes w #[.slice la l.ss.length lca, .slice lb l.ms.length lcb, .slice lc l.ts.length lcc] #[.string who, .int .i64 3, .string kd, .string nm, .string tm, .slice a0 vs.length c0, .slice a1 hs.length c1, .int .i64 sn, .string hd, .string to, .slice a2 r.vs.length c2, .string r.kd, .string r.tm, .string r.px, .int .i64 no] 40 44
    rw [← hW0]
    clear hW0
    have hq0 := Nat.lt_of_succ_lt hz0
    refine (as_bool HN.out (isName_any who _ HX.out.small.who)).mono ?_
    rintro e w1 ⟨rfl, rfl⟩
    go_wp2_with fail
    refine (as_bool (show Gate.within 3 1 6 = true from rfl) (isWithin_any 3 1 6 _)).mono ?_
    rintro e w1 ⟨rfl, rfl⟩
    go_wp2_with fail
    have hX := box_later hX0 hq0 (Below.refl w1.heap.size w1).drew
    have hY := box_later hY0 hz0 (Below.refl w1.heap.size w1).drew
    have hz : w.heap.size + 1 < w1.drew.heap.size := hz0
    have hB := hB0.drew
    clear hX0 hY0 hz0 hB0 hq0
    have hix := index_end
    go_region_held3 (fun w' => (∀ j, w'.cell? ⟨w.heap.size, j, none⟩ = (#[.slice la l.ss.length lca, .slice lb l.ms.length lcb, .slice lc l.ts.length lcc] : Array Value)[j]?) ∧ ∀ j, w'.cell? ⟨w.heap.size + 1, j, none⟩ = (#[.string who, .int .i64 3, .string kd, .string nm, .string tm, .slice a0 vs.length c0, .slice a1 hs.length c1, .int .i64 sn, .string hd, .string to, .slice a2 r.vs.length c2, .string r.kd, .string r.tm, .string r.px, .int .i64 no] : Array Value)[j]?) (exact ⟨hX, hY⟩) (first
      | (go_at_call 53; refine (deeds_any _).mono ?_; rintro e w3 ⟨rfl, hb⟩; unfold deedsV; have hX := box_later hX (Nat.lt_of_succ_lt hz) hb; have hY := box_later hY hz hb; have hB := hB.trans (hb.mono hB.size); have hz := Nat.lt_of_lt_of_le hz hb.size; clear hb))
    have hm1 := method_end_isUse
    have hm2 := method_end_rest
    have hq := Nat.lt_of_succ_lt hz
    go_wp2_with fail
    refine (as_bool HU.out (endUse_any l la lb lc lca lcb lcc (⟨who, 3, kd, nm, tm, vs, hs, sn, hd, to, r, no⟩ : Ak) a0 a1 a2 c0 c1 c2 _ (HL.out.mono hB) (HX.out.mono hB))).mono ?_
    rintro e w4 ⟨rfl, hb⟩
    have hX4 := box_later hX hq hb
    have hY4 := box_later hY hz hb
    have hz4 := Nat.lt_of_lt_of_le hz hb.size
    have hq4 := Nat.lt_of_lt_of_le hq hb.size
    have hB4 := hB.trans (hb.mono hB.size)
    clear hb hX hY hB hz hq
    go_wp2_with fail
    refine (endRest_any (⟨who, 3, kd, nm, tm, vs, hs, sn, hd, to, r, no⟩ : Ak) a0 a1 a2 c0 c1 c2 _).mono ?_
    rintro e w5 ⟨rfl, hb⟩
    have hB5 := hB4.trans (hb.mono hB4.size)
    clear hb hX4 hY4 hz4 hq4 hB4
    go_wp2_with fail
    refine (isUnused_any ⟨who, 3, ByteArray.empty, ByteArray.empty, tm, vs, hs, 0, hd, to, r, no⟩ _ _ _ _ _ _ _).mono ?_
    rintro e w6 ⟨rfl, hb⟩
    have hB6 := hB5.trans (hb.mono hB5.size)
    clear hb hB5
    go_wp2_with fail
    go_ret
    exact ⟨ret_bool (by rw [HU.out]; rfl), hB6⟩
  · have HU : Hid (Gate.useEnd l (⟨who, 3, kd, nm, tm, vs, hs, sn, hd, to, r, no⟩ : Ak) = false) := Bool.eq_false_iff.2 hu
    clear hu
    go_enter Tryz.func25, Tryz.ntmps25
    go_wp2_with fail
    obtain ⟨W0, hW0, hX0, hY0, hz0, hB0⟩ := pair_boxes w #[.slice la l.ss.length lca, .slice lb l.ms.length lcb, .slice lc l.ts.length lcc] #[.string who, .int .i64 3, .string kd, .string nm, .string tm, .slice a0 vs.length c0, .slice a1 hs.length c1, .int .i64 sn, .string hd, .string to, .slice a2 r.vs.length c2, .string r.kd, .string r.tm, .string r.px, .int .i64 no] 40 44
    rw [← hW0]
    clear hW0
    have hq0 := Nat.lt_of_succ_lt hz0
    refine (as_bool HN.out (isName_any who _ HX.out.small.who)).mono ?_
    rintro e w1 ⟨rfl, rfl⟩
    go_wp2_with fail
    refine (as_bool (show Gate.within 3 1 6 = true from rfl) (isWithin_any 3 1 6 _)).mono ?_
    rintro e w1 ⟨rfl, rfl⟩
    go_wp2_with fail
    have hX := box_later hX0 hq0 (Below.refl w1.heap.size w1).drew
    have hY := box_later hY0 hz0 (Below.refl w1.heap.size w1).drew
    have hz : w.heap.size + 1 < w1.drew.heap.size := hz0
    have hB := hB0.drew
    clear hX0 hY0 hz0 hB0 hq0
    have hix := index_end
    go_region_held3 (fun w' => (∀ j, w'.cell? ⟨w.heap.size, j, none⟩ = (#[.slice la l.ss.length lca, .slice lb l.ms.length lcb, .slice lc l.ts.length lcc] : Array Value)[j]?) ∧ ∀ j, w'.cell? ⟨w.heap.size + 1, j, none⟩ = (#[.string who, .int .i64 3, .string kd, .string nm, .string tm, .slice a0 vs.length c0, .slice a1 hs.length c1, .int .i64 sn, .string hd, .string to, .slice a2 r.vs.length c2, .string r.kd, .string r.tm, .string r.px, .int .i64 no] : Array Value)[j]?) (exact ⟨hX, hY⟩) (first
      | (go_at_call 53; refine (deeds_any _).mono ?_; rintro e w3 ⟨rfl, hb⟩; unfold deedsV; have hX := box_later hX (Nat.lt_of_succ_lt hz) hb; have hY := box_later hY hz hb; have hB := hB.trans (hb.mono hB.size); have hz := Nat.lt_of_lt_of_le hz hb.size; clear hb))
    have hm1 := method_end_isUse
    have hm2 := method_end_rest
    have hq := Nat.lt_of_succ_lt hz
    go_wp2_with fail
    refine (as_bool HU.out (endUse_any l la lb lc lca lcb lcc (⟨who, 3, kd, nm, tm, vs, hs, sn, hd, to, r, no⟩ : Ak) a0 a1 a2 c0 c1 c2 _ (HL.out.mono hB) (HX.out.mono hB))).mono ?_
    rintro e w4 ⟨rfl, hb⟩
    have hX4 := box_later hX hq hb
    have hY4 := box_later hY hz hb
    have hz4 := Nat.lt_of_lt_of_le hz hb.size
    have hq4 := Nat.lt_of_lt_of_le hq hb.size
    have hB4 := hB.trans (hb.mono hB.size)
    clear hb hX hY hB hz hq
    go_wp2_with fail
    go_ret
    exact ⟨ret_bool (by rw [HU.out]; rfl), hB4⟩

set_option maxRecDepth 20000 in
set_option maxHeartbeats 4000000 in
theorem isAsk_letGo (l : Lw) (la lb lc : Option Addr) (lca lcb lcc : Nat) (who kd nm tm : ByteArray) (vs hs : List ByteArray) (sn : Int) (hd to : ByteArray) (r : Rl) (no : Int) (a0 a1 a2 : Option Addr) (c0 c1 c2 : Nat) (w : World) (hl : LwAt w l la lb lc) (hx : AkAt w (⟨who, 4, kd, nm, tm, vs, hs, sn, hd, to, r, no⟩ : Ak) a0 a1 a2) (hn : Gate.nameOk who = true) :
    Calls Tryz.prog 25 #[.agg (l.cells la lb lc lca lcb lcc), .agg ((⟨who, 4, kd, nm, tm, vs, hs, sn, hd, to, r, no⟩ : Ak).cells a0 a1 a2 c0 c1 c2)] w fun e w' => e = .returned (.bool (Gate.useLetGo l (⟨who, 4, kd, nm, tm, vs, hs, sn, hd, to, r, no⟩ : Ak) && Gate.unused ⟨who, 4, ByteArray.empty, ByteArray.empty, tm, vs, hs, sn, ByteArray.empty, to, r, no⟩)) ∧ Below w.heap.size w w' := by
  have HL : Hid (LwAt w l la lb lc) := hl
  have HX : Hid (AkAt w (⟨who, 4, kd, nm, tm, vs, hs, sn, hd, to, r, no⟩ : Ak) a0 a1 a2) := hx
  have HN : Hid (Gate.nameOk who = true) := hn
  clear hl hx hn
  unfold Ak.cells Lw.cells
  dsimp only
  by_cases hu : Gate.useLetGo l (⟨who, 4, kd, nm, tm, vs, hs, sn, hd, to, r, no⟩ : Ak) = true
  · have HU : Hid (Gate.useLetGo l (⟨who, 4, kd, nm, tm, vs, hs, sn, hd, to, r, no⟩ : Ak) = true) := hu
    clear hu
    go_enter Tryz.func25, Tryz.ntmps25
    go_wp2_with fail
    obtain ⟨W0, hW0, hX0, hY0, hz0, hB0⟩ := pair_boxes w #[.slice la l.ss.length lca, .slice lb l.ms.length lcb, .slice lc l.ts.length lcc] #[.string who, .int .i64 4, .string kd, .string nm, .string tm, .slice a0 vs.length c0, .slice a1 hs.length c1, .int .i64 sn, .string hd, .string to, .slice a2 r.vs.length c2, .string r.kd, .string r.tm, .string r.px, .int .i64 no] 40 44
    rw [← hW0]
    clear hW0
    have hq0 := Nat.lt_of_succ_lt hz0
    refine (as_bool HN.out (isName_any who _ HX.out.small.who)).mono ?_
    rintro e w1 ⟨rfl, rfl⟩
    go_wp2_with fail
    refine (as_bool (show Gate.within 4 1 6 = true from rfl) (isWithin_any 4 1 6 _)).mono ?_
    rintro e w1 ⟨rfl, rfl⟩
    go_wp2_with fail
    have hX := box_later hX0 hq0 (Below.refl w1.heap.size w1).drew
    have hY := box_later hY0 hz0 (Below.refl w1.heap.size w1).drew
    have hz : w.heap.size + 1 < w1.drew.heap.size := hz0
    have hB := hB0.drew
    clear hX0 hY0 hz0 hB0 hq0
    have hix := index_letGo
    go_region_held3 (fun w' => (∀ j, w'.cell? ⟨w.heap.size, j, none⟩ = (#[.slice la l.ss.length lca, .slice lb l.ms.length lcb, .slice lc l.ts.length lcc] : Array Value)[j]?) ∧ ∀ j, w'.cell? ⟨w.heap.size + 1, j, none⟩ = (#[.string who, .int .i64 4, .string kd, .string nm, .string tm, .slice a0 vs.length c0, .slice a1 hs.length c1, .int .i64 sn, .string hd, .string to, .slice a2 r.vs.length c2, .string r.kd, .string r.tm, .string r.px, .int .i64 no] : Array Value)[j]?) (exact ⟨hX, hY⟩) (first
      | (go_at_call 53; refine (deeds_any _).mono ?_; rintro e w3 ⟨rfl, hb⟩; unfold deedsV; have hX := box_later hX (Nat.lt_of_succ_lt hz) hb; have hY := box_later hY hz hb; have hB := hB.trans (hb.mono hB.size); have hz := Nat.lt_of_lt_of_le hz hb.size; clear hb))
    have hm1 := method_letGo_isUse
    have hm2 := method_letGo_rest
    have hq := Nat.lt_of_succ_lt hz
    go_wp2_with fail
    refine (as_bool HU.out (letGoUse_any l la lb lc lca lcb lcc (⟨who, 4, kd, nm, tm, vs, hs, sn, hd, to, r, no⟩ : Ak) a0 a1 a2 c0 c1 c2 _ (HL.out.mono hB) (HX.out.mono hB))).mono ?_
    rintro e w4 ⟨rfl, hb⟩
    have hX4 := box_later hX hq hb
    have hY4 := box_later hY hz hb
    have hz4 := Nat.lt_of_lt_of_le hz hb.size
    have hq4 := Nat.lt_of_lt_of_le hq hb.size
    have hB4 := hB.trans (hb.mono hB.size)
    clear hb hX hY hB hz hq
    go_wp2_with fail
    refine (letGoRest_any (⟨who, 4, kd, nm, tm, vs, hs, sn, hd, to, r, no⟩ : Ak) a0 a1 a2 c0 c1 c2 _).mono ?_
    rintro e w5 ⟨rfl, hb⟩
    have hB5 := hB4.trans (hb.mono hB4.size)
    clear hb hX4 hY4 hz4 hq4 hB4
    go_wp2_with fail
    refine (isUnused_any ⟨who, 4, ByteArray.empty, ByteArray.empty, tm, vs, hs, sn, ByteArray.empty, to, r, no⟩ _ _ _ _ _ _ _).mono ?_
    rintro e w6 ⟨rfl, hb⟩
    have hB6 := hB5.trans (hb.mono hB5.size)
    clear hb hB5
    go_wp2_with fail
    go_ret
    exact ⟨ret_bool (by rw [HU.out]; rfl), hB6⟩
  · have HU : Hid (Gate.useLetGo l (⟨who, 4, kd, nm, tm, vs, hs, sn, hd, to, r, no⟩ : Ak) = false) := Bool.eq_false_iff.2 hu
    clear hu
    go_enter Tryz.func25, Tryz.ntmps25
    go_wp2_with fail
    obtain ⟨W0, hW0, hX0, hY0, hz0, hB0⟩ := pair_boxes w #[.slice la l.ss.length lca, .slice lb l.ms.length lcb, .slice lc l.ts.length lcc] #[.string who, .int .i64 4, .string kd, .string nm, .string tm, .slice a0 vs.length c0, .slice a1 hs.length c1, .int .i64 sn, .string hd, .string to, .slice a2 r.vs.length c2, .string r.kd, .string r.tm, .string r.px, .int .i64 no] 40 44
    rw [← hW0]
    clear hW0
    have hq0 := Nat.lt_of_succ_lt hz0
    refine (as_bool HN.out (isName_any who _ HX.out.small.who)).mono ?_
    rintro e w1 ⟨rfl, rfl⟩
    go_wp2_with fail
    refine (as_bool (show Gate.within 4 1 6 = true from rfl) (isWithin_any 4 1 6 _)).mono ?_
    rintro e w1 ⟨rfl, rfl⟩
    go_wp2_with fail
    have hX := box_later hX0 hq0 (Below.refl w1.heap.size w1).drew
    have hY := box_later hY0 hz0 (Below.refl w1.heap.size w1).drew
    have hz : w.heap.size + 1 < w1.drew.heap.size := hz0
    have hB := hB0.drew
    clear hX0 hY0 hz0 hB0 hq0
    have hix := index_letGo
    go_region_held3 (fun w' => (∀ j, w'.cell? ⟨w.heap.size, j, none⟩ = (#[.slice la l.ss.length lca, .slice lb l.ms.length lcb, .slice lc l.ts.length lcc] : Array Value)[j]?) ∧ ∀ j, w'.cell? ⟨w.heap.size + 1, j, none⟩ = (#[.string who, .int .i64 4, .string kd, .string nm, .string tm, .slice a0 vs.length c0, .slice a1 hs.length c1, .int .i64 sn, .string hd, .string to, .slice a2 r.vs.length c2, .string r.kd, .string r.tm, .string r.px, .int .i64 no] : Array Value)[j]?) (exact ⟨hX, hY⟩) (first
      | (go_at_call 53; refine (deeds_any _).mono ?_; rintro e w3 ⟨rfl, hb⟩; unfold deedsV; have hX := box_later hX (Nat.lt_of_succ_lt hz) hb; have hY := box_later hY hz hb; have hB := hB.trans (hb.mono hB.size); have hz := Nat.lt_of_lt_of_le hz hb.size; clear hb))
    have hm1 := method_letGo_isUse
    have hm2 := method_letGo_rest
    have hq := Nat.lt_of_succ_lt hz
    go_wp2_with fail
    refine (as_bool HU.out (letGoUse_any l la lb lc lca lcb lcc (⟨who, 4, kd, nm, tm, vs, hs, sn, hd, to, r, no⟩ : Ak) a0 a1 a2 c0 c1 c2 _ (HL.out.mono hB) (HX.out.mono hB))).mono ?_
    rintro e w4 ⟨rfl, hb⟩
    have hX4 := box_later hX hq hb
    have hY4 := box_later hY hz hb
    have hz4 := Nat.lt_of_lt_of_le hz hb.size
    have hq4 := Nat.lt_of_lt_of_le hq hb.size
    have hB4 := hB.trans (hb.mono hB.size)
    clear hb hX hY hB hz hq
    go_wp2_with fail
    go_ret
    exact ⟨ret_bool (by rw [HU.out]; rfl), hB4⟩

set_option maxRecDepth 20000 in
set_option maxHeartbeats 4000000 in
theorem isAsk_give (l : Lw) (la lb lc : Option Addr) (lca lcb lcc : Nat) (who kd nm tm : ByteArray) (vs hs : List ByteArray) (sn : Int) (hd to : ByteArray) (r : Rl) (no : Int) (a0 a1 a2 : Option Addr) (c0 c1 c2 : Nat) (w : World) (hl : LwAt w l la lb lc) (hx : AkAt w (⟨who, 5, kd, nm, tm, vs, hs, sn, hd, to, r, no⟩ : Ak) a0 a1 a2) (hn : Gate.nameOk who = true) :
    Calls Tryz.prog 25 #[.agg (l.cells la lb lc lca lcb lcc), .agg ((⟨who, 5, kd, nm, tm, vs, hs, sn, hd, to, r, no⟩ : Ak).cells a0 a1 a2 c0 c1 c2)] w fun e w' => e = .returned (.bool (Gate.useGive (⟨who, 5, kd, nm, tm, vs, hs, sn, hd, to, r, no⟩ : Ak) && Gate.unused ⟨who, 5, kd, nm, tm, vs, hs, sn, hd, ByteArray.empty, Gate.noRule, no⟩)) ∧ Below w.heap.size w w' := by
  have HL : Hid (LwAt w l la lb lc) := hl
  have HX : Hid (AkAt w (⟨who, 5, kd, nm, tm, vs, hs, sn, hd, to, r, no⟩ : Ak) a0 a1 a2) := hx
  have HN : Hid (Gate.nameOk who = true) := hn
  clear hl hx hn
  unfold Ak.cells Lw.cells
  dsimp only
  by_cases hu : Gate.useGive (⟨who, 5, kd, nm, tm, vs, hs, sn, hd, to, r, no⟩ : Ak) = true
  · have HU : Hid (Gate.useGive (⟨who, 5, kd, nm, tm, vs, hs, sn, hd, to, r, no⟩ : Ak) = true) := hu
    clear hu
    go_enter Tryz.func25, Tryz.ntmps25
    go_wp2_with fail
    obtain ⟨W0, hW0, hX0, hY0, hz0, hB0⟩ := pair_boxes w #[.slice la l.ss.length lca, .slice lb l.ms.length lcb, .slice lc l.ts.length lcc] #[.string who, .int .i64 5, .string kd, .string nm, .string tm, .slice a0 vs.length c0, .slice a1 hs.length c1, .int .i64 sn, .string hd, .string to, .slice a2 r.vs.length c2, .string r.kd, .string r.tm, .string r.px, .int .i64 no] 40 44
    rw [← hW0]
    clear hW0
    have hq0 := Nat.lt_of_succ_lt hz0
    refine (as_bool HN.out (isName_any who _ HX.out.small.who)).mono ?_
    rintro e w1 ⟨rfl, rfl⟩
    go_wp2_with fail
    refine (as_bool (show Gate.within 5 1 6 = true from rfl) (isWithin_any 5 1 6 _)).mono ?_
    rintro e w1 ⟨rfl, rfl⟩
    go_wp2_with fail
    have hX := box_later hX0 hq0 (Below.refl w1.heap.size w1).drew
    have hY := box_later hY0 hz0 (Below.refl w1.heap.size w1).drew
    have hz : w.heap.size + 1 < w1.drew.heap.size := hz0
    have hB := hB0.drew
    clear hX0 hY0 hz0 hB0 hq0
    have hix := index_give
    go_region_held3 (fun w' => (∀ j, w'.cell? ⟨w.heap.size, j, none⟩ = (#[.slice la l.ss.length lca, .slice lb l.ms.length lcb, .slice lc l.ts.length lcc] : Array Value)[j]?) ∧ ∀ j, w'.cell? ⟨w.heap.size + 1, j, none⟩ = (#[.string who, .int .i64 5, .string kd, .string nm, .string tm, .slice a0 vs.length c0, .slice a1 hs.length c1, .int .i64 sn, .string hd, .string to, .slice a2 r.vs.length c2, .string r.kd, .string r.tm, .string r.px, .int .i64 no] : Array Value)[j]?) (exact ⟨hX, hY⟩) (first
      | (go_at_call 53; refine (deeds_any _).mono ?_; rintro e w3 ⟨rfl, hb⟩; unfold deedsV; have hX := box_later hX (Nat.lt_of_succ_lt hz) hb; have hY := box_later hY hz hb; have hB := hB.trans (hb.mono hB.size); have hz := Nat.lt_of_lt_of_le hz hb.size; clear hb))
    have hm1 := method_give_isUse
    have hm2 := method_give_rest
    have hq := Nat.lt_of_succ_lt hz
    go_wp2_with fail
    refine (as_bool HU.out (giveUse_any l la lb lc lca lcb lcc (⟨who, 5, kd, nm, tm, vs, hs, sn, hd, to, r, no⟩ : Ak) a0 a1 a2 c0 c1 c2 _ (HL.out.mono hB) (HX.out.mono hB))).mono ?_
    rintro e w4 ⟨rfl, hb⟩
    have hX4 := box_later hX hq hb
    have hY4 := box_later hY hz hb
    have hz4 := Nat.lt_of_lt_of_le hz hb.size
    have hq4 := Nat.lt_of_lt_of_le hq hb.size
    have hB4 := hB.trans (hb.mono hB.size)
    clear hb hX hY hB hz hq
    go_wp2_with fail
    refine (giveRest_any (⟨who, 5, kd, nm, tm, vs, hs, sn, hd, to, r, no⟩ : Ak) a0 a1 a2 c0 c1 c2 _).mono ?_
    rintro e w5 ⟨rfl, hb⟩
    have hB5 := hB4.trans (hb.mono hB4.size)
    clear hb hX4 hY4 hz4 hq4 hB4
    go_wp2_with fail
    refine (isUnused_any ⟨who, 5, kd, nm, tm, vs, hs, sn, hd, ByteArray.empty, Gate.noRule, no⟩ _ _ _ _ _ _ _).mono ?_
    rintro e w6 ⟨rfl, hb⟩
    have hB6 := hB5.trans (hb.mono hB5.size)
    clear hb hB5
    go_wp2_with fail
    go_ret
    exact ⟨ret_bool (by rw [HU.out]; rfl), hB6⟩
  · have HU : Hid (Gate.useGive (⟨who, 5, kd, nm, tm, vs, hs, sn, hd, to, r, no⟩ : Ak) = false) := Bool.eq_false_iff.2 hu
    clear hu
    go_enter Tryz.func25, Tryz.ntmps25
    go_wp2_with fail
    obtain ⟨W0, hW0, hX0, hY0, hz0, hB0⟩ := pair_boxes w #[.slice la l.ss.length lca, .slice lb l.ms.length lcb, .slice lc l.ts.length lcc] #[.string who, .int .i64 5, .string kd, .string nm, .string tm, .slice a0 vs.length c0, .slice a1 hs.length c1, .int .i64 sn, .string hd, .string to, .slice a2 r.vs.length c2, .string r.kd, .string r.tm, .string r.px, .int .i64 no] 40 44
    rw [← hW0]
    clear hW0
    have hq0 := Nat.lt_of_succ_lt hz0
    refine (as_bool HN.out (isName_any who _ HX.out.small.who)).mono ?_
    rintro e w1 ⟨rfl, rfl⟩
    go_wp2_with fail
    refine (as_bool (show Gate.within 5 1 6 = true from rfl) (isWithin_any 5 1 6 _)).mono ?_
    rintro e w1 ⟨rfl, rfl⟩
    go_wp2_with fail
    have hX := box_later hX0 hq0 (Below.refl w1.heap.size w1).drew
    have hY := box_later hY0 hz0 (Below.refl w1.heap.size w1).drew
    have hz : w.heap.size + 1 < w1.drew.heap.size := hz0
    have hB := hB0.drew
    clear hX0 hY0 hz0 hB0 hq0
    have hix := index_give
    go_region_held3 (fun w' => (∀ j, w'.cell? ⟨w.heap.size, j, none⟩ = (#[.slice la l.ss.length lca, .slice lb l.ms.length lcb, .slice lc l.ts.length lcc] : Array Value)[j]?) ∧ ∀ j, w'.cell? ⟨w.heap.size + 1, j, none⟩ = (#[.string who, .int .i64 5, .string kd, .string nm, .string tm, .slice a0 vs.length c0, .slice a1 hs.length c1, .int .i64 sn, .string hd, .string to, .slice a2 r.vs.length c2, .string r.kd, .string r.tm, .string r.px, .int .i64 no] : Array Value)[j]?) (exact ⟨hX, hY⟩) (first
      | (go_at_call 53; refine (deeds_any _).mono ?_; rintro e w3 ⟨rfl, hb⟩; unfold deedsV; have hX := box_later hX (Nat.lt_of_succ_lt hz) hb; have hY := box_later hY hz hb; have hB := hB.trans (hb.mono hB.size); have hz := Nat.lt_of_lt_of_le hz hb.size; clear hb))
    have hm1 := method_give_isUse
    have hm2 := method_give_rest
    have hq := Nat.lt_of_succ_lt hz
    go_wp2_with fail
    refine (as_bool HU.out (giveUse_any l la lb lc lca lcb lcc (⟨who, 5, kd, nm, tm, vs, hs, sn, hd, to, r, no⟩ : Ak) a0 a1 a2 c0 c1 c2 _ (HL.out.mono hB) (HX.out.mono hB))).mono ?_
    rintro e w4 ⟨rfl, hb⟩
    have hX4 := box_later hX hq hb
    have hY4 := box_later hY hz hb
    have hz4 := Nat.lt_of_lt_of_le hz hb.size
    have hq4 := Nat.lt_of_lt_of_le hq hb.size
    have hB4 := hB.trans (hb.mono hB.size)
    clear hb hX hY hB hz hq
    go_wp2_with fail
    go_ret
    exact ⟨ret_bool (by rw [HU.out]; rfl), hB4⟩

set_option maxRecDepth 20000 in
set_option maxHeartbeats 4000000 in
theorem isAsk_take (l : Lw) (la lb lc : Option Addr) (lca lcb lcc : Nat) (who kd nm tm : ByteArray) (vs hs : List ByteArray) (sn : Int) (hd to : ByteArray) (r : Rl) (no : Int) (a0 a1 a2 : Option Addr) (c0 c1 c2 : Nat) (w : World) (hl : LwAt w l la lb lc) (hx : AkAt w (⟨who, 6, kd, nm, tm, vs, hs, sn, hd, to, r, no⟩ : Ak) a0 a1 a2) (hn : Gate.nameOk who = true) :
    Calls Tryz.prog 25 #[.agg (l.cells la lb lc lca lcb lcc), .agg ((⟨who, 6, kd, nm, tm, vs, hs, sn, hd, to, r, no⟩ : Ak).cells a0 a1 a2 c0 c1 c2)] w fun e w' => e = .returned (.bool (Gate.useTake (⟨who, 6, kd, nm, tm, vs, hs, sn, hd, to, r, no⟩ : Ak) && Gate.unused ⟨who, 6, kd, nm, tm, vs, hs, sn, hd, to, r, 0⟩)) ∧ Below w.heap.size w w' := by
  have HL : Hid (LwAt w l la lb lc) := hl
  have HX : Hid (AkAt w (⟨who, 6, kd, nm, tm, vs, hs, sn, hd, to, r, no⟩ : Ak) a0 a1 a2) := hx
  have HN : Hid (Gate.nameOk who = true) := hn
  clear hl hx hn
  unfold Ak.cells Lw.cells
  dsimp only
  by_cases hu : Gate.useTake (⟨who, 6, kd, nm, tm, vs, hs, sn, hd, to, r, no⟩ : Ak) = true
  · have HU : Hid (Gate.useTake (⟨who, 6, kd, nm, tm, vs, hs, sn, hd, to, r, no⟩ : Ak) = true) := hu
    clear hu
    go_enter Tryz.func25, Tryz.ntmps25
    go_wp2_with fail
    obtain ⟨W0, hW0, hX0, hY0, hz0, hB0⟩ := pair_boxes w #[.slice la l.ss.length lca, .slice lb l.ms.length lcb, .slice lc l.ts.length lcc] #[.string who, .int .i64 6, .string kd, .string nm, .string tm, .slice a0 vs.length c0, .slice a1 hs.length c1, .int .i64 sn, .string hd, .string to, .slice a2 r.vs.length c2, .string r.kd, .string r.tm, .string r.px, .int .i64 no] 40 44
    rw [← hW0]
    clear hW0
    have hq0 := Nat.lt_of_succ_lt hz0
    refine (as_bool HN.out (isName_any who _ HX.out.small.who)).mono ?_
    rintro e w1 ⟨rfl, rfl⟩
    go_wp2_with fail
    refine (as_bool (show Gate.within 6 1 6 = true from rfl) (isWithin_any 6 1 6 _)).mono ?_
    rintro e w1 ⟨rfl, rfl⟩
    go_wp2_with fail
    have hX := box_later hX0 hq0 (Below.refl w1.heap.size w1).drew
    have hY := box_later hY0 hz0 (Below.refl w1.heap.size w1).drew
    have hz : w.heap.size + 1 < w1.drew.heap.size := hz0
    have hB := hB0.drew
    clear hX0 hY0 hz0 hB0 hq0
    have hix := index_take
    go_region_held3 (fun w' => (∀ j, w'.cell? ⟨w.heap.size, j, none⟩ = (#[.slice la l.ss.length lca, .slice lb l.ms.length lcb, .slice lc l.ts.length lcc] : Array Value)[j]?) ∧ ∀ j, w'.cell? ⟨w.heap.size + 1, j, none⟩ = (#[.string who, .int .i64 6, .string kd, .string nm, .string tm, .slice a0 vs.length c0, .slice a1 hs.length c1, .int .i64 sn, .string hd, .string to, .slice a2 r.vs.length c2, .string r.kd, .string r.tm, .string r.px, .int .i64 no] : Array Value)[j]?) (exact ⟨hX, hY⟩) (first
      | (go_at_call 53; refine (deeds_any _).mono ?_; rintro e w3 ⟨rfl, hb⟩; unfold deedsV; have hX := box_later hX (Nat.lt_of_succ_lt hz) hb; have hY := box_later hY hz hb; have hB := hB.trans (hb.mono hB.size); have hz := Nat.lt_of_lt_of_le hz hb.size; clear hb))
    have hm1 := method_take_isUse
    have hm2 := method_take_rest
    have hq := Nat.lt_of_succ_lt hz
    go_wp2_with fail
    refine (as_bool HU.out (takeUse_any l la lb lc lca lcb lcc (⟨who, 6, kd, nm, tm, vs, hs, sn, hd, to, r, no⟩ : Ak) a0 a1 a2 c0 c1 c2 _ (HL.out.mono hB) (HX.out.mono hB))).mono ?_
    rintro e w4 ⟨rfl, hb⟩
    have hX4 := box_later hX hq hb
    have hY4 := box_later hY hz hb
    have hz4 := Nat.lt_of_lt_of_le hz hb.size
    have hq4 := Nat.lt_of_lt_of_le hq hb.size
    have hB4 := hB.trans (hb.mono hB.size)
    clear hb hX hY hB hz hq
    go_wp2_with fail
    refine (takeRest_any (⟨who, 6, kd, nm, tm, vs, hs, sn, hd, to, r, no⟩ : Ak) a0 a1 a2 c0 c1 c2 _).mono ?_
    rintro e w5 ⟨rfl, hb⟩
    have hB5 := hB4.trans (hb.mono hB4.size)
    clear hb hX4 hY4 hz4 hq4 hB4
    go_wp2_with fail
    refine (isUnused_any ⟨who, 6, kd, nm, tm, vs, hs, sn, hd, to, r, 0⟩ _ _ _ _ _ _ _).mono ?_
    rintro e w6 ⟨rfl, hb⟩
    have hB6 := hB5.trans (hb.mono hB5.size)
    clear hb hB5
    go_wp2_with fail
    go_ret
    exact ⟨ret_bool (by rw [HU.out]; rfl), hB6⟩
  · have HU : Hid (Gate.useTake (⟨who, 6, kd, nm, tm, vs, hs, sn, hd, to, r, no⟩ : Ak) = false) := Bool.eq_false_iff.2 hu
    clear hu
    go_enter Tryz.func25, Tryz.ntmps25
    go_wp2_with fail
    obtain ⟨W0, hW0, hX0, hY0, hz0, hB0⟩ := pair_boxes w #[.slice la l.ss.length lca, .slice lb l.ms.length lcb, .slice lc l.ts.length lcc] #[.string who, .int .i64 6, .string kd, .string nm, .string tm, .slice a0 vs.length c0, .slice a1 hs.length c1, .int .i64 sn, .string hd, .string to, .slice a2 r.vs.length c2, .string r.kd, .string r.tm, .string r.px, .int .i64 no] 40 44
    rw [← hW0]
    clear hW0
    have hq0 := Nat.lt_of_succ_lt hz0
    refine (as_bool HN.out (isName_any who _ HX.out.small.who)).mono ?_
    rintro e w1 ⟨rfl, rfl⟩
    go_wp2_with fail
    refine (as_bool (show Gate.within 6 1 6 = true from rfl) (isWithin_any 6 1 6 _)).mono ?_
    rintro e w1 ⟨rfl, rfl⟩
    go_wp2_with fail
    have hX := box_later hX0 hq0 (Below.refl w1.heap.size w1).drew
    have hY := box_later hY0 hz0 (Below.refl w1.heap.size w1).drew
    have hz : w.heap.size + 1 < w1.drew.heap.size := hz0
    have hB := hB0.drew
    clear hX0 hY0 hz0 hB0 hq0
    have hix := index_take
    go_region_held3 (fun w' => (∀ j, w'.cell? ⟨w.heap.size, j, none⟩ = (#[.slice la l.ss.length lca, .slice lb l.ms.length lcb, .slice lc l.ts.length lcc] : Array Value)[j]?) ∧ ∀ j, w'.cell? ⟨w.heap.size + 1, j, none⟩ = (#[.string who, .int .i64 6, .string kd, .string nm, .string tm, .slice a0 vs.length c0, .slice a1 hs.length c1, .int .i64 sn, .string hd, .string to, .slice a2 r.vs.length c2, .string r.kd, .string r.tm, .string r.px, .int .i64 no] : Array Value)[j]?) (exact ⟨hX, hY⟩) (first
      | (go_at_call 53; refine (deeds_any _).mono ?_; rintro e w3 ⟨rfl, hb⟩; unfold deedsV; have hX := box_later hX (Nat.lt_of_succ_lt hz) hb; have hY := box_later hY hz hb; have hB := hB.trans (hb.mono hB.size); have hz := Nat.lt_of_lt_of_le hz hb.size; clear hb))
    have hm1 := method_take_isUse
    have hm2 := method_take_rest
    have hq := Nat.lt_of_succ_lt hz
    go_wp2_with fail
    refine (as_bool HU.out (takeUse_any l la lb lc lca lcb lcc (⟨who, 6, kd, nm, tm, vs, hs, sn, hd, to, r, no⟩ : Ak) a0 a1 a2 c0 c1 c2 _ (HL.out.mono hB) (HX.out.mono hB))).mono ?_
    rintro e w4 ⟨rfl, hb⟩
    have hX4 := box_later hX hq hb
    have hY4 := box_later hY hz hb
    have hz4 := Nat.lt_of_lt_of_le hz hb.size
    have hq4 := Nat.lt_of_lt_of_le hq hb.size
    have hB4 := hB.trans (hb.mono hB.size)
    clear hb hX hY hB hz hq
    go_wp2_with fail
    go_ret
    exact ⟨ret_bool (by rw [HU.out]; rfl), hB4⟩

end Go.Proofs.YthldiefbpemoaaaGreat

namespace Go.Proofs.YthldiefbpemoaaaGreat
open Go.RowKit

set_option maxHeartbeats 1000000 in
theorem l8Rest_1 (who kd nm tm : ByteArray) (vs hs : List ByteArray) (sn : Int) (hd to : ByteArray) (r : Rl) (no : Int) (a0 a1 a2 : Option Addr) (c0 c1 c2 : Nat) (w : World) :
    Calls Tryz.prog 40 #[.agg ((⟨who, 1, kd, nm, tm, vs, hs, sn, hd, to, r, no⟩ : Ak).cells a0 a1 a2 c0 c1 c2)] w fun e w' => e = .returned (.agg ((⟨ByteArray.empty, 1, ByteArray.empty, ByteArray.empty, ByteArray.empty, [], [], sn, hd, to, r, no⟩ : Ak).cells none none a2 0 0 c2)) ∧ Below w.heap.size w w' := by
  have HB : Hid (∀ o1 o2, Below w.heap.size w ((w.alloc o1).alloc o2)) := fun o1 o2 => below2' w o1 o2
  unfold Ak.cells
  dsimp only
  go_enter Tryz.func40, Tryz.ntmps40
  go_wp2_with fail
  refine bodyPost_ret (v := .agg ((⟨ByteArray.empty, 1, ByteArray.empty, ByteArray.empty, ByteArray.empty, [], [], sn, hd, to, r, no⟩ : Ak).cells none none a2 0 0 c2)) (by simp [results, Tryz.results40, go_sem]; rfl) rfl ⟨rfl, ?_⟩
  exact HB.out _ _

set_option maxHeartbeats 1000000 in
theorem l8Rest_2 (who kd nm tm : ByteArray) (vs hs : List ByteArray) (sn : Int) (hd to : ByteArray) (r : Rl) (no : Int) (a0 a1 a2 : Option Addr) (c0 c1 c2 : Nat) (w : World) :
    Calls Tryz.prog 40 #[.agg ((⟨who, 2, kd, nm, tm, vs, hs, sn, hd, to, r, no⟩ : Ak).cells a0 a1 a2 c0 c1 c2)] w fun e w' => e = .returned (.agg ((⟨ByteArray.empty, 2, ByteArray.empty, ByteArray.empty, tm, [], hs, 0, hd, to, r, no⟩ : Ak).cells none a1 a2 0 c1 c2)) ∧ Below w.heap.size w w' := by
  have HB : Hid (∀ o1 o2, Below w.heap.size w ((w.alloc o1).alloc o2)) := fun o1 o2 => below2' w o1 o2
  unfold Ak.cells
  dsimp only
  go_enter Tryz.func40, Tryz.ntmps40
  go_wp2_with fail
  refine bodyPost_ret (v := .agg ((⟨ByteArray.empty, 2, ByteArray.empty, ByteArray.empty, tm, [], hs, 0, hd, to, r, no⟩ : Ak).cells none a1 a2 0 c1 c2)) (by simp [results, Tryz.results40, go_sem]; rfl) rfl ⟨rfl, ?_⟩
  exact HB.out _ _

set_option maxHeartbeats 1000000 in
theorem l8Rest_3 (who kd nm tm : ByteArray) (vs hs : List ByteArray) (sn : Int) (hd to : ByteArray) (r : Rl) (no : Int) (a0 a1 a2 : Option Addr) (c0 c1 c2 : Nat) (w : World) :
    Calls Tryz.prog 40 #[.agg ((⟨who, 3, kd, nm, tm, vs, hs, sn, hd, to, r, no⟩ : Ak).cells a0 a1 a2 c0 c1 c2)] w fun e w' => e = .returned (.agg ((⟨ByteArray.empty, 3, ByteArray.empty, ByteArray.empty, tm, vs, hs, 0, hd, to, r, no⟩ : Ak).cells a0 a1 a2 c0 c1 c2)) ∧ Below w.heap.size w w' := by
  have HB : Hid (∀ o1 o2, Below w.heap.size w ((w.alloc o1).alloc o2)) := fun o1 o2 => below2' w o1 o2
  unfold Ak.cells
  dsimp only
  go_enter Tryz.func40, Tryz.ntmps40
  go_wp2_with fail
  refine bodyPost_ret (v := .agg ((⟨ByteArray.empty, 3, ByteArray.empty, ByteArray.empty, tm, vs, hs, 0, hd, to, r, no⟩ : Ak).cells a0 a1 a2 c0 c1 c2)) (by simp [results, Tryz.results40, go_sem]; rfl) rfl ⟨rfl, ?_⟩
  exact HB.out _ _

set_option maxHeartbeats 1000000 in
theorem l8Rest_4 (who kd nm tm : ByteArray) (vs hs : List ByteArray) (sn : Int) (hd to : ByteArray) (r : Rl) (no : Int) (a0 a1 a2 : Option Addr) (c0 c1 c2 : Nat) (w : World) :
    Calls Tryz.prog 40 #[.agg ((⟨who, 4, kd, nm, tm, vs, hs, sn, hd, to, r, no⟩ : Ak).cells a0 a1 a2 c0 c1 c2)] w fun e w' => e = .returned (.agg ((⟨ByteArray.empty, 4, ByteArray.empty, ByteArray.empty, tm, vs, hs, sn, ByteArray.empty, to, r, no⟩ : Ak).cells a0 a1 a2 c0 c1 c2)) ∧ Below w.heap.size w w' := by
  have HB : Hid (∀ o1 o2, Below w.heap.size w ((w.alloc o1).alloc o2)) := fun o1 o2 => below2' w o1 o2
  unfold Ak.cells
  dsimp only
  go_enter Tryz.func40, Tryz.ntmps40
  go_wp2_with fail
  refine bodyPost_ret (v := .agg ((⟨ByteArray.empty, 4, ByteArray.empty, ByteArray.empty, tm, vs, hs, sn, ByteArray.empty, to, r, no⟩ : Ak).cells a0 a1 a2 c0 c1 c2)) (by simp [results, Tryz.results40, go_sem]; rfl) rfl ⟨rfl, ?_⟩
  exact HB.out _ _

set_option maxHeartbeats 1000000 in
theorem l8Rest_5 (who kd nm tm : ByteArray) (vs hs : List ByteArray) (sn : Int) (hd to : ByteArray) (r : Rl) (no : Int) (a0 a1 a2 : Option Addr) (c0 c1 c2 : Nat) (w : World) :
    Calls Tryz.prog 40 #[.agg ((⟨who, 5, kd, nm, tm, vs, hs, sn, hd, to, r, no⟩ : Ak).cells a0 a1 a2 c0 c1 c2)] w fun e w' => e = .returned (.agg ((⟨ByteArray.empty, 5, kd, nm, tm, vs, hs, sn, hd, ByteArray.empty, Gate.noRule, no⟩ : Ak).cells a0 a1 none c0 c1 0)) ∧ Below w.heap.size w w' := by
  have HB : Hid (∀ o1 o2, Below w.heap.size w ((w.alloc o1).alloc o2)) := fun o1 o2 => below2' w o1 o2
  unfold Ak.cells
  dsimp only
  go_enter Tryz.func40, Tryz.ntmps40
  go_wp2_with fail
  refine bodyPost_ret (v := .agg ((⟨ByteArray.empty, 5, kd, nm, tm, vs, hs, sn, hd, ByteArray.empty, Gate.noRule, no⟩ : Ak).cells a0 a1 none c0 c1 0)) (by simp [results, Tryz.results40, go_sem]; rfl) rfl ⟨rfl, ?_⟩
  exact HB.out _ _

set_option maxHeartbeats 1000000 in
theorem l8Rest_6 (who kd nm tm : ByteArray) (vs hs : List ByteArray) (sn : Int) (hd to : ByteArray) (r : Rl) (no : Int) (a0 a1 a2 : Option Addr) (c0 c1 c2 : Nat) (w : World) :
    Calls Tryz.prog 40 #[.agg ((⟨who, 6, kd, nm, tm, vs, hs, sn, hd, to, r, no⟩ : Ak).cells a0 a1 a2 c0 c1 c2)] w fun e w' => e = .returned (.agg ((⟨ByteArray.empty, 6, kd, nm, tm, vs, hs, sn, hd, to, r, 0⟩ : Ak).cells a0 a1 a2 c0 c1 c2)) ∧ Below w.heap.size w w' := by
  have HB : Hid (∀ o1 o2, Below w.heap.size w ((w.alloc o1).alloc o2)) := fun o1 o2 => below2' w o1 o2
  unfold Ak.cells
  dsimp only
  go_enter Tryz.func40, Tryz.ntmps40
  go_wp2_with fail
  refine bodyPost_ret (v := .agg ((⟨ByteArray.empty, 6, kd, nm, tm, vs, hs, sn, hd, to, r, 0⟩ : Ak).cells a0 a1 a2 c0 c1 c2)) (by simp [results, Tryz.results40, go_sem]; rfl) rfl ⟨rfl, ?_⟩
  exact HB.out _ _

theorem verb_six {v : Int} (h : Gate.within v 1 6 = true) : v = 1 ∨ v = 2 ∨ v = 3 ∨ v = 4 ∨ v = 5 ∨ v = 6 := by
  unfold Gate.within at h; simp at h; omega

theorem l8Rest_any (x : Ak) (a0 a1 a2 : Option Addr) (c0 c1 c2 : Nat) (w : World) (hv : Gate.within x.vb 1 6 = true) :
    Calls Tryz.prog 40 #[.agg (x.cells a0 a1 a2 c0 c1 c2)] w fun e w' => ∃ y b0 b1 b2 d0 d1 d2, e = .returned (.agg (Ak.cells y b0 b1 b2 d0 d1 d2)) ∧ Gate.unused y = Gate.unused (Gate.restOf x) ∧ Below w.heap.size w w' := by
  obtain ⟨who, vb, kd, nm, tm, vs, hs, sn, hd, to, r, no⟩ := x
  rcases verb_six hv with e | e | e | e | e | e <;> (dsimp only at e; subst e)
  · refine (l8Rest_1 who kd nm tm vs hs sn hd to r no a0 a1 a2 c0 c1 c2 w).mono ?_
    rintro e w1 ⟨rfl, hb⟩
    exact ⟨_, none, none, a2, 0, 0, c2, rfl, rfl, hb⟩
  · refine (l8Rest_2 who kd nm tm vs hs sn hd to r no a0 a1 a2 c0 c1 c2 w).mono ?_
    rintro e w1 ⟨rfl, hb⟩
    exact ⟨_, none, a1, a2, 0, c1, c2, rfl, rfl, hb⟩
  · refine (l8Rest_3 who kd nm tm vs hs sn hd to r no a0 a1 a2 c0 c1 c2 w).mono ?_
    rintro e w1 ⟨rfl, hb⟩
    exact ⟨_, a0, a1, a2, c0, c1, c2, rfl, rfl, hb⟩
  · refine (l8Rest_4 who kd nm tm vs hs sn hd to r no a0 a1 a2 c0 c1 c2 w).mono ?_
    rintro e w1 ⟨rfl, hb⟩
    exact ⟨_, a0, a1, a2, c0, c1, c2, rfl, rfl, hb⟩
  · refine (l8Rest_5 who kd nm tm vs hs sn hd to r no a0 a1 a2 c0 c1 c2 w).mono ?_
    rintro e w1 ⟨rfl, hb⟩
    exact ⟨_, a0, a1, none, c0, c1, 0, rfl, rfl, hb⟩
  · refine (l8Rest_6 who kd nm tm vs hs sn hd to r no a0 a1 a2 c0 c1 c2 w).mono ?_
    rintro e w1 ⟨rfl, hb⟩
    exact ⟨_, a0, a1, a2, c0, c1, c2, rfl, rfl, hb⟩

end Go.Proofs.YthldiefbpemoaaaGreat
