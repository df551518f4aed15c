import Derived.Test.YtpmlngcljbkchaaGreatM19
namespace Go.Proofs.YtpmlngcljbkchaaGreat
open Go.RowKit

set_option maxHeartbeats 4000000 in
theorem isUnused_any (x : Ak) (a0 a1 a2 : Option Addr) (c0 c1 c2 : Nat) (w : World) :
    Calls Tryz.prog 54 #[.agg (x.cells a0 a1 a2 c0 c1 c2)] w fun e w' => e = .returned (.bool (Gate.unused x)) ∧ Below w.heap.size w w' := by
  unfold Ak.cells
  have HB : Hid (∀ ob, Below w.heap.size w (w.alloc ob)) := fun ob => (Below.refl _ _).alloc (Nat.le_refl _) _
  by_cases hkd : x.kd.toList.isEmpty = true
  rotate_left
  · have HF : Hid (Gate.unused x = false) := by unfold Hid Gate.unused; simp [hkd]
    have fkd : x.kd.toList.isEmpty = false := by simpa using hkd
    clear hkd 
    go_enter Tryz.func54, Tryz.ntmps54
    go_wp2_with fail
    go_ret
    exact ⟨ret_bool HF.out.symm, HB.out _⟩
  by_cases hnm : x.nm.toList.isEmpty = true
  rotate_left
  · have HF : Hid (Gate.unused x = false) := by unfold Hid Gate.unused; simp [hnm]
    have fkd : x.kd.toList.isEmpty = true := by simpa using hkd
    have fnm : x.nm.toList.isEmpty = false := by simpa using hnm
    clear hnm hkd
    go_enter Tryz.func54, Tryz.ntmps54
    go_wp2_with fail
    go_ret
    exact ⟨ret_bool HF.out.symm, HB.out _⟩
  by_cases htm : x.tm.toList.isEmpty = true
  rotate_left
  · have HF : Hid (Gate.unused x = false) := by unfold Hid Gate.unused; simp [htm]
    have fkd : x.kd.toList.isEmpty = true := by simpa using hkd
    have fnm : x.nm.toList.isEmpty = true := by simpa using hnm
    have ftm : x.tm.toList.isEmpty = false := by simpa using htm
    clear htm hkd hnm
    go_enter Tryz.func54, Tryz.ntmps54
    go_wp2_with fail
    go_ret
    exact ⟨ret_bool HF.out.symm, HB.out _⟩
  by_cases hhd : x.hd.toList.isEmpty = true
  rotate_left
  · have HF : Hid (Gate.unused x = false) := by unfold Hid Gate.unused; simp [hhd]
    have fkd : x.kd.toList.isEmpty = true := by simpa using hkd
    have fnm : x.nm.toList.isEmpty = true := by simpa using hnm
    have ftm : x.tm.toList.isEmpty = true := by simpa using htm
    have fhd : x.hd.toList.isEmpty = false := by simpa using hhd
    clear hhd hkd hnm htm
    go_enter Tryz.func54, Tryz.ntmps54
    go_wp2_with fail
    go_ret
    exact ⟨ret_bool HF.out.symm, HB.out _⟩
  by_cases hto : x.to.toList.isEmpty = true
  rotate_left
  · have HF : Hid (Gate.unused x = false) := by unfold Hid Gate.unused; simp [hto]
    have fkd : x.kd.toList.isEmpty = true := by simpa using hkd
    have fnm : x.nm.toList.isEmpty = true := by simpa using hnm
    have ftm : x.tm.toList.isEmpty = true := by simpa using htm
    have fhd : x.hd.toList.isEmpty = true := by simpa using hhd
    have fto : x.to.toList.isEmpty = false := by simpa using hto
    clear hto hkd hnm htm hhd
    go_enter Tryz.func54, Tryz.ntmps54
    go_wp2_with fail
    go_ret
    exact ⟨ret_bool HF.out.symm, HB.out _⟩
  by_cases hsn : x.sn = 0
  rotate_left
  · have HF : Hid (Gate.unused x = false) := by unfold Hid Gate.unused; simp [hsn]
    have fkd : x.kd.toList.isEmpty = true := by simpa using hkd
    have fnm : x.nm.toList.isEmpty = true := by simpa using hnm
    have ftm : x.tm.toList.isEmpty = true := by simpa using htm
    have fhd : x.hd.toList.isEmpty = true := by simpa using hhd
    have fto : x.to.toList.isEmpty = true := by simpa using hto
    have fsn : (x.sn == 0) = false := by simp [hsn]
    have gsn : (x.sn != 0) = true := by simp [hsn]
    clear hsn hkd hnm htm hhd hto
    go_enter Tryz.func54, Tryz.ntmps54
    go_wp2_with fail
    go_ret
    exact ⟨ret_bool HF.out.symm, HB.out _⟩
  by_cases hno : x.no = 0
  rotate_left
  · have HF : Hid (Gate.unused x = false) := by unfold Hid Gate.unused; simp [hno]
    have fkd : x.kd.toList.isEmpty = true := by simpa using hkd
    have fnm : x.nm.toList.isEmpty = true := by simpa using hnm
    have ftm : x.tm.toList.isEmpty = true := by simpa using htm
    have fhd : x.hd.toList.isEmpty = true := by simpa using hhd
    have fto : x.to.toList.isEmpty = true := by simpa using hto
    have fsn : (x.sn == 0) = true := by simp [hsn]
    have gsn : (x.sn != 0) = false := by simp [hsn]
    have fno : (x.no == 0) = false := by simp [hno]
    have gno : (x.no != 0) = true := by simp [hno]
    clear hno hkd hnm htm hhd hto hsn
    go_enter Tryz.func54, Tryz.ntmps54
    go_wp2_with fail
    go_ret
    exact ⟨ret_bool HF.out.symm, HB.out _⟩
  by_cases hvs : x.vs.length = 0
  rotate_left
  · have HF : Hid (Gate.unused x = false) := by unfold Hid Gate.unused; simp [hvs]
    have fkd : x.kd.toList.isEmpty = true := by simpa using hkd
    have fnm : x.nm.toList.isEmpty = true := by simpa using hnm
    have ftm : x.tm.toList.isEmpty = true := by simpa using htm
    have fhd : x.hd.toList.isEmpty = true := by simpa using hhd
    have fto : x.to.toList.isEmpty = true := by simpa using hto
    have fsn : (x.sn == 0) = true := by simp [hsn]
    have gsn : (x.sn != 0) = false := by simp [hsn]
    have fno : (x.no == 0) = true := by simp [hno]
    have gno : (x.no != 0) = false := by simp [hno]
    have fvs : ¬ x.vs = [] := fun h => hvs (by rw [h]; rfl)
    have gvs : 0 < x.vs.length := by omega
    clear hvs hkd hnm htm hhd hto hsn hno
    go_enter Tryz.func54, Tryz.ntmps54
    go_wp2_with fail
    go_ret
    exact ⟨ret_bool HF.out.symm, HB.out _⟩
  by_cases hhs : x.hs.length = 0
  rotate_left
  · have HF : Hid (Gate.unused x = false) := by unfold Hid Gate.unused; simp [hhs]
    have fkd : x.kd.toList.isEmpty = true := by simpa using hkd
    have fnm : x.nm.toList.isEmpty = true := by simpa using hnm
    have ftm : x.tm.toList.isEmpty = true := by simpa using htm
    have fhd : x.hd.toList.isEmpty = true := by simpa using hhd
    have fto : x.to.toList.isEmpty = true := by simpa using hto
    have fsn : (x.sn == 0) = true := by simp [hsn]
    have gsn : (x.sn != 0) = false := by simp [hsn]
    have fno : (x.no == 0) = true := by simp [hno]
    have gno : (x.no != 0) = false := by simp [hno]
    have fvs : x.vs = [] := List.length_eq_zero_iff.1 hvs
    have fhs : ¬ x.hs = [] := fun h => hhs (by rw [h]; rfl)
    have ghs : 0 < x.hs.length := by omega
    clear hhs hkd hnm htm hhd hto hsn hno hvs
    go_enter Tryz.func54, Tryz.ntmps54
    go_wp2_with fail
    go_ret
    exact ⟨ret_bool HF.out.symm, HB.out _⟩
  by_cases hrv : x.r.vs.length = 0
  rotate_left
  · have HF : Hid (Gate.unused x = false) := by unfold Hid Gate.unused; simp [hrv]
    have fkd : x.kd.toList.isEmpty = true := by simpa using hkd
    have fnm : x.nm.toList.isEmpty = true := by simpa using hnm
    have ftm : x.tm.toList.isEmpty = true := by simpa using htm
    have fhd : x.hd.toList.isEmpty = true := by simpa using hhd
    have fto : x.to.toList.isEmpty = true := by simpa using hto
    have fsn : (x.sn == 0) = true := by simp [hsn]
    have gsn : (x.sn != 0) = false := by simp [hsn]
    have fno : (x.no == 0) = true := by simp [hno]
    have gno : (x.no != 0) = false := by simp [hno]
    have fvs : x.vs = [] := List.length_eq_zero_iff.1 hvs
    have fhs : x.hs = [] := List.length_eq_zero_iff.1 hhs
    have frv : ¬ x.r.vs = [] := fun h => hrv (by rw [h]; rfl)
    have grv : 0 < x.r.vs.length := by omega
    clear hrv hkd hnm htm hhd hto hsn hno hvs hhs
    go_enter Tryz.func54, Tryz.ntmps54
    go_wp2_with fail
    go_ret
    exact ⟨ret_bool HF.out.symm, HB.out _⟩
  by_cases hrk : x.r.kd.toList.isEmpty = true
  rotate_left
  · have HF : Hid (Gate.unused x = false) := by unfold Hid Gate.unused; simp [hrk]
    have fkd : x.kd.toList.isEmpty = true := by simpa using hkd
    have fnm : x.nm.toList.isEmpty = true := by simpa using hnm
    have ftm : x.tm.toList.isEmpty = true := by simpa using htm
    have fhd : x.hd.toList.isEmpty = true := by simpa using hhd
    have fto : x.to.toList.isEmpty = true := by simpa using hto
    have fsn : (x.sn == 0) = true := by simp [hsn]
    have gsn : (x.sn != 0) = false := by simp [hsn]
    have fno : (x.no == 0) = true := by simp [hno]
    have gno : (x.no != 0) = false := by simp [hno]
    have fvs : x.vs = [] := List.length_eq_zero_iff.1 hvs
    have fhs : x.hs = [] := List.length_eq_zero_iff.1 hhs
    have frv : x.r.vs = [] := List.length_eq_zero_iff.1 hrv
    have frk : x.r.kd.toList.isEmpty = false := by simpa using hrk
    clear hrk hkd hnm htm hhd hto hsn hno hvs hhs hrv
    go_enter Tryz.func54, Tryz.ntmps54
    go_wp2_with fail
    go_ret
    exact ⟨ret_bool HF.out.symm, HB.out _⟩
  by_cases hrt : x.r.tm.toList.isEmpty = true
  rotate_left
  · have HF : Hid (Gate.unused x = false) := by unfold Hid Gate.unused; simp [hrt]
    have fkd : x.kd.toList.isEmpty = true := by simpa using hkd
    have fnm : x.nm.toList.isEmpty = true := by simpa using hnm
    have ftm : x.tm.toList.isEmpty = true := by simpa using htm
    have fhd : x.hd.toList.isEmpty = true := by simpa using hhd
    have fto : x.to.toList.isEmpty = true := by simpa using hto
    have fsn : (x.sn == 0) = true := by simp [hsn]
    have gsn : (x.sn != 0) = false := by simp [hsn]
    have fno : (x.no == 0) = true := by simp [hno]
    have gno : (x.no != 0) = false := by simp [hno]
    have fvs : x.vs = [] := List.length_eq_zero_iff.1 hvs
    have fhs : x.hs = [] := List.length_eq_zero_iff.1 hhs
    have frv : x.r.vs = [] := List.length_eq_zero_iff.1 hrv
    have frk : x.r.kd.toList.isEmpty = true := by simpa using hrk
    have frt : x.r.tm.toList.isEmpty = false := by simpa using hrt
    clear hrt hkd hnm htm hhd hto hsn hno hvs hhs hrv hrk
    go_enter Tryz.func54, Tryz.ntmps54
    go_wp2_with fail
    go_ret
    exact ⟨ret_bool HF.out.symm, HB.out _⟩
  by_cases hrp : x.r.px.toList.isEmpty = true
  rotate_left
  · have HF : Hid (Gate.unused x = false) := by unfold Hid Gate.unused; simp [hrp]
    have fkd : x.kd.toList.isEmpty = true := by simpa using hkd
    have fnm : x.nm.toList.isEmpty = true := by simpa using hnm
    have ftm : x.tm.toList.isEmpty = true := by simpa using htm
    have fhd : x.hd.toList.isEmpty = true := by simpa using hhd
    have fto : x.to.toList.isEmpty = true := by simpa using hto
    have fsn : (x.sn == 0) = true := by simp [hsn]
    have gsn : (x.sn != 0) = false := by simp [hsn]
    have fno : (x.no == 0) = true := by simp [hno]
    have gno : (x.no != 0) = false := by simp [hno]
    have fvs : x.vs = [] := List.length_eq_zero_iff.1 hvs
    have fhs : x.hs = [] := List.length_eq_zero_iff.1 hhs
    have frv : x.r.vs = [] := List.length_eq_zero_iff.1 hrv
    have frk : x.r.kd.toList.isEmpty = true := by simpa using hrk
    have frt : x.r.tm.toList.isEmpty = true := by simpa using hrt
    have frp : x.r.px.toList.isEmpty = false := by simpa using hrp
    clear hrp hkd hnm htm hhd hto hsn hno hvs hhs hrv hrk hrt
    go_enter Tryz.func54, Tryz.ntmps54
    go_wp2_with fail
    go_ret
    exact ⟨ret_bool HF.out.symm, HB.out _⟩
  · have HF : Hid (Gate.unused x = true) := by unfold Hid Gate.unused; simp [hkd, hnm, htm, hhd, hto, hsn, hno, hvs, hhs, hrv, hrk, hrt, hrp]
    have fkd : x.kd.toList.isEmpty = true := by simpa using hkd
    have fnm : x.nm.toList.isEmpty = true := by simpa using hnm
    have ftm : x.tm.toList.isEmpty = true := by simpa using htm
    have fhd : x.hd.toList.isEmpty = true := by simpa using hhd
    have fto : x.to.toList.isEmpty = true := by simpa using hto
    have fsn : (x.sn == 0) = true := by simp [hsn]
    have gsn : (x.sn != 0) = false := by simp [hsn]
    have fno : (x.no == 0) = true := by simp [hno]
    have gno : (x.no != 0) = false := by simp [hno]
    have fvs : x.vs = [] := List.length_eq_zero_iff.1 hvs
    have fhs : x.hs = [] := List.length_eq_zero_iff.1 hhs
    have frv : x.r.vs = [] := List.length_eq_zero_iff.1 hrv
    have frk : x.r.kd.toList.isEmpty = true := by simpa using hrk
    have frt : x.r.tm.toList.isEmpty = true := by simpa using hrt
    have frp : x.r.px.toList.isEmpty = true := by simpa using hrp
    clear hkd hnm htm hhd hto hsn hno hvs hhs hrv hrk hrt hrp
    go_enter Tryz.func54, Tryz.ntmps54
    go_wp2_with fail
    go_ret
    exact ⟨ret_bool HF.out.symm, HB.out _⟩

set_option maxHeartbeats 4000000 in
theorem l8Nothing_any (x : Ak) (a0 a1 a2 : Option Addr) (c0 c1 c2 : Nat) (w : World) :
    Calls Tryz.prog 39 #[.agg (x.cells a0 a1 a2 c0 c1 c2)] w fun e w' => e = .returned (.bool (Gate.unused x)) ∧ Below w.heap.size w w' := by
  unfold Ak.cells
  have HB : Hid (∀ ob, Below w.heap.size w (w.alloc ob)) := fun ob => (Below.refl _ _).alloc (Nat.le_refl _) _
  by_cases hkd : x.kd.toList.isEmpty = true
  rotate_left
  · have HF : Hid (Gate.unused x = false) := by unfold Hid Gate.unused; simp [hkd]
    have fkd : x.kd.toList.isEmpty = false := by simpa using hkd
    clear hkd 
    go_enter Tryz.func39, Tryz.ntmps39
    go_wp2_with fail
    go_ret
    exact ⟨ret_bool HF.out.symm, HB.out _⟩
  by_cases hnm : x.nm.toList.isEmpty = true
  rotate_left
  · have HF : Hid (Gate.unused x = false) := by unfold Hid Gate.unused; simp [hnm]
    have fkd : x.kd.toList.isEmpty = true := by simpa using hkd
    have fnm : x.nm.toList.isEmpty = false := by simpa using hnm
    clear hnm hkd
    go_enter Tryz.func39, Tryz.ntmps39
    go_wp2_with fail
    go_ret
    exact ⟨ret_bool HF.out.symm, HB.out _⟩
  by_cases htm : x.tm.toList.isEmpty = true
  rotate_left
  · have HF : Hid (Gate.unused x = false) := by unfold Hid Gate.unused; simp [htm]
    have fkd : x.kd.toList.isEmpty = true := by simpa using hkd
    have fnm : x.nm.toList.isEmpty = true := by simpa using hnm
    have ftm : x.tm.toList.isEmpty = false := by simpa using htm
    clear htm hkd hnm
    go_enter Tryz.func39, Tryz.ntmps39
    go_wp2_with fail
    go_ret
    exact ⟨ret_bool HF.out.symm, HB.out _⟩
  by_cases hvs : x.vs.length = 0
  rotate_left
  · have HF : Hid (Gate.unused x = false) := by unfold Hid Gate.unused; simp [hvs]
    have fkd : x.kd.toList.isEmpty = true := by simpa using hkd
    have fnm : x.nm.toList.isEmpty = true := by simpa using hnm
    have ftm : x.tm.toList.isEmpty = true := by simpa using htm
    have fvs : ¬ x.vs = [] := fun h => hvs (by rw [h]; rfl)
    have gvs : 0 < x.vs.length := by omega
    clear hvs hkd hnm htm
    go_enter Tryz.func39, Tryz.ntmps39
    go_wp2_with fail
    go_ret
    exact ⟨ret_bool HF.out.symm, HB.out _⟩
  by_cases hhs : x.hs.length = 0
  rotate_left
  · have HF : Hid (Gate.unused x = false) := by unfold Hid Gate.unused; simp [hhs]
    have fkd : x.kd.toList.isEmpty = true := by simpa using hkd
    have fnm : x.nm.toList.isEmpty = true := by simpa using hnm
    have ftm : x.tm.toList.isEmpty = true := by simpa using htm
    have fvs : x.vs = [] := List.length_eq_zero_iff.1 hvs
    have fhs : ¬ x.hs = [] := fun h => hhs (by rw [h]; rfl)
    have ghs : 0 < x.hs.length := by omega
    clear hhs hkd hnm htm hvs
    go_enter Tryz.func39, Tryz.ntmps39
    go_wp2_with fail
    go_ret
    exact ⟨ret_bool HF.out.symm, HB.out _⟩
  by_cases hsn : x.sn = 0
  rotate_left
  · have HF : Hid (Gate.unused x = false) := by unfold Hid Gate.unused; simp [hsn]
    have fkd : x.kd.toList.isEmpty = true := by simpa using hkd
    have fnm : x.nm.toList.isEmpty = true := by simpa using hnm
    have ftm : x.tm.toList.isEmpty = true := by simpa using htm
    have fvs : x.vs = [] := List.length_eq_zero_iff.1 hvs
    have fhs : x.hs = [] := List.length_eq_zero_iff.1 hhs
    have fsn : (x.sn == 0) = false := by simp [hsn]
    have gsn : (x.sn != 0) = true := by simp [hsn]
    clear hsn hkd hnm htm hvs hhs
    go_enter Tryz.func39, Tryz.ntmps39
    go_wp2_with fail
    go_ret
    exact ⟨ret_bool HF.out.symm, HB.out _⟩
  by_cases hhd : x.hd.toList.isEmpty = true
  rotate_left
  · have HF : Hid (Gate.unused x = false) := by unfold Hid Gate.unused; simp [hhd]
    have fkd : x.kd.toList.isEmpty = true := by simpa using hkd
    have fnm : x.nm.toList.isEmpty = true := by simpa using hnm
    have ftm : x.tm.toList.isEmpty = true := by simpa using htm
    have fvs : x.vs = [] := List.length_eq_zero_iff.1 hvs
    have fhs : x.hs = [] := List.length_eq_zero_iff.1 hhs
    have fsn : (x.sn == 0) = true := by simp [hsn]
    have gsn : (x.sn != 0) = false := by simp [hsn]
    have fhd : x.hd.toList.isEmpty = false := by simpa using hhd
    clear hhd hkd hnm htm hvs hhs hsn
    go_enter Tryz.func39, Tryz.ntmps39
    go_wp2_with fail
    go_ret
    exact ⟨ret_bool HF.out.symm, HB.out _⟩
  by_cases hto : x.to.toList.isEmpty = true
  rotate_left
  · have HF : Hid (Gate.unused x = false) := by unfold Hid Gate.unused; simp [hto]
    have fkd : x.kd.toList.isEmpty = true := by simpa using hkd
    have fnm : x.nm.toList.isEmpty = true := by simpa using hnm
    have ftm : x.tm.toList.isEmpty = true := by simpa using htm
    have fvs : x.vs = [] := List.length_eq_zero_iff.1 hvs
    have fhs : x.hs = [] := List.length_eq_zero_iff.1 hhs
    have fsn : (x.sn == 0) = true := by simp [hsn]
    have gsn : (x.sn != 0) = false := by simp [hsn]
    have fhd : x.hd.toList.isEmpty = true := by simpa using hhd
    have fto : x.to.toList.isEmpty = false := by simpa using hto
    clear hto hkd hnm htm hvs hhs hsn hhd
    go_enter Tryz.func39, Tryz.ntmps39
    go_wp2_with fail
    go_ret
    exact ⟨ret_bool HF.out.symm, HB.out _⟩
  by_cases hrv : x.r.vs.length = 0
  rotate_left
  · have HF : Hid (Gate.unused x = false) := by unfold Hid Gate.unused; simp [hrv]
    have fkd : x.kd.toList.isEmpty = true := by simpa using hkd
    have fnm : x.nm.toList.isEmpty = true := by simpa using hnm
    have ftm : x.tm.toList.isEmpty = true := by simpa using htm
    have fvs : x.vs = [] := List.length_eq_zero_iff.1 hvs
    have fhs : x.hs = [] := List.length_eq_zero_iff.1 hhs
    have fsn : (x.sn == 0) = true := by simp [hsn]
    have gsn : (x.sn != 0) = false := by simp [hsn]
    have fhd : x.hd.toList.isEmpty = true := by simpa using hhd
    have fto : x.to.toList.isEmpty = true := by simpa using hto
    have frv : ¬ x.r.vs = [] := fun h => hrv (by rw [h]; rfl)
    have grv : 0 < x.r.vs.length := by omega
    clear hrv hkd hnm htm hvs hhs hsn hhd hto
    go_enter Tryz.func39, Tryz.ntmps39
    go_wp2_with fail
    go_ret
    exact ⟨ret_bool HF.out.symm, HB.out _⟩
  by_cases hrk : x.r.kd.toList.isEmpty = true
  rotate_left
  · have HF : Hid (Gate.unused x = false) := by unfold Hid Gate.unused; simp [hrk]
    have fkd : x.kd.toList.isEmpty = true := by simpa using hkd
    have fnm : x.nm.toList.isEmpty = true := by simpa using hnm
    have ftm : x.tm.toList.isEmpty = true := by simpa using htm
    have fvs : x.vs = [] := List.length_eq_zero_iff.1 hvs
    have fhs : x.hs = [] := List.length_eq_zero_iff.1 hhs
    have fsn : (x.sn == 0) = true := by simp [hsn]
    have gsn : (x.sn != 0) = false := by simp [hsn]
    have fhd : x.hd.toList.isEmpty = true := by simpa using hhd
    have fto : x.to.toList.isEmpty = true := by simpa using hto
    have frv : x.r.vs = [] := List.length_eq_zero_iff.1 hrv
    have frk : x.r.kd.toList.isEmpty = false := by simpa using hrk
    clear hrk hkd hnm htm hvs hhs hsn hhd hto hrv
    go_enter Tryz.func39, Tryz.ntmps39
    go_wp2_with fail
    go_ret
    exact ⟨ret_bool HF.out.symm, HB.out _⟩
  by_cases hrt : x.r.tm.toList.isEmpty = true
  rotate_left
  · have HF : Hid (Gate.unused x = false) := by unfold Hid Gate.unused; simp [hrt]
    have fkd : x.kd.toList.isEmpty = true := by simpa using hkd
    have fnm : x.nm.toList.isEmpty = true := by simpa using hnm
    have ftm : x.tm.toList.isEmpty = true := by simpa using htm
    have fvs : x.vs = [] := List.length_eq_zero_iff.1 hvs
    have fhs : x.hs = [] := List.length_eq_zero_iff.1 hhs
    have fsn : (x.sn == 0) = true := by simp [hsn]
    have gsn : (x.sn != 0) = false := by simp [hsn]
    have fhd : x.hd.toList.isEmpty = true := by simpa using hhd
    have fto : x.to.toList.isEmpty = true := by simpa using hto
    have frv : x.r.vs = [] := List.length_eq_zero_iff.1 hrv
    have frk : x.r.kd.toList.isEmpty = true := by simpa using hrk
    have frt : x.r.tm.toList.isEmpty = false := by simpa using hrt
    clear hrt hkd hnm htm hvs hhs hsn hhd hto hrv hrk
    go_enter Tryz.func39, Tryz.ntmps39
    go_wp2_with fail
    go_ret
    exact ⟨ret_bool HF.out.symm, HB.out _⟩
  by_cases hrp : x.r.px.toList.isEmpty = true
  rotate_left
  · have HF : Hid (Gate.unused x = false) := by unfold Hid Gate.unused; simp [hrp]
    have fkd : x.kd.toList.isEmpty = true := by simpa using hkd
    have fnm : x.nm.toList.isEmpty = true := by simpa using hnm
    have ftm : x.tm.toList.isEmpty = true := by simpa using htm
    have fvs : x.vs = [] := List.length_eq_zero_iff.1 hvs
    have fhs : x.hs = [] := List.length_eq_zero_iff.1 hhs
    have fsn : (x.sn == 0) = true := by simp [hsn]
    have gsn : (x.sn != 0) = false := by simp [hsn]
    have fhd : x.hd.toList.isEmpty = true := by simpa using hhd
    have fto : x.to.toList.isEmpty = true := by simpa using hto
    have frv : x.r.vs = [] := List.length_eq_zero_iff.1 hrv
    have frk : x.r.kd.toList.isEmpty = true := by simpa using hrk
    have frt : x.r.tm.toList.isEmpty = true := by simpa using hrt
    have frp : x.r.px.toList.isEmpty = false := by simpa using hrp
    clear hrp hkd hnm htm hvs hhs hsn hhd hto hrv hrk hrt
    go_enter Tryz.func39, Tryz.ntmps39
    go_wp2_with fail
    go_ret
    exact ⟨ret_bool HF.out.symm, HB.out _⟩
  by_cases hno : x.no = 0
  rotate_left
  · have HF : Hid (Gate.unused x = false) := by unfold Hid Gate.unused; simp [hno]
    have fkd : x.kd.toList.isEmpty = true := by simpa using hkd
    have fnm : x.nm.toList.isEmpty = true := by simpa using hnm
    have ftm : x.tm.toList.isEmpty = true := by simpa using htm
    have fvs : x.vs = [] := List.length_eq_zero_iff.1 hvs
    have fhs : x.hs = [] := List.length_eq_zero_iff.1 hhs
    have fsn : (x.sn == 0) = true := by simp [hsn]
    have gsn : (x.sn != 0) = false := by simp [hsn]
    have fhd : x.hd.toList.isEmpty = true := by simpa using hhd
    have fto : x.to.toList.isEmpty = true := by simpa using hto
    have frv : x.r.vs = [] := List.length_eq_zero_iff.1 hrv
    have frk : x.r.kd.toList.isEmpty = true := by simpa using hrk
    have frt : x.r.tm.toList.isEmpty = true := by simpa using hrt
    have frp : x.r.px.toList.isEmpty = true := by simpa using hrp
    have fno : (x.no == 0) = false := by simp [hno]
    have gno : (x.no != 0) = true := by simp [hno]
    clear hno hkd hnm htm hvs hhs hsn hhd hto hrv hrk hrt hrp
    go_enter Tryz.func39, Tryz.ntmps39
    go_wp2_with fail
    go_ret
    exact ⟨ret_bool HF.out.symm, HB.out _⟩
  · have HF : Hid (Gate.unused x = true) := by unfold Hid Gate.unused; simp [hkd, hnm, htm, hvs, hhs, hsn, hhd, hto, hrv, hrk, hrt, hrp, hno]
    have fkd : x.kd.toList.isEmpty = true := by simpa using hkd
    have fnm : x.nm.toList.isEmpty = true := by simpa using hnm
    have ftm : x.tm.toList.isEmpty = true := by simpa using htm
    have fvs : x.vs = [] := List.length_eq_zero_iff.1 hvs
    have fhs : x.hs = [] := List.length_eq_zero_iff.1 hhs
    have fsn : (x.sn == 0) = true := by simp [hsn]
    have gsn : (x.sn != 0) = false := by simp [hsn]
    have fhd : x.hd.toList.isEmpty = true := by simpa using hhd
    have fto : x.to.toList.isEmpty = true := by simpa using hto
    have frv : x.r.vs = [] := List.length_eq_zero_iff.1 hrv
    have frk : x.r.kd.toList.isEmpty = true := by simpa using hrk
    have frt : x.r.tm.toList.isEmpty = true := by simpa using hrt
    have frp : x.r.px.toList.isEmpty = true := by simpa using hrp
    have fno : (x.no == 0) = true := by simp [hno]
    have gno : (x.no != 0) = false := by simp [hno]
    clear hkd hnm htm hvs hhs hsn hhd hto hrv hrk hrt hrp hno
    go_enter Tryz.func39, Tryz.ntmps39
    go_wp2_with fail
    go_ret
    exact ⟨ret_bool HF.out.symm, HB.out _⟩

end Go.Proofs.YtpmlngcljbkchaaGreat
