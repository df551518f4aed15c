import Derived.Test.YtimhinpekngceaaDoorM12
import Derived.Test.YtimhinpekngceaaDoorM09
namespace Go.Proofs.YtimhinpekngceaaDoor
open Go.RowKit

theorem Gate.kd_cases (s : ByteArray) : s.toList.isEmpty = true ∨ (s.toList.isEmpty = false ∧ Hid (Gate.nameOk s = true)) ∨ (s.toList.isEmpty = false ∧ Hid (Gate.nameOk s = false)) := by
  by_cases h : s.toList.isEmpty = true
  · exact Or.inl h
  · by_cases h2 : Gate.nameOk s = true
    · exact Or.inr (Or.inl ⟨by simpa using h, h2⟩)
    · exact Or.inr (Or.inr ⟨by simpa using h, by simpa [Hid] using h2⟩)

set_option maxHeartbeats 2000000 in
theorem isRule_any (r : Rl) (a : Option Addr) (cap : Nat) (w : World) (hm : r.Small) (hw : IntsAt w a r.vs) :
    Calls Tryd.prog 31 #[.agg (r.cells a cap)] w fun e w' => e = .returned (.bool (Gate.ruleOk r)) ∧ Below w.heap.size w w' := by
  have hskd := hm.kd
  have hstm := hm.tm
  have hspx := hm.px
  have hpx := hm.px
  unfold maxLen at hpx
  unfold Rl.cells
  have HB : Hid (∀ ob, Below w.heap.size w (w.alloc ob)) := fun ob => (Below.refl _ _).alloc (Nat.le_refl _) _
  have HI : Hid (∀ ob, IntsAt (w.alloc ob) a r.vs) := fun ob => hw.mono (HB.out ob)
  clear hw hm
  rcases Gate.kd_cases r.kd with hk | ⟨hk, HK⟩ | ⟨hk, HK⟩
  · rcases Gate.kd_cases r.tm with ht | ⟨ht, HT⟩ | ⟨ht, HT⟩
    · have HKD : Hid (Gate.kindsOk r = true) := by unfold Hid Gate.kindsOk; rw [hk, ht]; simp
      by_cases hv : Gate.verbsOk r.vs = true
      rotate_left
      · have HV : Hid (Gate.verbsOk r.vs = false) := by simpa [Hid] using hv
        have HF : Hid (Gate.ruleOk r = false) := by unfold Hid Gate.ruleOk; rw [HV.out]; simp
        clear hv
        go_enter Tryd.func31, Tryd.ntmps31
        go_wp2_with (first | (go_at_call 59; refine (as_bool HV.out (areVerbs_any _ _ r.vs _ (by exact HI.out _))).mono ?_; rintro e w' ⟨rfl, rfl⟩))
        go_ret
        exact ⟨ret_bool HF.out.symm, HB.out _⟩
      have HV : Hid (Gate.verbsOk r.vs = true) := hv
      clear hv
      by_cases h16 : r.px.size ≤ 16
      · have HF : Hid (Gate.ruleOk r = Gate.allName r.px) := by unfold Hid Gate.ruleOk; rw [HKD.out, HV.out, decide_eq_true h16]; rfl
        have h16I : (r.px.size : Int) ≤ 16 := by omega
        clear h16
        go_enter Tryd.func31, Tryd.ntmps31
        go_wp2_with (first | (go_at_call 59; refine (as_bool HV.out (areVerbs_any _ _ r.vs _ (by exact HI.out _))).mono ?_; rintro e w' ⟨rfl, rfl⟩) | (go_at_call 60; refine (isNameBytes_any r.px _ hspx).mono ?_; rintro e w' ⟨rfl, rfl⟩))
        go_ret
        exact ⟨ret_bool HF.out.symm, HB.out _⟩
      · have HF : Hid (Gate.ruleOk r = false) := by unfold Hid Gate.ruleOk; rw [decide_eq_false h16]; simp
        have h16I : decide ((r.px.size : Int) ≤ 16) = false := by simp; omega
        clear h16
        go_enter Tryd.func31, Tryd.ntmps31
        go_wp2_with (first | (go_at_call 59; refine (as_bool HV.out (areVerbs_any _ _ r.vs _ (by exact HI.out _))).mono ?_; rintro e w' ⟨rfl, rfl⟩))
        go_ret
        exact ⟨ret_bool HF.out.symm, HB.out _⟩
    · have HKD : Hid (Gate.kindsOk r = true) := by unfold Hid Gate.kindsOk; rw [hk, HT.out]; simp
      by_cases hv : Gate.verbsOk r.vs = true
      rotate_left
      · have HV : Hid (Gate.verbsOk r.vs = false) := by simpa [Hid] using hv
        have HF : Hid (Gate.ruleOk r = false) := by unfold Hid Gate.ruleOk; rw [HV.out]; simp
        clear hv
        go_enter Tryd.func31, Tryd.ntmps31
        go_wp2_with (first | (go_at_call_of 54 (Value.string r.tm); refine (as_bool HT.out (isName_any r.tm _ hstm)).mono ?_; rintro e w' ⟨rfl, rfl⟩) | (go_at_call 59; refine (as_bool HV.out (areVerbs_any _ _ r.vs _ (by exact HI.out _))).mono ?_; rintro e w' ⟨rfl, rfl⟩))
        go_ret
        exact ⟨ret_bool HF.out.symm, HB.out _⟩
      have HV : Hid (Gate.verbsOk r.vs = true) := hv
      clear hv
      by_cases h16 : r.px.size ≤ 16
      · have HF : Hid (Gate.ruleOk r = Gate.allName r.px) := by unfold Hid Gate.ruleOk; rw [HKD.out, HV.out, decide_eq_true h16]; rfl
        have h16I : (r.px.size : Int) ≤ 16 := by omega
        clear h16
        go_enter Tryd.func31, Tryd.ntmps31
        go_wp2_with (first | (go_at_call_of 54 (Value.string r.tm); refine (as_bool HT.out (isName_any r.tm _ hstm)).mono ?_; rintro e w' ⟨rfl, rfl⟩) | (go_at_call 59; refine (as_bool HV.out (areVerbs_any _ _ r.vs _ (by exact HI.out _))).mono ?_; rintro e w' ⟨rfl, rfl⟩) | (go_at_call 60; refine (isNameBytes_any r.px _ hspx).mono ?_; rintro e w' ⟨rfl, rfl⟩))
        go_ret
        exact ⟨ret_bool HF.out.symm, HB.out _⟩
      · have HF : Hid (Gate.ruleOk r = false) := by unfold Hid Gate.ruleOk; rw [decide_eq_false h16]; simp
        have h16I : decide ((r.px.size : Int) ≤ 16) = false := by simp; omega
        clear h16
        go_enter Tryd.func31, Tryd.ntmps31
        go_wp2_with (first | (go_at_call_of 54 (Value.string r.tm); refine (as_bool HT.out (isName_any r.tm _ hstm)).mono ?_; rintro e w' ⟨rfl, rfl⟩) | (go_at_call 59; refine (as_bool HV.out (areVerbs_any _ _ r.vs _ (by exact HI.out _))).mono ?_; rintro e w' ⟨rfl, rfl⟩))
        go_ret
        exact ⟨ret_bool HF.out.symm, HB.out _⟩
    · have HF : Hid (Gate.ruleOk r = false) := by unfold Hid Gate.ruleOk Gate.kindsOk; rw [ht, HT.out]; simp
      go_enter Tryd.func31, Tryd.ntmps31
      go_wp2_with (first | (go_at_call_of 54 (Value.string r.tm); refine (as_bool HT.out (isName_any r.tm _ hstm)).mono ?_; rintro e w' ⟨rfl, rfl⟩))
      go_ret
      exact ⟨ret_bool HF.out.symm, HB.out _⟩
  · rcases Gate.kd_cases r.tm with ht | ⟨ht, HT⟩ | ⟨ht, HT⟩
    · have HKD : Hid (Gate.kindsOk r = true) := by unfold Hid Gate.kindsOk; rw [HK.out, ht]; simp
      by_cases hv : Gate.verbsOk r.vs = true
      rotate_left
      · have HV : Hid (Gate.verbsOk r.vs = false) := by simpa [Hid] using hv
        have HF : Hid (Gate.ruleOk r = false) := by unfold Hid Gate.ruleOk; rw [HV.out]; simp
        clear hv
        go_enter Tryd.func31, Tryd.ntmps31
        go_wp2_with (first | (go_at_call_of 54 (Value.string r.kd); refine (as_bool HK.out (isName_any r.kd _ hskd)).mono ?_; rintro e w' ⟨rfl, rfl⟩) | (go_at_call 59; refine (as_bool HV.out (areVerbs_any _ _ r.vs _ (by exact HI.out _))).mono ?_; rintro e w' ⟨rfl, rfl⟩))
        go_ret
        exact ⟨ret_bool HF.out.symm, HB.out _⟩
      have HV : Hid (Gate.verbsOk r.vs = true) := hv
      clear hv
      by_cases h16 : r.px.size ≤ 16
      · have HF : Hid (Gate.ruleOk r = Gate.allName r.px) := by unfold Hid Gate.ruleOk; rw [HKD.out, HV.out, decide_eq_true h16]; rfl
        have h16I : (r.px.size : Int) ≤ 16 := by omega
        clear h16
        go_enter Tryd.func31, Tryd.ntmps31
        go_wp2_with (first | (go_at_call_of 54 (Value.string r.kd); refine (as_bool HK.out (isName_any r.kd _ hskd)).mono ?_; rintro e w' ⟨rfl, rfl⟩) | (go_at_call 59; refine (as_bool HV.out (areVerbs_any _ _ r.vs _ (by exact HI.out _))).mono ?_; rintro e w' ⟨rfl, rfl⟩) | (go_at_call 60; refine (isNameBytes_any r.px _ hspx).mono ?_; rintro e w' ⟨rfl, rfl⟩))
        go_ret
        exact ⟨ret_bool HF.out.symm, HB.out _⟩
      · have HF : Hid (Gate.ruleOk r = false) := by unfold Hid Gate.ruleOk; rw [decide_eq_false h16]; simp
        have h16I : decide ((r.px.size : Int) ≤ 16) = false := by simp; omega
        clear h16
        go_enter Tryd.func31, Tryd.ntmps31
        go_wp2_with (first | (go_at_call_of 54 (Value.string r.kd); refine (as_bool HK.out (isName_any r.kd _ hskd)).mono ?_; rintro e w' ⟨rfl, rfl⟩) | (go_at_call 59; refine (as_bool HV.out (areVerbs_any _ _ r.vs _ (by exact HI.out _))).mono ?_; rintro e w' ⟨rfl, rfl⟩))
        go_ret
        exact ⟨ret_bool HF.out.symm, HB.out _⟩
    · have HKD : Hid (Gate.kindsOk r = true) := by unfold Hid Gate.kindsOk; rw [HK.out, HT.out]; simp
      by_cases hv : Gate.verbsOk r.vs = true
      rotate_left
      · have HV : Hid (Gate.verbsOk r.vs = false) := by simpa [Hid] using hv
        have HF : Hid (Gate.ruleOk r = false) := by unfold Hid Gate.ruleOk; rw [HV.out]; simp
        clear hv
        go_enter Tryd.func31, Tryd.ntmps31
        go_wp2_with (first | (go_at_call_of 54 (Value.string r.kd); refine (as_bool HK.out (isName_any r.kd _ hskd)).mono ?_; rintro e w' ⟨rfl, rfl⟩) | (go_at_call_of 54 (Value.string r.tm); refine (as_bool HT.out (isName_any r.tm _ hstm)).mono ?_; rintro e w' ⟨rfl, rfl⟩) | (go_at_call 59; refine (as_bool HV.out (areVerbs_any _ _ r.vs _ (by exact HI.out _))).mono ?_; rintro e w' ⟨rfl, rfl⟩))
        go_ret
        exact ⟨ret_bool HF.out.symm, HB.out _⟩
      have HV : Hid (Gate.verbsOk r.vs = true) := hv
      clear hv
      by_cases h16 : r.px.size ≤ 16
      · have HF : Hid (Gate.ruleOk r = Gate.allName r.px) := by unfold Hid Gate.ruleOk; rw [HKD.out, HV.out, decide_eq_true h16]; rfl
        have h16I : (r.px.size : Int) ≤ 16 := by omega
        clear h16
        go_enter Tryd.func31, Tryd.ntmps31
        go_wp2_with (first | (go_at_call_of 54 (Value.string r.kd); refine (as_bool HK.out (isName_any r.kd _ hskd)).mono ?_; rintro e w' ⟨rfl, rfl⟩) | (go_at_call_of 54 (Value.string r.tm); refine (as_bool HT.out (isName_any r.tm _ hstm)).mono ?_; rintro e w' ⟨rfl, rfl⟩) | (go_at_call 59; refine (as_bool HV.out (areVerbs_any _ _ r.vs _ (by exact HI.out _))).mono ?_; rintro e w' ⟨rfl, rfl⟩) | (go_at_call 60; refine (isNameBytes_any r.px _ hspx).mono ?_; rintro e w' ⟨rfl, rfl⟩))
        go_ret
        exact ⟨ret_bool HF.out.symm, HB.out _⟩
      · have HF : Hid (Gate.ruleOk r = false) := by unfold Hid Gate.ruleOk; rw [decide_eq_false h16]; simp
        have h16I : decide ((r.px.size : Int) ≤ 16) = false := by simp; omega
        clear h16
        go_enter Tryd.func31, Tryd.ntmps31
        go_wp2_with (first | (go_at_call_of 54 (Value.string r.kd); refine (as_bool HK.out (isName_any r.kd _ hskd)).mono ?_; rintro e w' ⟨rfl, rfl⟩) | (go_at_call_of 54 (Value.string r.tm); refine (as_bool HT.out (isName_any r.tm _ hstm)).mono ?_; rintro e w' ⟨rfl, rfl⟩) | (go_at_call 59; refine (as_bool HV.out (areVerbs_any _ _ r.vs _ (by exact HI.out _))).mono ?_; rintro e w' ⟨rfl, rfl⟩))
        go_ret
        exact ⟨ret_bool HF.out.symm, HB.out _⟩
    · have HF : Hid (Gate.ruleOk r = false) := by unfold Hid Gate.ruleOk Gate.kindsOk; rw [ht, HT.out]; simp
      go_enter Tryd.func31, Tryd.ntmps31
      go_wp2_with (first | (go_at_call_of 54 (Value.string r.kd); refine (as_bool HK.out (isName_any r.kd _ hskd)).mono ?_; rintro e w' ⟨rfl, rfl⟩) | (go_at_call_of 54 (Value.string r.tm); refine (as_bool HT.out (isName_any r.tm _ hstm)).mono ?_; rintro e w' ⟨rfl, rfl⟩))
      go_ret
      exact ⟨ret_bool HF.out.symm, HB.out _⟩
  · have HF : Hid (Gate.ruleOk r = false) := by unfold Hid Gate.ruleOk Gate.kindsOk; rw [hk, HK.out]; simp
    go_enter Tryd.func31, Tryd.ntmps31
    go_wp2_with (first | (go_at_call_of 54 (Value.string r.kd); refine (as_bool HK.out (isName_any r.kd _ hskd)).mono ?_; rintro e w' ⟨rfl, rfl⟩))
    go_ret
    exact ⟨ret_bool HF.out.symm, HB.out _⟩

end Go.Proofs.YtimhinpekngceaaDoor

namespace Go.Proofs.YtimhinpekngceaaDoor
open Go.RowKit

theorem ret_str {a b : ByteArray} (h : a = b) : Ending.returned (.string a) = .returned (.string b) := by rw [h]

theorem over_small (ts : List Tm) (v : ByteArray) (hs : ∀ i (h : i < ts.length), ts[i].Small) : (Gate.over ts v).size ≤ maxLen := by
  unfold Gate.over
  cases hf : ts.find? (fun t => decide (t.nm = v)) with
  | none => simp [Gate.noTeam, maxLen]
  | some t =>
    obtain ⟨k, hk, rfl⟩ := List.mem_iff_getElem.1 (List.mem_of_find?_eq_some hf)
    exact (hs k hk).ov

set_option maxHeartbeats 400000 in
theorem l4Over_any (a : Option Addr) (cap : Nat) (ts : List Tm) (v : ByteArray) (w : World) (hw : TmsAt w a ts) :
    Calls Tryd.prog 76 #[.slice a ts.length cap, .string v] w fun e w' => e = .returned (.string (Gate.over ts v)) ∧ w' = w := by
  have hl := hw.len
  unfold maxLen at hl
  go_enter Tryd.func76, Tryd.ntmps76
  go_wp2_with fail
  go_loop [5] (fun i => ∃ k : Nat, k ≤ ts.length ∧ i = .int .i64 k ∧ Gate.hasTeam (ts.take k) v = false) (fun i => ts.length - (intOf i).toNat)
  case atStart => exact ⟨0, Nat.zero_le _, rfl, rfl⟩
  case round =>
    obtain ⟨k, hk, rfl, hall⟩ := hrel
    by_cases hlt : k < ts.length
    · obtain ⟨b, off, rfl, hb, c0, c1⟩ := hw.load (Below.refl _ _) k hlt
      clear hw
      have HS : Hid (Gate.hasTeam (ts.take (k + 1)) v = (false || decide (ts[k].nm = v))) := by rw [Gate.hasTeam_snoc ts v k hlt, hall]; rfl
      have hltI : (k : Int) < (ts.length : Int) := by omega
      by_cases he : ts[k].nm = v
      · have hbe : (ts[k].nm.toList == v.toList) = true := by rw [Gate.beq_toList]; simpa using he
        have HR : Hid (Gate.over ts v = ts[k].ov) := Gate.over_at ts v k hlt hall he
        clear he hall
        go_wp2_with fail
        go_ret
        exact ⟨ret_str HR.out.symm, rfl⟩
      · have hbe : (ts[k].nm.toList == v.toList) = false := by rw [Gate.beq_toList]; simpa using he
        have HE : Hid (¬ ts[k].nm = v) := he
        clear he hall
        go_wp2_with fail
        go_round
        case rel => exact ⟨k + 1, by omega, by go_num, by rw [HS.out, decide_eq_false HE.out]; rfl⟩
        case measure => simp [intOf]; omega
    · have HR : Hid (Gate.over ts v = ByteArray.empty) := Gate.over_none ts v (by rw [← Gate.hasTeam_all ts v k (by omega)]; exact hall)
      clear hall hw
      go_wp2_with fail
      go_ret
      exact ⟨ret_str HR.out.symm, rfl⟩

set_option maxHeartbeats 800000 in
theorem overOf_any (a : Option Addr) (cap : Nat) (ts : List Tm) (v : ByteArray) (w : World) (hw : TmsAt w a ts) :
    Calls Tryd.prog 81 #[.slice a ts.length cap, .string v] w fun e w' => e = .returned (.string (Gate.over ts v)) ∧ Below w.heap.size w w' := by
  have hl := hw.len
  unfold maxLen at hl
  go_enter Tryd.func81, Tryd.ntmps81
  go_wp2_with fail
  go_loopw [9] (fun i wr => ∃ k : Nat, k ≤ ts.length ∧ i = .int .i64 k ∧ Gate.hasTeam (ts.take k) v = false ∧ Below w.heap.size w wr) (fun i _ => ts.length - (intOf i).toNat)
  case atStart => exact ⟨0, Nat.zero_le _, rfl, rfl, Below.refl _ _⟩
  case round =>
    obtain ⟨k, hk, rfl, hall, hB⟩ := hrel
    have hsz := hB.size
    by_cases hlt : k < ts.length
    · obtain ⟨b, off, rfl, hb, c0, c1⟩ := hw.load hB k hlt
      clear hw
      have HS : Hid (Gate.hasTeam (ts.take (k + 1)) v = (false || decide (ts[k].nm = v))) := by rw [Gate.hasTeam_snoc ts v k hlt, hall]; rfl
      have hltI : (k : Int) < (ts.length : Int) := by omega
      have hbr : b < wr.heap.size := by omega
      by_cases he : ts[k].nm = v
      · have hbe : (ts[k].nm.toList == v.toList) = true := by rw [Gate.beq_toList]; simpa using he
        have HR : Hid (Gate.over ts v = ts[k].ov) := Gate.over_at ts v k hlt hall he
        clear he hall
        go_wp2_with fail
        go_ret
        exact ⟨ret_str HR.out.symm, hB.alloc hsz _⟩
      · have hbe : (ts[k].nm.toList == v.toList) = false := by rw [Gate.beq_toList]; simpa using he
        have HE : Hid (¬ ts[k].nm = v) := he
        clear he hall
        go_wp2_with fail
        exact ⟨⟨k + 1, by omega, by go_num, by rw [HS.out, decide_eq_false HE.out]; rfl, hB.alloc hsz _⟩, by simp [intOf]; omega⟩
    · have HR : Hid (Gate.over ts v = ByteArray.empty) := Gate.over_none ts v (by rw [← Gate.hasTeam_all ts v k (by omega)]; exact hall)
      clear hall hw
      go_wp2_with fail
      go_ret
      exact ⟨ret_str HR.out.symm, hB⟩

end Go.Proofs.YtimhinpekngceaaDoor
