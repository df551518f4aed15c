import Derived.Test.YtlonpcaniibehaaM05
import Derived.Test.YtlonpcaniibehaaM04
namespace Go.Proofs.Ytlonpcaniibehaa
open Go.RowKit

set_option maxHeartbeats 400000 in
theorem isGiven_any (v : Int) (w : World) :
    Calls Try.prog 60 #[.int .i64 v] w fun e w' => e = .returned (.bool (Gate.verbOk v)) ∧ w' = w := by
  go_enter Try.func60, Try.ntmps60
  go_wp2
  all_goals
    go_ret
    refine ⟨ret_bool ?_, rfl⟩
    rw [Bool.eq_iff_iff]; simp [Gate.verbOk]; try omega

theorem Gate.verbAt_no {vs : List Int} {k : Nat} (h : k < vs.length) (hn : Gate.verbOk vs[k] = false) : Gate.verbAt vs k = false := by
  unfold Gate.verbAt; rw [Gate.getD_at vs k _ h, hn]; rfl
theorem Gate.verbAt_first {vs : List Int} (h : 0 < vs.length) (hn : Gate.verbOk vs[0] = true) : Gate.verbAt vs 0 = true := by
  unfold Gate.verbAt; rw [Gate.getD_at vs 0 _ h, hn]; rfl
theorem Gate.verbAt_more {vs : List Int} {k : Nat} (h : k + 1 < vs.length) (hn : Gate.verbOk vs[k + 1] = true) : Gate.verbAt vs (k + 1) = decide (vs[k] < vs[k + 1]) := by
  unfold Gate.verbAt; rw [Gate.getD_at vs (k + 1) _ h, Nat.add_sub_cancel, Gate.getD_at vs k _ (by omega), hn]; simp

set_option maxHeartbeats 1000000 in
theorem areVerbs_any (a : Option Addr) (cap : Nat) (vs : List Int) (w : World) (hw : IntsAt w a vs) :
    Calls Try.prog 57 #[.slice a vs.length cap] w fun e w' => e = .returned (.bool (Gate.verbsOk vs)) ∧ w' = w := by
  have hl := hw.len
  unfold maxLen at hl
  have HG : Hid (Gate.up (Gate.verbAt vs) vs.length = false → Gate.verbsOk vs = false) := fun h => by unfold Gate.verbsOk; rw [h, Bool.and_false]
  go_enter Try.func57, Try.ntmps57
  go_wp2_with fail
  go_loop [7] (fun i => ∃ k : Nat, k ≤ vs.length ∧ i = .int .i64 k ∧ Gate.up (Gate.verbAt vs) k = true) (fun i => vs.length - (intOf i).toNat)
  case atStart => exact ⟨0, Nat.zero_le _, rfl, rfl⟩
  case round =>
    obtain ⟨k, hk, rfl, hup⟩ := hrel
    by_cases hlt : k < vs.length
    · obtain ⟨b, off, rfl, hb, hck⟩ := hw.load (Below.refl _ _) k hlt
      have hltI : (k : Int) < (vs.length : Int) := by omega
      by_cases hn : Gate.verbOk vs[k] = true
      · by_cases hk0 : k = 0
        · have HF : Hid (Gate.up (Gate.verbAt vs) (k + 1) = true) := by subst hk0; unfold Hid; rw [Gate.up_succ, Gate.verbAt_first hlt hn]; rfl
          have hg : decide (0 < k) = false := by simp; omega
          have HN : Hid (Gate.verbOk vs[k] = true) := hn
          clear hn hup hk0 hw
          go_wp2_with (go_at_call 60; refine (as_bool HN.out (isGiven_any _ _)).mono ?_; rintro e w' ⟨rfl, rfl⟩)
          go_round
          case rel => exact ⟨k + 1, by omega, by go_num, HF.out⟩
          case measure => simp [intOf]; omega
        · obtain ⟨m, rfl⟩ : ∃ m, k = m + 1 := ⟨k - 1, by omega⟩
          obtain ⟨b', off', e', hb', hcm⟩ := hw.load (Below.refl _ _) m (by omega)
          simp only [Option.some.injEq, Addr.mk.injEq] at e'
          obtain ⟨rfl, rfl, _⟩ := e'
          have HU : Hid (Gate.up (Gate.verbAt vs) (m + 1 + 1) = decide (vs[m] < vs[m + 1])) := by unfold Hid; rw [Gate.up_succ, hup, Gate.verbAt_more hlt hn]; rfl
          have HNN : Hid (¬ vs[m] < vs[m + 1] → Gate.verbsOk vs = false) := fun h => HG.out (Gate.up_not hlt (by rw [Gate.verbAt_more hlt hn]; simpa using h))
          have HN : Hid (Gate.verbOk vs[m + 1] = true) := hn
          clear hn hup hk0 hw
          by_cases hls : vs[m] < vs[m + 1]
          · have hls' : decide (vs[m + 1] ≤ vs[m]) = false := by simp; omega
            have HLS : Hid (vs[m] < vs[m + 1]) := hls
            clear hls
            go_wp2_with (go_at_call 60; refine (as_bool HN.out (isGiven_any _ _)).mono ?_; rintro e w' ⟨rfl, rfl⟩)
            go_round
            case rel => exact ⟨m + 1 + 1, by omega, by go_num, by rw [HU.out]; simpa using HLS.out⟩
            case measure => simp [intOf]; omega
          · have hls' : vs[m + 1] ≤ vs[m] := by omega
            have HLS : Hid (¬ vs[m] < vs[m + 1]) := hls
            clear hls
            go_wp2_with (go_at_call 60; refine (as_bool HN.out (isGiven_any _ _)).mono ?_; rintro e w' ⟨rfl, rfl⟩)
            go_ret
            exact ⟨ret_bool (HNN.out HLS.out).symm, rfl⟩
      · have hn' : Gate.verbOk vs[k] = false := by simpa using hn
        have HF : Hid (Gate.verbsOk vs = false) := HG.out (Gate.up_not hlt (Gate.verbAt_no hlt hn'))
        have HN : Hid (Gate.verbOk vs[k] = false) := hn'
        clear hn hn' hup hw
        go_wp2_with (go_at_call 60; refine (as_bool HN.out (isGiven_any _ _)).mono ?_; rintro e w' ⟨rfl, rfl⟩)
        go_ret
        exact ⟨ret_bool HF.out.symm, rfl⟩
    · have HF : Hid (Gate.verbsOk vs = decide (0 < vs.length)) := by
        have e : k = vs.length := by omega
        subst e; unfold Hid Gate.verbsOk; rw [hup, Bool.and_true]
      clear hw hup
      go_wp2_with fail
      go_ret
      exact ⟨ret_bool (by rw [HF.out]), rfl⟩

set_option maxHeartbeats 1000000 in
theorem verbsOf_any (a : Option Addr) (cap : Nat) (vs : List Int) (w : World) (hw : IntsAt w a vs) (hv : Gate.verbsOk vs = true) :
    Calls Try.prog 58 #[.slice a vs.length cap] w fun e w' => e = .returned (.int .u8 (Gate.bitsOf (Gate.hasVerb vs))) ∧ w' = w := by
  have hl := hw.len
  unfold maxLen at hl
  have HV : Hid (∀ i (h : i < vs.length), 1 ≤ vs[i] ∧ vs[i] ≤ 5) := fun i h => Gate.verbsOk_at hv i h
  clear hv
  go_enter Try.func58, Try.ntmps58
  go_wp2_with fail
  go_loop [3, 8] (fun s i => ∃ k : Nat, k ≤ vs.length ∧ i = .int .i64 k ∧ s = .int .u8 (Gate.bitsOf (Gate.hasVerb (vs.take k)))) (fun _ i => vs.length - (intOf i).toNat)
  case atStart => exact ⟨0, Nat.zero_le _, rfl, rfl⟩
  case round =>
    obtain ⟨k, hk, rfl, rfl⟩ := hrel
    by_cases hlt : k < vs.length
    · obtain ⟨b, off, rfl, hb, hck⟩ := hw.load (Below.refl _ _) k hlt
      have hltI : (k : Int) < (vs.length : Int) := by omega
      obtain ⟨hv1, hv5⟩ := HV.out k hlt
      have hv0 : ¬ vs[k] < 0 := by omega
      have HS : Hid (Gate.bitsOf (Gate.hasVerb (vs.take (k + 1))) = Gate.orI (Gate.bitsOf (Gate.hasVerb (vs.take k))) (Gate.oneAt vs[k])) := by
        unfold Hid; rw [Gate.bits_or _ _ ⟨hv1, hv5⟩]; exact Gate.bits_congr fun v _ => Gate.hasVerb_snoc vs v k hlt
      clear hw
      go_wp2_with fail
      go_round
      case rel => exact ⟨k + 1, by omega, by go_num, by rw [HS.out]; rfl⟩
      case measure => simp [intOf]; omega
    · have HF : Hid (Gate.bitsOf (Gate.hasVerb (vs.take k)) = Gate.bitsOf (Gate.hasVerb vs)) := by unfold Hid; rw [List.take_of_length_le (by omega)]
      clear hw
      go_wp2_with fail
      go_ret
      exact ⟨ret_int HF.out, rfl⟩

set_option maxHeartbeats 400000 in
theorem has_any (f : Int → Bool) (v : Int) (w : World) :
    Calls Try.prog 44 #[.int .u8 (Gate.bitsOf f), .int .i64 v] w fun e w' => e = .returned (.bool (Gate.verbOk v && f v)) ∧ w' = w := by
  by_cases hv : Gate.verbOk v = true
  · have HV : Hid (Gate.verbOk v = true) := hv
    have hv' : 1 ≤ v ∧ v ≤ 5 := by simpa [Gate.verbOk] using hv
    have HB : Hid ((Gate.andI (Gate.bitsOf f) (Gate.oneAt v) != 0) = f v) := Gate.bits_and f v hv'
    obtain ⟨hv1, hv5⟩ := hv'
    have hv0 : ¬ v < 0 := by omega
    clear hv
    go_enter Try.func44, Try.ntmps44
    go_wp2_with (go_at_call 60; refine (as_bool HV.out (isGiven_any _ _)).mono ?_; rintro e w' ⟨rfl, rfl⟩)
    go_ret
    exact ⟨ret_bool (by rw [HV.out, Bool.true_and, ← HB.out]; rfl), rfl⟩
  · have HV : Hid (Gate.verbOk v = false) := by simpa [Hid] using hv
    clear hv
    go_enter Try.func44, Try.ntmps44
    go_wp2_with (go_at_call 60; refine (as_bool HV.out (isGiven_any _ _)).mono ?_; rintro e w' ⟨rfl, rfl⟩)
    go_ret
    exact ⟨ret_bool (by rw [HV.out]; rfl), rfl⟩

end Go.Proofs.Ytlonpcaniibehaa

namespace Go.Proofs.Ytlonpcaniibehaa
open Go.RowKit

theorem Gate.kd_cases (s : ByteArray) : s.toList.isEmpty = true ∨ (s.toList.isEmpty = false ∧ Hid (Gate.nameOk s = true)) ∨ (s.toList.isEmpty = false ∧ Hid (Gate.nameOk s = false)) := by
  by_cases h : s.toList.isEmpty = true
  · exact Or.inl h
  · by_cases h2 : Gate.nameOk s = true
    · exact Or.inr (Or.inl ⟨by simpa using h, h2⟩)
    · exact Or.inr (Or.inr ⟨by simpa using h, by simpa [Hid] using h2⟩)

set_option maxHeartbeats 2000000 in
theorem isRule_any (r : Rl) (a : Option Addr) (cap : Nat) (w : World) (hm : r.Small) (hw : IntsAt w a r.vs) :
    Calls Try.prog 42 #[.agg (r.cells a cap)] w fun e w' => e = .returned (.bool (Gate.ruleOk r)) ∧ Below w.heap.size w w' := by
  have hskd := hm.kd
  have hstm := hm.tm
  have hspx := hm.px
  have hpx := hm.px
  unfold maxLen at hpx
  unfold Rl.cells
  have HB : Hid (∀ ob, Below w.heap.size w (w.alloc ob)) := fun ob => (Below.refl _ _).alloc (Nat.le_refl _) _
  have HI : Hid (∀ ob, IntsAt (w.alloc ob) a r.vs) := fun ob => hw.mono (HB.out ob)
  clear hw hm
  rcases Gate.kd_cases r.kd with hk | ⟨hk, HK⟩ | ⟨hk, HK⟩
  · rcases Gate.kd_cases r.tm with ht | ⟨ht, HT⟩ | ⟨ht, HT⟩
    · have HKD : Hid (Gate.kindsOk r = true) := by unfold Hid Gate.kindsOk; rw [hk, ht]; simp
      by_cases hv : Gate.verbsOk r.vs = true
      rotate_left
      · have HV : Hid (Gate.verbsOk r.vs = false) := by simpa [Hid] using hv
        have HF : Hid (Gate.ruleOk r = false) := by unfold Hid Gate.ruleOk; rw [HV.out]; simp
        clear hv
        go_enter Try.func42, Try.ntmps42
        go_wp2_with (first | (go_at_call 57; refine (as_bool HV.out (areVerbs_any _ _ r.vs _ (by exact HI.out _))).mono ?_; rintro e w' ⟨rfl, rfl⟩))
        go_ret
        exact ⟨ret_bool HF.out.symm, HB.out _⟩
      have HV : Hid (Gate.verbsOk r.vs = true) := hv
      clear hv
      by_cases h16 : r.px.size ≤ 16
      · have HF : Hid (Gate.ruleOk r = Gate.allName r.px) := by unfold Hid Gate.ruleOk; rw [HKD.out, HV.out, decide_eq_true h16]; rfl
        have h16I : (r.px.size : Int) ≤ 16 := by omega
        clear h16
        go_enter Try.func42, Try.ntmps42
        go_wp2_with (first | (go_at_call 57; refine (as_bool HV.out (areVerbs_any _ _ r.vs _ (by exact HI.out _))).mono ?_; rintro e w' ⟨rfl, rfl⟩) | (go_at_call 52; refine (isNameBytes_any r.px _ hspx).mono ?_; rintro e w' ⟨rfl, rfl⟩))
        go_ret
        exact ⟨ret_bool HF.out.symm, HB.out _⟩
      · have HF : Hid (Gate.ruleOk r = false) := by unfold Hid Gate.ruleOk; rw [decide_eq_false h16]; simp
        have h16I : decide ((r.px.size : Int) ≤ 16) = false := by simp; omega
        clear h16
        go_enter Try.func42, Try.ntmps42
        go_wp2_with (first | (go_at_call 57; refine (as_bool HV.out (areVerbs_any _ _ r.vs _ (by exact HI.out _))).mono ?_; rintro e w' ⟨rfl, rfl⟩))
        go_ret
        exact ⟨ret_bool HF.out.symm, HB.out _⟩
    · have HKD : Hid (Gate.kindsOk r = true) := by unfold Hid Gate.kindsOk; rw [hk, HT.out]; simp
      by_cases hv : Gate.verbsOk r.vs = true
      rotate_left
      · have HV : Hid (Gate.verbsOk r.vs = false) := by simpa [Hid] using hv
        have HF : Hid (Gate.ruleOk r = false) := by unfold Hid Gate.ruleOk; rw [HV.out]; simp
        clear hv
        go_enter Try.func42, Try.ntmps42
        go_wp2_with (first | (go_at_call_of 33 (Value.string r.tm); refine (as_bool HT.out (isName_any r.tm _ hstm)).mono ?_; rintro e w' ⟨rfl, rfl⟩) | (go_at_call 57; refine (as_bool HV.out (areVerbs_any _ _ r.vs _ (by exact HI.out _))).mono ?_; rintro e w' ⟨rfl, rfl⟩))
        go_ret
        exact ⟨ret_bool HF.out.symm, HB.out _⟩
      have HV : Hid (Gate.verbsOk r.vs = true) := hv
      clear hv
      by_cases h16 : r.px.size ≤ 16
      · have HF : Hid (Gate.ruleOk r = Gate.allName r.px) := by unfold Hid Gate.ruleOk; rw [HKD.out, HV.out, decide_eq_true h16]; rfl
        have h16I : (r.px.size : Int) ≤ 16 := by omega
        clear h16
        go_enter Try.func42, Try.ntmps42
        go_wp2_with (first | (go_at_call_of 33 (Value.string r.tm); refine (as_bool HT.out (isName_any r.tm _ hstm)).mono ?_; rintro e w' ⟨rfl, rfl⟩) | (go_at_call 57; refine (as_bool HV.out (areVerbs_any _ _ r.vs _ (by exact HI.out _))).mono ?_; rintro e w' ⟨rfl, rfl⟩) | (go_at_call 52; refine (isNameBytes_any r.px _ hspx).mono ?_; rintro e w' ⟨rfl, rfl⟩))
        go_ret
        exact ⟨ret_bool HF.out.symm, HB.out _⟩
      · have HF : Hid (Gate.ruleOk r = false) := by unfold Hid Gate.ruleOk; rw [decide_eq_false h16]; simp
        have h16I : decide ((r.px.size : Int) ≤ 16) = false := by simp; omega
        clear h16
        go_enter Try.func42, Try.ntmps42
        go_wp2_with (first | (go_at_call_of 33 (Value.string r.tm); refine (as_bool HT.out (isName_any r.tm _ hstm)).mono ?_; rintro e w' ⟨rfl, rfl⟩) | (go_at_call 57; refine (as_bool HV.out (areVerbs_any _ _ r.vs _ (by exact HI.out _))).mono ?_; rintro e w' ⟨rfl, rfl⟩))
        go_ret
        exact ⟨ret_bool HF.out.symm, HB.out _⟩
    · have HF : Hid (Gate.ruleOk r = false) := by unfold Hid Gate.ruleOk Gate.kindsOk; rw [ht, HT.out]; simp
      go_enter Try.func42, Try.ntmps42
      go_wp2_with (first | (go_at_call_of 33 (Value.string r.tm); refine (as_bool HT.out (isName_any r.tm _ hstm)).mono ?_; rintro e w' ⟨rfl, rfl⟩))
      go_ret
      exact ⟨ret_bool HF.out.symm, HB.out _⟩
  · rcases Gate.kd_cases r.tm with ht | ⟨ht, HT⟩ | ⟨ht, HT⟩
    · have HKD : Hid (Gate.kindsOk r = true) := by unfold Hid Gate.kindsOk; rw [HK.out, ht]; simp
      by_cases hv : Gate.verbsOk r.vs = true
      rotate_left
      · have HV : Hid (Gate.verbsOk r.vs = false) := by simpa [Hid] using hv
        have HF : Hid (Gate.ruleOk r = false) := by unfold Hid Gate.ruleOk; rw [HV.out]; simp
        clear hv
        go_enter Try.func42, Try.ntmps42
        go_wp2_with (first | (go_at_call_of 33 (Value.string r.kd); refine (as_bool HK.out (isName_any r.kd _ hskd)).mono ?_; rintro e w' ⟨rfl, rfl⟩) | (go_at_call 57; refine (as_bool HV.out (areVerbs_any _ _ r.vs _ (by exact HI.out _))).mono ?_; rintro e w' ⟨rfl, rfl⟩))
        go_ret
        exact ⟨ret_bool HF.out.symm, HB.out _⟩
      have HV : Hid (Gate.verbsOk r.vs = true) := hv
      clear hv
      by_cases h16 : r.px.size ≤ 16
      · have HF : Hid (Gate.ruleOk r = Gate.allName r.px) := by unfold Hid Gate.ruleOk; rw [HKD.out, HV.out, decide_eq_true h16]; rfl
        have h16I : (r.px.size : Int) ≤ 16 := by omega
        clear h16
        go_enter Try.func42, Try.ntmps42
        go_wp2_with (first | (go_at_call_of 33 (Value.string r.kd); refine (as_bool HK.out (isName_any r.kd _ hskd)).mono ?_; rintro e w' ⟨rfl, rfl⟩) | (go_at_call 57; refine (as_bool HV.out (areVerbs_any _ _ r.vs _ (by exact HI.out _))).mono ?_; rintro e w' ⟨rfl, rfl⟩) | (go_at_call 52; refine (isNameBytes_any r.px _ hspx).mono ?_; rintro e w' ⟨rfl, rfl⟩))
        go_ret
        exact ⟨ret_bool HF.out.symm, HB.out _⟩
      · have HF : Hid (Gate.ruleOk r = false) := by unfold Hid Gate.ruleOk; rw [decide_eq_false h16]; simp
        have h16I : decide ((r.px.size : Int) ≤ 16) = false := by simp; omega
        clear h16
        go_enter Try.func42, Try.ntmps42
        go_wp2_with (first | (go_at_call_of 33 (Value.string r.kd); refine (as_bool HK.out (isName_any r.kd _ hskd)).mono ?_; rintro e w' ⟨rfl, rfl⟩) | (go_at_call 57; refine (as_bool HV.out (areVerbs_any _ _ r.vs _ (by exact HI.out _))).mono ?_; rintro e w' ⟨rfl, rfl⟩))
        go_ret
        exact ⟨ret_bool HF.out.symm, HB.out _⟩
    · have HKD : Hid (Gate.kindsOk r = true) := by unfold Hid Gate.kindsOk; rw [HK.out, HT.out]; simp
      by_cases hv : Gate.verbsOk r.vs = true
      rotate_left
      · have HV : Hid (Gate.verbsOk r.vs = false) := by simpa [Hid] using hv
        have HF : Hid (Gate.ruleOk r = false) := by unfold Hid Gate.ruleOk; rw [HV.out]; simp
        clear hv
        go_enter Try.func42, Try.ntmps42
        go_wp2_with (first | (go_at_call_of 33 (Value.string r.kd); refine (as_bool HK.out (isName_any r.kd _ hskd)).mono ?_; rintro e w' ⟨rfl, rfl⟩) | (go_at_call_of 33 (Value.string r.tm); refine (as_bool HT.out (isName_any r.tm _ hstm)).mono ?_; rintro e w' ⟨rfl, rfl⟩) | (go_at_call 57; refine (as_bool HV.out (areVerbs_any _ _ r.vs _ (by exact HI.out _))).mono ?_; rintro e w' ⟨rfl, rfl⟩))
        go_ret
        exact ⟨ret_bool HF.out.symm, HB.out _⟩
      have HV : Hid (Gate.verbsOk r.vs = true) := hv
      clear hv
      by_cases h16 : r.px.size ≤ 16
      · have HF : Hid (Gate.ruleOk r = Gate.allName r.px) := by unfold Hid Gate.ruleOk; rw [HKD.out, HV.out, decide_eq_true h16]; rfl
        have h16I : (r.px.size : Int) ≤ 16 := by omega
        clear h16
        go_enter Try.func42, Try.ntmps42
        go_wp2_with (first | (go_at_call_of 33 (Value.string r.kd); refine (as_bool HK.out (isName_any r.kd _ hskd)).mono ?_; rintro e w' ⟨rfl, rfl⟩) | (go_at_call_of 33 (Value.string r.tm); refine (as_bool HT.out (isName_any r.tm _ hstm)).mono ?_; rintro e w' ⟨rfl, rfl⟩) | (go_at_call 57; refine (as_bool HV.out (areVerbs_any _ _ r.vs _ (by exact HI.out _))).mono ?_; rintro e w' ⟨rfl, rfl⟩) | (go_at_call 52; refine (isNameBytes_any r.px _ hspx).mono ?_; rintro e w' ⟨rfl, rfl⟩))
        go_ret
        exact ⟨ret_bool HF.out.symm, HB.out _⟩
      · have HF : Hid (Gate.ruleOk r = false) := by unfold Hid Gate.ruleOk; rw [decide_eq_false h16]; simp
        have h16I : decide ((r.px.size : Int) ≤ 16) = false := by simp; omega
        clear h16
        go_enter Try.func42, Try.ntmps42
        go_wp2_with (first | (go_at_call_of 33 (Value.string r.kd); refine (as_bool HK.out (isName_any r.kd _ hskd)).mono ?_; rintro e w' ⟨rfl, rfl⟩) | (go_at_call_of 33 (Value.string r.tm); refine (as_bool HT.out (isName_any r.tm _ hstm)).mono ?_; rintro e w' ⟨rfl, rfl⟩) | (go_at_call 57; refine (as_bool HV.out (areVerbs_any _ _ r.vs _ (by exact HI.out _))).mono ?_; rintro e w' ⟨rfl, rfl⟩))
        go_ret
        exact ⟨ret_bool HF.out.symm, HB.out _⟩
    · have HF : Hid (Gate.ruleOk r = false) := by unfold Hid Gate.ruleOk Gate.kindsOk; rw [ht, HT.out]; simp
      go_enter Try.func42, Try.ntmps42
      go_wp2_with (first | (go_at_call_of 33 (Value.string r.kd); refine (as_bool HK.out (isName_any r.kd _ hskd)).mono ?_; rintro e w' ⟨rfl, rfl⟩) | (go_at_call_of 33 (Value.string r.tm); refine (as_bool HT.out (isName_any r.tm _ hstm)).mono ?_; rintro e w' ⟨rfl, rfl⟩))
      go_ret
      exact ⟨ret_bool HF.out.symm, HB.out _⟩
  · have HF : Hid (Gate.ruleOk r = false) := by unfold Hid Gate.ruleOk Gate.kindsOk; rw [hk, HK.out]; simp
    go_enter Try.func42, Try.ntmps42
    go_wp2_with (first | (go_at_call_of 33 (Value.string r.kd); refine (as_bool HK.out (isName_any r.kd _ hskd)).mono ?_; rintro e w' ⟨rfl, rfl⟩))
    go_ret
    exact ⟨ret_bool HF.out.symm, HB.out _⟩

end Go.Proofs.Ytlonpcaniibehaa

namespace Go.Proofs.Ytlonpcaniibehaa
open Go.RowKit

theorem ret_str {a b : ByteArray} (h : a = b) : Ending.returned (.string a) = .returned (.string b) := by rw [h]

theorem over_small (ts : List Tm) (v : ByteArray) (hs : ∀ i (h : i < ts.length), ts[i].Small) : (Gate.over ts v).size ≤ maxLen := by
  unfold Gate.over
  cases hf : ts.find? (fun t => decide (t.nm = v)) with
  | none => simp [Gate.noTeam, maxLen]
  | some t =>
    obtain ⟨k, hk, rfl⟩ := List.mem_iff_getElem.1 (List.mem_of_find?_eq_some hf)
    exact (hs k hk).ov

set_option maxHeartbeats 400000 in
theorem l4Over_any (a : Option Addr) (cap : Nat) (ts : List Tm) (v : ByteArray) (w : World) (hw : TmsAt w a ts) :
    Calls Try.prog 27 #[.slice a ts.length cap, .string v] w fun e w' => e = .returned (.string (Gate.over ts v)) ∧ w' = w := by
  have hl := hw.len
  unfold maxLen at hl
  go_enter Try.func27, Try.ntmps27
  go_wp2_with fail
  go_loop [5] (fun i => ∃ k : Nat, k ≤ ts.length ∧ i = .int .i64 k ∧ Gate.hasTeam (ts.take k) v = false) (fun i => ts.length - (intOf i).toNat)
  case atStart => exact ⟨0, Nat.zero_le _, rfl, rfl⟩
  case round =>
    obtain ⟨k, hk, rfl, hall⟩ := hrel
    by_cases hlt : k < ts.length
    · obtain ⟨b, off, rfl, hb, c0, c1⟩ := hw.load (Below.refl _ _) k hlt
      clear hw
      have HS : Hid (Gate.hasTeam (ts.take (k + 1)) v = (false || decide (ts[k].nm = v))) := by rw [Gate.hasTeam_snoc ts v k hlt, hall]; rfl
      have hltI : (k : Int) < (ts.length : Int) := by omega
      by_cases he : ts[k].nm = v
      · have hbe : (ts[k].nm.toList == v.toList) = true := by rw [Gate.beq_toList]; simpa using he
        have HR : Hid (Gate.over ts v = ts[k].ov) := Gate.over_at ts v k hlt hall he
        clear he hall
        go_wp2_with fail
        go_ret
        exact ⟨ret_str HR.out.symm, rfl⟩
      · have hbe : (ts[k].nm.toList == v.toList) = false := by rw [Gate.beq_toList]; simpa using he
        have HE : Hid (¬ ts[k].nm = v) := he
        clear he hall
        go_wp2_with fail
        go_round
        case rel => exact ⟨k + 1, by omega, by go_num, by rw [HS.out, decide_eq_false HE.out]; rfl⟩
        case measure => simp [intOf]; omega
    · have HR : Hid (Gate.over ts v = ByteArray.empty) := Gate.over_none ts v (by rw [← Gate.hasTeam_all ts v k (by omega)]; exact hall)
      clear hall hw
      go_wp2_with fail
      go_ret
      exact ⟨ret_str HR.out.symm, rfl⟩

set_option maxHeartbeats 800000 in
theorem overOf_any (a : Option Addr) (cap : Nat) (ts : List Tm) (v : ByteArray) (w : World) (hw : TmsAt w a ts) :
    Calls Try.prog 29 #[.slice a ts.length cap, .string v] w fun e w' => e = .returned (.string (Gate.over ts v)) ∧ Below w.heap.size w w' := by
  have hl := hw.len
  unfold maxLen at hl
  go_enter Try.func29, Try.ntmps29
  go_wp2_with fail
  go_loopw [9] (fun i wr => ∃ k : Nat, k ≤ ts.length ∧ i = .int .i64 k ∧ Gate.hasTeam (ts.take k) v = false ∧ Below w.heap.size w wr) (fun i _ => ts.length - (intOf i).toNat)
  case atStart => exact ⟨0, Nat.zero_le _, rfl, rfl, Below.refl _ _⟩
  case round =>
    obtain ⟨k, hk, rfl, hall, hB⟩ := hrel
    have hsz := hB.size
    by_cases hlt : k < ts.length
    · obtain ⟨b, off, rfl, hb, c0, c1⟩ := hw.load hB k hlt
      clear hw
      have HS : Hid (Gate.hasTeam (ts.take (k + 1)) v = (false || decide (ts[k].nm = v))) := by rw [Gate.hasTeam_snoc ts v k hlt, hall]; rfl
      have hltI : (k : Int) < (ts.length : Int) := by omega
      have hbr : b < wr.heap.size := by omega
      by_cases he : ts[k].nm = v
      · have hbe : (ts[k].nm.toList == v.toList) = true := by rw [Gate.beq_toList]; simpa using he
        have HR : Hid (Gate.over ts v = ts[k].ov) := Gate.over_at ts v k hlt hall he
        clear he hall
        go_wp2_with fail
        go_ret
        exact ⟨ret_str HR.out.symm, hB.alloc hsz _⟩
      · have hbe : (ts[k].nm.toList == v.toList) = false := by rw [Gate.beq_toList]; simpa using he
        have HE : Hid (¬ ts[k].nm = v) := he
        clear he hall
        go_wp2_with fail
        exact ⟨⟨k + 1, by omega, by go_num, by rw [HS.out, decide_eq_false HE.out]; rfl, hB.alloc hsz _⟩, by simp [intOf]; omega⟩
    · have HR : Hid (Gate.over ts v = ByteArray.empty) := Gate.over_none ts v (by rw [← Gate.hasTeam_all ts v k (by omega)]; exact hall)
      clear hall hw
      go_wp2_with fail
      go_ret
      exact ⟨ret_str HR.out.symm, hB⟩

end Go.Proofs.Ytlonpcaniibehaa
