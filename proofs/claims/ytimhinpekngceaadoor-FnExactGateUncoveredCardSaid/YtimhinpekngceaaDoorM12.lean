import Derived.Test.YtimhinpekngceaaDoorM11
import Derived.Test.YtimhinpekngceaaDoorM10
namespace Go.Proofs.YtimhinpekngceaaDoor
open Go.RowKit

set_option maxHeartbeats 400000 in
theorem l1NameOk_any (s : ByteArray) (w : World) (hs : s.size ≤ maxLen) :
    Calls Tryd.prog 74 #[.string s] w fun e w' => e = .returned (.bool (Gate.nameOk s)) ∧ w' = w := by
  unfold maxLen at hs
  by_cases hb : 1 ≤ s.size ∧ s.size ≤ 16
  · obtain ⟨hb1, hb2⟩ := hb
    go_enter Tryd.func74, Tryd.ntmps74
    go_wp2_with (go_at_call 77; refine (l1In_yes _ _ _ _ (by omega) (by omega)).mono ?_; rintro e w' ⟨rfl, rfl⟩)
    go_loop [3] (fun i => ∃ k : Nat, k ≤ s.size ∧ i = .int .i64 k ∧ (s.data.toList.take k).all Gate.nameByte = true) (fun i => s.size - (intOf i).toNat)
    case atStart => exact ⟨0, Nat.zero_le _, rfl, rfl⟩
    case round =>
      obtain ⟨k, hk, rfl, hall⟩ := hrel
      by_cases hlt : k < s.size
      · have HS : Hid ((s.data.toList.take (k + 1)).all Gate.nameByte = (true && Gate.nameByte s[k])) := by rw [Gate.all_snoc _ s k hlt, hall]; rfl
        have HN := fun h => Gate.all_not Gate.nameByte s k hlt h
        have HN' : Hid (Gate.nameByte s[k] = false → Gate.allName s = false) := HN
        clear HN hall
        by_cases hc : Gate.nameByte s[k] = true
        · go_wp2_with (go_at_call 78; refine (l1Byte_any _ _).mono ?_; rintro e w' ⟨rfl, rfl⟩)
          go_round
          case rel => exact ⟨k + 1, by omega, by go_num, by rw [HS.out, hc]; rfl⟩
          case measure => simp [intOf]; omega
        · have hc' : Gate.nameByte s[k] = false := by simpa using hc
          clear hc
          go_wp2_with (go_at_call 78; refine (l1Byte_any _ _).mono ?_; rintro e w' ⟨rfl, rfl⟩)
          go_ret
          refine ⟨ret_bool ?_, rfl⟩
          simp [Gate.nameOk, HN'.out hc']
      · have HA : Hid (Gate.allName s = true) := by unfold Gate.allName Hid; rw [← Gate.take_all s k (by omega)]; exact hall
        clear hall
        go_wp2
        go_ret
        refine ⟨ret_bool ?_, rfl⟩
        simp only [Gate.nameOk, HA.out]; simp; omega
  · go_enter Tryd.func74, Tryd.ntmps74
    go_wp2_with (go_at_call 77; refine (l1In_no _ _ _ _ (by omega)).mono ?_; rintro e w' ⟨rfl, rfl⟩)
    go_ret
    refine ⟨ret_bool ?_, rfl⟩
    simp [Gate.nameOk]; omega

set_option maxHeartbeats 400000 in
theorem isNameBytes_any (s : ByteArray) (w : World) (hs : s.size ≤ maxLen) :
    Calls Tryd.prog 60 #[.string s] w fun e w' => e = .returned (.bool (Gate.allName s)) ∧ w' = w := by
  unfold maxLen at hs
  go_enter Tryd.func60, Tryd.ntmps60
  go_wp2
  go_loop [7] (fun i => ∃ k : Nat, k ≤ s.size ∧ i = .int .i64 k ∧ (s.data.toList.take k).all Gate.nameByte = true) (fun i => s.size - (intOf i).toNat)
  case atStart => exact ⟨0, Nat.zero_le _, rfl, rfl⟩
  case round =>
    obtain ⟨k, hk, rfl, hall⟩ := hrel
    by_cases hlt : k < s.size
    · have HS : Hid ((s.data.toList.take (k + 1)).all Gate.nameByte = (true && Gate.nameByte s[k])) := by rw [Gate.all_snoc _ s k hlt, hall]; rfl
      have HN : Hid (Gate.nameByte s[k] = false → Gate.allName s = false) := fun h => Gate.all_not Gate.nameByte s k hlt h
      clear hall
      by_cases hd : 48 ≤ (s[k].toNat : Int) ∧ (s[k].toNat : Int) ≤ 57
      · have HC : Hid (Gate.nameByte s[k] = true) := by simp [Gate.nameByte, Hid]; omega
        obtain ⟨hd1, hd2⟩ := hd
        go_wp2_with (go_at_call 82; refine (isDigit_yes _ _ hd1 hd2).mono ?_; rintro e w' ⟨rfl, rfl⟩)
        go_round
        case rel => exact ⟨k + 1, by omega, by go_num, by rw [HS.out, HC.out]; rfl⟩
        case measure => simp [intOf]; omega
      · have HD : Hid (¬ (48 ≤ (s[k].toNat : Int) ∧ (s[k].toNat : Int) ≤ 57)) := hd
        clear hd
        by_cases h45 : (s[k].toNat : Int) = 45
        · have HC : Hid (Gate.nameByte s[k] = true) := by simp [Gate.nameByte, Hid]; omega
          have h45' : ((s[k].toNat : Int) != 45) = false := by simp [h45]
          clear h45
          go_wp2_with (go_at_call 82; refine (isDigit_no _ _ HD.out).mono ?_; rintro e w' ⟨rfl, rfl⟩)
          go_round
          case rel => exact ⟨k + 1, by omega, by go_num, by rw [HS.out, HC.out]; rfl⟩
          case measure => simp [intOf]; omega
        · have h45' : ((s[k].toNat : Int) != 45) = true := by simp [h45]
          by_cases h97 : (s[k].toNat : Int) < 97
          · have HC : Hid (Gate.nameByte s[k] = false) := by have := HD.out; simp [Gate.nameByte, Hid]; omega
            clear h45
            go_wp2_with (go_at_call 82; refine (isDigit_no _ _ HD.out).mono ?_; rintro e w' ⟨rfl, rfl⟩)
            go_ret
            exact ⟨ret_bool (HN.out HC.out).symm, rfl⟩
          · by_cases h122 : 122 < (s[k].toNat : Int)
            · have HC : Hid (Gate.nameByte s[k] = false) := by have := HD.out; simp [Gate.nameByte, Hid]; omega
              clear h45
              go_wp2_with (go_at_call 82; refine (isDigit_no _ _ HD.out).mono ?_; rintro e w' ⟨rfl, rfl⟩)
              go_ret
              exact ⟨ret_bool (HN.out HC.out).symm, rfl⟩
            · have HC : Hid (Gate.nameByte s[k] = true) := by simp [Gate.nameByte, Hid]; omega
              clear h45
              go_wp2_with (go_at_call 82; refine (isDigit_no _ _ HD.out).mono ?_; rintro e w' ⟨rfl, rfl⟩)
              go_round
              case rel => exact ⟨k + 1, by omega, by go_num, by rw [HS.out, HC.out]; rfl⟩
              case measure => simp [intOf]; omega
    · have HA : Hid (Gate.allName s = true) := by unfold Gate.allName Hid; rw [← Gate.take_all s k (by omega)]; exact hall
      clear hall
      go_wp2
      go_ret
      exact ⟨ret_bool HA.out.symm, rfl⟩

set_option maxHeartbeats 400000 in
theorem isName_any (s : ByteArray) (w : World) (hs : s.size ≤ maxLen) :
    Calls Tryd.prog 54 #[.string s] w fun e w' => e = .returned (.bool (Gate.nameOk s)) ∧ w' = w := by
  have hs' := hs
  unfold maxLen at hs'
  by_cases h0 : s.size = 0
  · rw [Gate.empty_of_size s h0]
    go_enter Tryd.func54, Tryd.ntmps54
    go_wp2
    go_ret
    exact ⟨rfl, rfl⟩
  · have hne : s.toList.isEmpty = false := by rw [Gate.isEmpty_of_size]; simp [h0]
    by_cases h16 : s.size ≤ 16
    · have HF : Hid (Gate.nameOk s = Gate.allName s) := by
        simp only [Hid, Gate.nameOk]; rw [decide_eq_true (show 1 ≤ s.size by omega), decide_eq_true h16]; simp
      go_enter Tryd.func54, Tryd.ntmps54
      go_wp2_with (go_at_call 60; refine (isNameBytes_any _ _ hs).mono ?_; rintro e w' ⟨rfl, rfl⟩)
      go_ret
      exact ⟨ret_bool HF.out.symm, rfl⟩
    · go_enter Tryd.func54, Tryd.ntmps54
      go_wp2_with (go_at_call 60; refine (isNameBytes_any _ _ hs).mono ?_; rintro e w' ⟨rfl, rfl⟩)
      go_ret
      refine ⟨ret_bool ?_, rfl⟩
      simp only [Gate.nameOk]; rw [decide_eq_false h16]; simp

end Go.Proofs.YtimhinpekngceaaDoor

namespace Go.Proofs.YtimhinpekngceaaDoor
open Go.RowKit

set_option maxHeartbeats 400000 in
theorem isGiven_any (v : Int) (w : World) :
    Calls Tryd.prog 72 #[.int .i64 v] w fun e w' => e = .returned (.bool (Gate.verbOk v)) ∧ w' = w := by
  go_enter Tryd.func72, Tryd.ntmps72
  go_wp2
  all_goals
    go_ret
    refine ⟨ret_bool ?_, rfl⟩
    rw [Bool.eq_iff_iff]; simp [Gate.verbOk]; try omega

theorem Gate.verbAt_no {vs : List Int} {k : Nat} (h : k < vs.length) (hn : Gate.verbOk vs[k] = false) : Gate.verbAt vs k = false := by
  unfold Gate.verbAt; rw [Gate.getD_at vs k _ h, hn]; rfl
theorem Gate.verbAt_first {vs : List Int} (h : 0 < vs.length) (hn : Gate.verbOk vs[0] = true) : Gate.verbAt vs 0 = true := by
  unfold Gate.verbAt; rw [Gate.getD_at vs 0 _ h, hn]; rfl
theorem Gate.verbAt_more {vs : List Int} {k : Nat} (h : k + 1 < vs.length) (hn : Gate.verbOk vs[k + 1] = true) : Gate.verbAt vs (k + 1) = decide (vs[k] < vs[k + 1]) := by
  unfold Gate.verbAt; rw [Gate.getD_at vs (k + 1) _ h, Nat.add_sub_cancel, Gate.getD_at vs k _ (by omega), hn]; simp

set_option maxHeartbeats 1000000 in
theorem areVerbs_any (a : Option Addr) (cap : Nat) (vs : List Int) (w : World) (hw : IntsAt w a vs) :
    Calls Tryd.prog 59 #[.slice a vs.length cap] w fun e w' => e = .returned (.bool (Gate.verbsOk vs)) ∧ w' = w := by
  have hl := hw.len
  unfold maxLen at hl
  have HG : Hid (Gate.up (Gate.verbAt vs) vs.length = false → Gate.verbsOk vs = false) := fun h => by unfold Gate.verbsOk; rw [h, Bool.and_false]
  go_enter Tryd.func59, Tryd.ntmps59
  go_wp2_with fail
  go_loop [7] (fun i => ∃ k : Nat, k ≤ vs.length ∧ i = .int .i64 k ∧ Gate.up (Gate.verbAt vs) k = true) (fun i => vs.length - (intOf i).toNat)
  case atStart => exact ⟨0, Nat.zero_le _, rfl, rfl⟩
  case round =>
    obtain ⟨k, hk, rfl, hup⟩ := hrel
    by_cases hlt : k < vs.length
    · obtain ⟨b, off, rfl, hb, hck⟩ := hw.load (Below.refl _ _) k hlt
      have hltI : (k : Int) < (vs.length : Int) := by omega
      by_cases hn : Gate.verbOk vs[k] = true
      · by_cases hk0 : k = 0
        · have HF : Hid (Gate.up (Gate.verbAt vs) (k + 1) = true) := by subst hk0; unfold Hid; rw [Gate.up_succ, Gate.verbAt_first hlt hn]; rfl
          have hg : decide (0 < k) = false := by simp; omega
          have HN : Hid (Gate.verbOk vs[k] = true) := hn
          clear hn hup hk0 hw
          go_wp2_with (go_at_call 72; refine (as_bool HN.out (isGiven_any _ _)).mono ?_; rintro e w' ⟨rfl, rfl⟩)
          go_round
          case rel => exact ⟨k + 1, by omega, by go_num, HF.out⟩
          case measure => simp [intOf]; omega
        · obtain ⟨m, rfl⟩ : ∃ m, k = m + 1 := ⟨k - 1, by omega⟩
          obtain ⟨b', off', e', hb', hcm⟩ := hw.load (Below.refl _ _) m (by omega)
          simp only [Option.some.injEq, Addr.mk.injEq] at e'
          obtain ⟨rfl, rfl, _⟩ := e'
          have HU : Hid (Gate.up (Gate.verbAt vs) (m + 1 + 1) = decide (vs[m] < vs[m + 1])) := by unfold Hid; rw [Gate.up_succ, hup, Gate.verbAt_more hlt hn]; rfl
          have HNN : Hid (¬ vs[m] < vs[m + 1] → Gate.verbsOk vs = false) := fun h => HG.out (Gate.up_not hlt (by rw [Gate.verbAt_more hlt hn]; simpa using h))
          have HN : Hid (Gate.verbOk vs[m + 1] = true) := hn
          clear hn hup hk0 hw
          by_cases hls : vs[m] < vs[m + 1]
          · have hls' : decide (vs[m + 1] ≤ vs[m]) = false := by simp; omega
            have HLS : Hid (vs[m] < vs[m + 1]) := hls
            clear hls
            go_wp2_with (go_at_call 72; refine (as_bool HN.out (isGiven_any _ _)).mono ?_; rintro e w' ⟨rfl, rfl⟩)
            go_round
            case rel => exact ⟨m + 1 + 1, by omega, by go_num, by rw [HU.out]; simpa using HLS.out⟩
            case measure => simp [intOf]; omega
          · have hls' : vs[m + 1] ≤ vs[m] := by omega
            have HLS : Hid (¬ vs[m] < vs[m + 1]) := hls
            clear hls
            go_wp2_with (go_at_call 72; refine (as_bool HN.out (isGiven_any _ _)).mono ?_; rintro e w' ⟨rfl, rfl⟩)
            go_ret
            exact ⟨ret_bool (HNN.out HLS.out).symm, rfl⟩
      · have hn' : Gate.verbOk vs[k] = false := by simpa using hn
        have HF : Hid (Gate.verbsOk vs = false) := HG.out (Gate.up_not hlt (Gate.verbAt_no hlt hn'))
        have HN : Hid (Gate.verbOk vs[k] = false) := hn'
        clear hn hn' hup hw
        go_wp2_with (go_at_call 72; refine (as_bool HN.out (isGiven_any _ _)).mono ?_; rintro e w' ⟨rfl, rfl⟩)
        go_ret
        exact ⟨ret_bool HF.out.symm, rfl⟩
    · have HF : Hid (Gate.verbsOk vs = decide (0 < vs.length)) := by
        have e : k = vs.length := by omega
        subst e; unfold Hid Gate.verbsOk; rw [hup, Bool.and_true]
      clear hw hup
      go_wp2_with fail
      go_ret
      exact ⟨ret_bool (by rw [HF.out]), rfl⟩

set_option maxHeartbeats 1000000 in
theorem verbsOf_any (a : Option Addr) (cap : Nat) (vs : List Int) (w : World) (hw : IntsAt w a vs) (hv : Gate.verbsOk vs = true) :
    Calls Tryd.prog 63 #[.slice a vs.length cap] w fun e w' => e = .returned (.int .u8 (Gate.bitsOf (Gate.hasVerb vs))) ∧ w' = w := by
  have hl := hw.len
  unfold maxLen at hl
  have HV : Hid (∀ i (h : i < vs.length), 1 ≤ vs[i] ∧ vs[i] ≤ 5) := fun i h => Gate.verbsOk_at hv i h
  clear hv
  go_enter Tryd.func63, Tryd.ntmps63
  go_wp2_with fail
  go_loop [3, 8] (fun s i => ∃ k : Nat, k ≤ vs.length ∧ i = .int .i64 k ∧ s = .int .u8 (Gate.bitsOf (Gate.hasVerb (vs.take k)))) (fun _ i => vs.length - (intOf i).toNat)
  case atStart => exact ⟨0, Nat.zero_le _, rfl, rfl⟩
  case round =>
    obtain ⟨k, hk, rfl, rfl⟩ := hrel
    by_cases hlt : k < vs.length
    · obtain ⟨b, off, rfl, hb, hck⟩ := hw.load (Below.refl _ _) k hlt
      have hltI : (k : Int) < (vs.length : Int) := by omega
      obtain ⟨hv1, hv5⟩ := HV.out k hlt
      have hv0 : ¬ vs[k] < 0 := by omega
      have HS : Hid (Gate.bitsOf (Gate.hasVerb (vs.take (k + 1))) = Gate.orI (Gate.bitsOf (Gate.hasVerb (vs.take k))) (Gate.oneAt vs[k])) := by
        unfold Hid; rw [Gate.bits_or _ _ ⟨hv1, hv5⟩]; exact Gate.bits_congr fun v _ => Gate.hasVerb_snoc vs v k hlt
      clear hw
      go_wp2_with fail
      go_round
      case rel => exact ⟨k + 1, by omega, by go_num, by rw [HS.out]; rfl⟩
      case measure => simp [intOf]; omega
    · have HF : Hid (Gate.bitsOf (Gate.hasVerb (vs.take k)) = Gate.bitsOf (Gate.hasVerb vs)) := by unfold Hid; rw [List.take_of_length_le (by omega)]
      clear hw
      go_wp2_with fail
      go_ret
      exact ⟨ret_int HF.out, rfl⟩

set_option maxHeartbeats 400000 in
theorem has_any (f : Int → Bool) (v : Int) (w : World) :
    Calls Tryd.prog 46 #[.int .u8 (Gate.bitsOf f), .int .i64 v] w fun e w' => e = .returned (.bool (Gate.verbOk v && f v)) ∧ w' = w := by
  by_cases hv : Gate.verbOk v = true
  · have HV : Hid (Gate.verbOk v = true) := hv
    have hv' : 1 ≤ v ∧ v ≤ 5 := by simpa [Gate.verbOk] using hv
    have HB : Hid ((Gate.andI (Gate.bitsOf f) (Gate.oneAt v) != 0) = f v) := Gate.bits_and f v hv'
    obtain ⟨hv1, hv5⟩ := hv'
    have hv0 : ¬ v < 0 := by omega
    clear hv
    go_enter Tryd.func46, Tryd.ntmps46
    go_wp2_with (go_at_call 72; refine (as_bool HV.out (isGiven_any _ _)).mono ?_; rintro e w' ⟨rfl, rfl⟩)
    go_ret
    exact ⟨ret_bool (by rw [HV.out, Bool.true_and, ← HB.out]; rfl), rfl⟩
  · have HV : Hid (Gate.verbOk v = false) := by simpa [Hid] using hv
    clear hv
    go_enter Tryd.func46, Tryd.ntmps46
    go_wp2_with (go_at_call 72; refine (as_bool HV.out (isGiven_any _ _)).mono ?_; rintro e w' ⟨rfl, rfl⟩)
    go_ret
    exact ⟨ret_bool (by rw [HV.out]; rfl), rfl⟩

end Go.Proofs.YtimhinpekngceaaDoor
