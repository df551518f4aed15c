import Derived.Test.YtoadlpdnpijnbaaDoorM09
namespace Go.Proofs.YtoadlpdnpijnbaaDoor
open Go.RowKit

set_option maxHeartbeats 400000 in
theorem l1Byte_any (c : UInt8) (w : World) :
    Calls Tryd.prog 78 #[.int .u8 c.toNat] w fun e w' => e = .returned (.bool (Gate.nameByte c)) ∧ w' = w := by
  go_enter Tryd.func78, Tryd.ntmps78
  go_wp2
  all_goals
    go_ret
    refine ⟨ret_bool ?_, rfl⟩
    rw [Bool.eq_iff_iff]; simp [Gate.nameByte]; try omega

end Go.Proofs.YtoadlpdnpijnbaaDoor

namespace Go.Proofs.YtoadlpdnpijnbaaDoor
open Go.RowKit

set_option maxHeartbeats 400000 in
theorem l1NameOk_any (s : ByteArray) (w : World) (hs : s.size ≤ maxLen) :
    Calls Tryd.prog 74 #[.string s] w fun e w' => e = .returned (.bool (Gate.nameOk s)) ∧ w' = w := by
  unfold maxLen at hs
  by_cases hb : 1 ≤ s.size ∧ s.size ≤ 16
  · obtain ⟨hb1, hb2⟩ := hb
    go_enter Tryd.func74, Tryd.ntmps74
    go_wp2_with (go_at_call 77; refine (l1In_yes _ _ _ _ (by omega) (by omega)).mono ?_; rintro e w' ⟨rfl, rfl⟩)
    go_loop [3] (fun i => ∃ k : Nat, k ≤ s.size ∧ i = .int .i64 k ∧ (s.data.toList.take k).all Gate.nameByte = true) (fun i => s.size - (intOf i).toNat)
    case atStart => exact ⟨0, Nat.zero_le _, rfl, rfl⟩
    case round =>
      obtain ⟨k, hk, rfl, hall⟩ := hrel
      by_cases hlt : k < s.size
      · have HS : Hid ((s.data.toList.take (k + 1)).all Gate.nameByte = (true && Gate.nameByte s[k])) := by rw [Gate.all_snoc _ s k hlt, hall]; rfl
        have HN := fun h => Gate.all_not Gate.nameByte s k hlt h
        have HN' : Hid (Gate.nameByte s[k] = false → Gate.allName s = false) := HN
        clear HN hall
        by_cases hc : Gate.nameByte s[k] = true
        · go_wp2_with (go_at_call 78; refine (l1Byte_any _ _).mono ?_; rintro e w' ⟨rfl, rfl⟩)
          go_round
          case rel => exact ⟨k + 1, by omega, by go_num, by rw [HS.out, hc]; rfl⟩
          case measure => simp [intOf]; omega
        · have hc' : Gate.nameByte s[k] = false := by simpa using hc
          clear hc
          go_wp2_with (go_at_call 78; refine (l1Byte_any _ _).mono ?_; rintro e w' ⟨rfl, rfl⟩)
          go_ret
          refine ⟨ret_bool ?_, rfl⟩
          simp [Gate.nameOk, HN'.out hc']
      · have HA : Hid (Gate.allName s = true) := by unfold Gate.allName Hid; rw [← Gate.take_all s k (by omega)]; exact hall
        clear hall
        go_wp2
        go_ret
        refine ⟨ret_bool ?_, rfl⟩
        simp only [Gate.nameOk, HA.out]; simp; omega
  · go_enter Tryd.func74, Tryd.ntmps74
    go_wp2_with (go_at_call 77; refine (l1In_no _ _ _ _ (by omega)).mono ?_; rintro e w' ⟨rfl, rfl⟩)
    go_ret
    refine ⟨ret_bool ?_, rfl⟩
    simp [Gate.nameOk]; omega

set_option maxHeartbeats 400000 in
theorem isNameBytes_any (s : ByteArray) (w : World) (hs : s.size ≤ maxLen) :
    Calls Tryd.prog 60 #[.string s] w fun e w' => e = .returned (.bool (Gate.allName s)) ∧ w' = w := by
  unfold maxLen at hs
  go_enter Tryd.func60, Tryd.ntmps60
  go_wp2
  go_loop [7] (fun i => ∃ k : Nat, k ≤ s.size ∧ i = .int .i64 k ∧ (s.data.toList.take k).all Gate.nameByte = true) (fun i => s.size - (intOf i).toNat)
  case atStart => exact ⟨0, Nat.zero_le _, rfl, rfl⟩
  case round =>
    obtain ⟨k, hk, rfl, hall⟩ := hrel
    by_cases hlt : k < s.size
    · have HS : Hid ((s.data.toList.take (k + 1)).all Gate.nameByte = (true && Gate.nameByte s[k])) := by rw [Gate.all_snoc _ s k hlt, hall]; rfl
      have HN : Hid (Gate.nameByte s[k] = false → Gate.allName s = false) := fun h => Gate.all_not Gate.nameByte s k hlt h
      clear hall
      by_cases hd : 48 ≤ (s[k].toNat : Int) ∧ (s[k].toNat : Int) ≤ 57
      · have HC : Hid (Gate.nameByte s[k] = true) := by simp [Gate.nameByte, Hid]; omega
        obtain ⟨hd1, hd2⟩ := hd
        go_wp2_with (go_at_call 82; refine (isDigit_yes _ _ hd1 hd2).mono ?_; rintro e w' ⟨rfl, rfl⟩)
        go_round
        case rel => exact ⟨k + 1, by omega, by go_num, by rw [HS.out, HC.out]; rfl⟩
        case measure => simp [intOf]; omega
      · have HD : Hid (¬ (48 ≤ (s[k].toNat : Int) ∧ (s[k].toNat : Int) ≤ 57)) := hd
        clear hd
        by_cases h45 : (s[k].toNat : Int) = 45
        · have HC : Hid (Gate.nameByte s[k] = true) := by simp [Gate.nameByte, Hid]; omega
          have h45' : ((s[k].toNat : Int) != 45) = false := by simp [h45]
          clear h45
          go_wp2_with (go_at_call 82; refine (isDigit_no _ _ HD.out).mono ?_; rintro e w' ⟨rfl, rfl⟩)
          go_round
          case rel => exact ⟨k + 1, by omega, by go_num, by rw [HS.out, HC.out]; rfl⟩
          case measure => simp [intOf]; omega
        · have h45' : ((s[k].toNat : Int) != 45) = true := by simp [h45]
          by_cases h97 : (s[k].toNat : Int) < 97
          · have HC : Hid (Gate.nameByte s[k] = false) := by have := HD.out; simp [Gate.nameByte, Hid]; omega
            clear h45
            go_wp2_with (go_at_call 82; refine (isDigit_no _ _ HD.out).mono ?_; rintro e w' ⟨rfl, rfl⟩)
            go_ret
            exact ⟨ret_bool (HN.out HC.out).symm, rfl⟩
          · by_cases h122 : 122 < (s[k].toNat : Int)
            · have HC : Hid (Gate.nameByte s[k] = false) := by have := HD.out; simp [Gate.nameByte, Hid]; omega
              clear h45
              go_wp2_with (go_at_call 82; refine (isDigit_no _ _ HD.out).mono ?_; rintro e w' ⟨rfl, rfl⟩)
              go_ret
              exact ⟨ret_bool (HN.out HC.out).symm, rfl⟩
            · have HC : Hid (Gate.nameByte s[k] = true) := by simp [Gate.nameByte, Hid]; omega
              clear h45
              go_wp2_with (go_at_call 82; refine (isDigit_no _ _ HD.out).mono ?_; rintro e w' ⟨rfl, rfl⟩)
              go_round
              case rel => exact ⟨k + 1, by omega, by go_num, by rw [HS.out, HC.out]; rfl⟩
              case measure => simp [intOf]; omega
    · have HA : Hid (Gate.allName s = true) := by unfold Gate.allName Hid; rw [← Gate.take_all s k (by omega)]; exact hall
      clear hall
      go_wp2
      go_ret
      exact ⟨ret_bool HA.out.symm, rfl⟩

set_option maxHeartbeats 400000 in
theorem isName_any (s : ByteArray) (w : World) (hs : s.size ≤ maxLen) :
    Calls Tryd.prog 54 #[.string s] w fun e w' => e = .returned (.bool (Gate.nameOk s)) ∧ w' = w := by
  have hs' := hs
  unfold maxLen at hs'
  by_cases h0 : s.size = 0
  · rw [Gate.empty_of_size s h0]
    go_enter Tryd.func54, Tryd.ntmps54
    go_wp2
    go_ret
    exact ⟨rfl, rfl⟩
  · have hne : s.toList.isEmpty = false := by rw [Gate.isEmpty_of_size]; simp [h0]
    by_cases h16 : s.size ≤ 16
    · have HF : Hid (Gate.nameOk s = Gate.allName s) := by
        simp only [Hid, Gate.nameOk]; rw [decide_eq_true (show 1 ≤ s.size by omega), decide_eq_true h16]; simp
      go_enter Tryd.func54, Tryd.ntmps54
      go_wp2_with (go_at_call 60; refine (isNameBytes_any _ _ hs).mono ?_; rintro e w' ⟨rfl, rfl⟩)
      go_ret
      exact ⟨ret_bool HF.out.symm, rfl⟩
    · go_enter Tryd.func54, Tryd.ntmps54
      go_wp2_with (go_at_call 60; refine (isNameBytes_any _ _ hs).mono ?_; rintro e w' ⟨rfl, rfl⟩)
      go_ret
      refine ⟨ret_bool ?_, rfl⟩
      simp only [Gate.nameOk]; rw [decide_eq_false h16]; simp

end Go.Proofs.YtoadlpdnpijnbaaDoor
