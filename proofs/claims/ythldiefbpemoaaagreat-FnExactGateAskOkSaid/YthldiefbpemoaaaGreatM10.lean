import Derived.Test.YthldiefbpemoaaaGreatM01
import Derived.Test.YthldiefbpemoaaaGreatM02
namespace Go.Proofs.YthldiefbpemoaaaGreat
open Go.RowKit

set_option maxHeartbeats 400000 in
theorem l1Byte_any (c : UInt8) (w : World) :
    Calls Tryz.prog 64 #[.int .u8 c.toNat] w fun e w' => e = .returned (.bool (Gate.nameByte c)) ∧ w' = w := by
  go_enter Tryz.func64, Tryz.ntmps64
  go_wp2
  all_goals
    go_ret
    refine ⟨ret_bool ?_, rfl⟩
    rw [Bool.eq_iff_iff]; simp [Gate.nameByte]; try omega

end Go.Proofs.YthldiefbpemoaaaGreat

namespace Go.Proofs.YthldiefbpemoaaaGreat
open Go.RowKit

set_option maxHeartbeats 400000 in
theorem l1NameOk_any (s : ByteArray) (w : World) (hs : s.size ≤ maxLen) :
    Calls Tryz.prog 37 #[.string s] w fun e w' => e = .returned (.bool (Gate.nameOk s)) ∧ w' = w := by
  unfold maxLen at hs
  by_cases hb : 1 ≤ s.size ∧ s.size ≤ 16
  · obtain ⟨hb1, hb2⟩ := hb
    go_enter Tryz.func37, Tryz.ntmps37
    go_wp2_with (go_at_call 38; refine (l1In_yes _ _ _ _ (by omega) (by omega)).mono ?_; rintro e w' ⟨rfl, rfl⟩)
    go_loop [3] (fun i => ∃ k : Nat, k ≤ s.size ∧ i = .int .i64 k ∧ (s.data.toList.take k).all Gate.nameByte = true) (fun i => s.size - (intOf i).toNat)
    case atStart => exact ⟨0, Nat.zero_le _, rfl, rfl⟩
    case round =>
      obtain ⟨k, hk, rfl, hall⟩ := hrel
      by_cases hlt : k < s.size
      · have HS : Hid ((s.data.toList.take (k + 1)).all Gate.nameByte = (true && Gate.nameByte s[k])) := by rw [Gate.all_snoc _ s k hlt, hall]; rfl
        have HN := fun h => Gate.all_not Gate.nameByte s k hlt h
        have HN' : Hid (Gate.nameByte s[k] = false → Gate.allName s = false) := HN
        clear HN hall
        by_cases hc : Gate.nameByte s[k] = true
        · go_wp2_with (go_at_call 64; refine (l1Byte_any _ _).mono ?_; rintro e w' ⟨rfl, rfl⟩)
          go_round
          case rel => exact ⟨k + 1, by omega, by go_num, by rw [HS.out, hc]; rfl⟩
          case measure => simp [intOf]; omega
        · have hc' : Gate.nameByte s[k] = false := by simpa using hc
          clear hc
          go_wp2_with (go_at_call 64; refine (l1Byte_any _ _).mono ?_; rintro e w' ⟨rfl, rfl⟩)
          go_ret
          refine ⟨ret_bool ?_, rfl⟩
          simp [Gate.nameOk, HN'.out hc']
      · have HA : Hid (Gate.allName s = true) := by unfold Gate.allName Hid; rw [← Gate.take_all s k (by omega)]; exact hall
        clear hall
        go_wp2
        go_ret
        refine ⟨ret_bool ?_, rfl⟩
        simp only [Gate.nameOk, HA.out]; simp; omega
  · go_enter Tryz.func37, Tryz.ntmps37
    go_wp2_with (go_at_call 38; refine (l1In_no _ _ _ _ (by omega)).mono ?_; rintro e w' ⟨rfl, rfl⟩)
    go_ret
    refine ⟨ret_bool ?_, rfl⟩
    simp [Gate.nameOk]; omega

set_option maxHeartbeats 400000 in
theorem isNameBytes_any (s : ByteArray) (w : World) (hs : s.size ≤ maxLen) :
    Calls Tryz.prog 75 #[.string s] w fun e w' => e = .returned (.bool (Gate.allName s)) ∧ w' = w := by
  unfold maxLen at hs
  go_enter Tryz.func75, Tryz.ntmps75
  go_wp2
  go_loop [7] (fun i => ∃ k : Nat, k ≤ s.size ∧ i = .int .i64 k ∧ (s.data.toList.take k).all Gate.nameByte = true) (fun i => s.size - (intOf i).toNat)
  case atStart => exact ⟨0, Nat.zero_le _, rfl, rfl⟩
  case round =>
    obtain ⟨k, hk, rfl, hall⟩ := hrel
    by_cases hlt : k < s.size
    · have HS : Hid ((s.data.toList.take (k + 1)).all Gate.nameByte = (true && Gate.nameByte s[k])) := by rw [Gate.all_snoc _ s k hlt, hall]; rfl
      have HN : Hid (Gate.nameByte s[k] = false → Gate.allName s = false) := fun h => Gate.all_not Gate.nameByte s k hlt h
      clear hall
      by_cases hd : 48 ≤ (s[k].toNat : Int) ∧ (s[k].toNat : Int) ≤ 57
      · have HC : Hid (Gate.nameByte s[k] = true) := by simp [Gate.nameByte, Hid]; omega
        obtain ⟨hd1, hd2⟩ := hd
        go_wp2_with (go_at_call 100; refine (isDigit_yes _ _ hd1 hd2).mono ?_; rintro e w' ⟨rfl, rfl⟩)
        go_round
        case rel => exact ⟨k + 1, by omega, by go_num, by rw [HS.out, HC.out]; rfl⟩
        case measure => simp [intOf]; omega
      · have HD : Hid (¬ (48 ≤ (s[k].toNat : Int) ∧ (s[k].toNat : Int) ≤ 57)) := hd
        clear hd
        by_cases h45 : (s[k].toNat : Int) = 45
        · have HC : Hid (Gate.nameByte s[k] = true) := by simp [Gate.nameByte, Hid]; omega
          have h45' : ((s[k].toNat : Int) != 45) = false := by simp [h45]
          clear h45
          go_wp2_with (go_at_call 100; refine (isDigit_no _ _ HD.out).mono ?_; rintro e w' ⟨rfl, rfl⟩)
          go_round
          case rel => exact ⟨k + 1, by omega, by go_num, by rw [HS.out, HC.out]; rfl⟩
          case measure => simp [intOf]; omega
        · have h45' : ((s[k].toNat : Int) != 45) = true := by simp [h45]
          by_cases h97 : (s[k].toNat : Int) < 97
          · have HC : Hid (Gate.nameByte s[k] = false) := by have := HD.out; simp [Gate.nameByte, Hid]; omega
            clear h45
            go_wp2_with (go_at_call 100; refine (isDigit_no _ _ HD.out).mono ?_; rintro e w' ⟨rfl, rfl⟩)
            go_ret
            exact ⟨ret_bool (HN.out HC.out).symm, rfl⟩
          · by_cases h122 : 122 < (s[k].toNat : Int)
            · have HC : Hid (Gate.nameByte s[k] = false) := by have := HD.out; simp [Gate.nameByte, Hid]; omega
              clear h45
              go_wp2_with (go_at_call 100; refine (isDigit_no _ _ HD.out).mono ?_; rintro e w' ⟨rfl, rfl⟩)
              go_ret
              exact ⟨ret_bool (HN.out HC.out).symm, rfl⟩
            · have HC : Hid (Gate.nameByte s[k] = true) := by simp [Gate.nameByte, Hid]; omega
              clear h45
              go_wp2_with (go_at_call 100; refine (isDigit_no _ _ HD.out).mono ?_; rintro e w' ⟨rfl, rfl⟩)
              go_round
              case rel => exact ⟨k + 1, by omega, by go_num, by rw [HS.out, HC.out]; rfl⟩
              case measure => simp [intOf]; omega
    · have HA : Hid (Gate.allName s = true) := by unfold Gate.allName Hid; rw [← Gate.take_all s k (by omega)]; exact hall
      clear hall
      go_wp2
      go_ret
      exact ⟨ret_bool HA.out.symm, rfl⟩

set_option maxHeartbeats 400000 in
theorem isName_any (s : ByteArray) (w : World) (hs : s.size ≤ maxLen) :
    Calls Tryz.prog 51 #[.string s] w fun e w' => e = .returned (.bool (Gate.nameOk s)) ∧ w' = w := by
  have hs' := hs
  unfold maxLen at hs'
  by_cases h0 : s.size = 0
  · rw [Gate.empty_of_size s h0]
    go_enter Tryz.func51, Tryz.ntmps51
    go_wp2
    go_ret
    exact ⟨rfl, rfl⟩
  · have hne : s.toList.isEmpty = false := by rw [Gate.isEmpty_of_size]; simp [h0]
    by_cases h16 : s.size ≤ 16
    · have HF : Hid (Gate.nameOk s = Gate.allName s) := by
        simp only [Hid, Gate.nameOk]; rw [decide_eq_true (show 1 ≤ s.size by omega), decide_eq_true h16]; simp
      go_enter Tryz.func51, Tryz.ntmps51
      go_wp2_with (go_at_call 75; refine (isNameBytes_any _ _ hs).mono ?_; rintro e w' ⟨rfl, rfl⟩)
      go_ret
      exact ⟨ret_bool HF.out.symm, rfl⟩
    · go_enter Tryz.func51, Tryz.ntmps51
      go_wp2_with (go_at_call 75; refine (isNameBytes_any _ _ hs).mono ?_; rintro e w' ⟨rfl, rfl⟩)
      go_ret
      refine ⟨ret_bool ?_, rfl⟩
      simp only [Gate.nameOk]; rw [decide_eq_false h16]; simp

end Go.Proofs.YthldiefbpemoaaaGreat

namespace Go.Proofs.YthldiefbpemoaaaGreat
open Go.RowKit

set_option maxHeartbeats 400000 in
theorem l1Has_any (a : Option Addr) (cap : Nat) (ws : List ByteArray) (v : ByteArray) (w : World) (hw : StrsAt w a ws) :
    Calls Tryz.prog 82 #[.slice a ws.length cap, .string v] w fun e w' => e = .returned (.bool (Gate.has ws v)) ∧ w' = w := by
  have hl := hw.len
  unfold maxLen at hl
  by_cases hne : ws = []
  · subst hne
    go_enter Tryz.func82, Tryz.ntmps82
    go_wp2
    go_loop [5] (fun i => i = .int .i64 0) (fun i => 0)
    case atStart => rfl
    case round =>
      subst hrel
      go_wp2
      go_ret
      exact ⟨rfl, rfl⟩
  · obtain ⟨b, off, rfl, hb, hc⟩ := hw.cells hne
    clear hw
    have HL : Hid (0 < ws.length) := List.length_pos_iff.2 hne
    clear hne
    go_enter Tryz.func82, Tryz.ntmps82
    go_wp2
    go_loop [5] (fun i => ∃ k : Nat, k ≤ ws.length ∧ i = .int .i64 k ∧ Gate.has (ws.take k) v = false) (fun i => ws.length - (intOf i).toNat)
    case atStart => exact ⟨0, Nat.zero_le _, rfl, rfl⟩
    case round =>
      obtain ⟨k, hk, rfl, hall⟩ := hrel
      by_cases hlt : k < ws.length
      · have hck := hc k hlt
        clear hc
        have HS : Hid (Gate.has (ws.take (k + 1)) v = (false || decide (ws[k] = v))) := by rw [Gate.has_snoc ws v k hlt, hall]; rfl
        have HN : Hid (ws[k] = v → Gate.has ws v = true) := fun h => Gate.has_at ws v k hlt h
        clear hall
        by_cases he : ws[k] = v
        · have hbe : (ws[k].toList == v.toList) = true := by rw [Gate.beq_toList]; simpa using he
          have HE : Hid (ws[k] = v) := he
          clear he
          go_wp2
          go_ret
          exact ⟨ret_bool (HN.out HE.out).symm, rfl⟩
        · have hbe : (ws[k].toList == v.toList) = false := by rw [Gate.beq_toList]; simpa using he
          have HE : Hid (¬ ws[k] = v) := he
          clear he
          go_wp2
          go_round
          case rel => exact ⟨k + 1, by omega, by go_num, by rw [HS.out, decide_eq_false HE.out]; rfl⟩
          case measure => simp [intOf]; omega
      · have HA : Hid (Gate.has ws v = false) := by rw [← Gate.has_all ws v k (by omega)]; exact hall
        clear hall hc
        go_wp2
        go_ret
        exact ⟨ret_bool HA.out.symm, rfl⟩

end Go.Proofs.YthldiefbpemoaaaGreat
