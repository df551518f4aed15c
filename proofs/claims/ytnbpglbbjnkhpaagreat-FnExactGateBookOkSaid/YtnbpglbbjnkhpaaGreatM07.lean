import Derived.Test.YtnbpglbbjnkhpaaGreatM02
import Derived.Test.YtnbpglbbjnkhpaaGreatM01
import Derived.Test.YtnbpglbbjnkhpaaGreatM03
namespace Go.Proofs.YtnbpglbbjnkhpaaGreat
open Go.RowKit
set_option maxHeartbeats 400000 in
theorem jH (c : UInt8) (w : World) :
    Calls Tryz.prog 97 #[.int .u8 c.toNat] w fun e w' => e = .returned (.bool (Gate.zJ c)) /\ w' = w := by
  go_enter Tryz.func97, Tryz.ntmps97
  go_wp2
  all_goals
    go_ret
    refine ⟨ze ?_, rfl⟩
    rw [Bool.eq_iff_iff]; simp [Gate.zJ]; try omega
end Go.Proofs.YtnbpglbbjnkhpaaGreat

namespace Go.Proofs.YtnbpglbbjnkhpaaGreat
open Go.RowKit
set_option maxHeartbeats 400000 in
theorem zh (s : ByteArray) (w : World) (hs : s.size <= maxLen) :
    Calls Tryz.prog 56 #[.string s] w fun e w' => e = .returned (.bool (Gate.zx s)) /\ w' = w := by
  unfold maxLen at hs
  by_cases hb : 1 <= s.size /\ s.size <= 16
  · obtain ⟨hb1, hb2⟩ := hb
    go_enter Tryz.func56, Tryz.ntmps56
    go_wp2_with (go_at_call 20; refine (zaH _ _ _ _ (by omega) (by omega)).mono ?_; rintro e w' ⟨rfl, rfl⟩)
    go_loop [3] (fun i => ∃ k : Nat, k <= s.size /\ i = .int .i64 k /\ (s.data.toList.take k).all Gate.zJ = true) (fun i => s.size - (intOf i).toNat)
    case atStart => exact ⟨0, Nat.zero_le _, rfl, rfl⟩
    case round =>
      obtain ⟨k, hk, rfl, hall⟩ := hrel
      by_cases hlt : k < s.size
      · have HS : Hid ((s.data.toList.take (k + 1)).all Gate.zJ = (true && Gate.zJ s[k])) := by rw [Gate.zaq _ s k hlt, hall]; rfl
        have HN := fun h => Gate.zbp Gate.zJ s k hlt h
        have HN' : Hid (Gate.zJ s[k] = false -> Gate.yT s = false) := HN
        clear HN hall
        by_cases hc : Gate.zJ s[k] = true
        · go_wp2_with (go_at_call 97; refine (jH _ _).mono ?_; rintro e w' ⟨rfl, rfl⟩)
          go_round
          case rel => exact ⟨k + 1, by omega, by go_num, by rw [HS.out, hc]; rfl⟩
          case measure => simp [intOf]; omega
        · have hc' : Gate.zJ s[k] = false := by simpa using hc
          clear hc
          go_wp2_with (go_at_call 97; refine (jH _ _).mono ?_; rintro e w' ⟨rfl, rfl⟩)
          go_ret
          refine ⟨ze ?_, rfl⟩
          simp [Gate.zx, HN'.out hc']
      · have HA : Hid (Gate.yT s = true) := by unfold Gate.yT Hid; rw [<- Gate.j6 s k (by omega)]; exact hall
        clear hall
        go_wp2
        go_ret
        refine ⟨ze ?_, rfl⟩
        simp only [Gate.zx, HA.out]; simp; omega
  · go_enter Tryz.func56, Tryz.ntmps56
    go_wp2_with (go_at_call 20; refine (zcg _ _ _ _ (by omega)).mono ?_; rintro e w' ⟨rfl, rfl⟩)
    go_ret
    refine ⟨ze ?_, rfl⟩
    simp [Gate.zx]; omega
set_option maxHeartbeats 400000 in
theorem jF (s : ByteArray) (w : World) (hs : s.size <= maxLen) :
    Calls Tryz.prog 158 #[.string s] w fun e w' => e = .returned (.bool (Gate.yT s)) /\ w' = w := by
  unfold maxLen at hs
  go_enter Tryz.func158, Tryz.ntmps158
  go_wp2
  go_loop [7] (fun i => ∃ k : Nat, k <= s.size /\ i = .int .i64 k /\ (s.data.toList.take k).all Gate.zJ = true) (fun i => s.size - (intOf i).toNat)
  case atStart => exact ⟨0, Nat.zero_le _, rfl, rfl⟩
  case round =>
    obtain ⟨k, hk, rfl, hall⟩ := hrel
    by_cases hlt : k < s.size
    · have HS : Hid ((s.data.toList.take (k + 1)).all Gate.zJ = (true && Gate.zJ s[k])) := by rw [Gate.zaq _ s k hlt, hall]; rfl
      have HN : Hid (Gate.zJ s[k] = false -> Gate.yT s = false) := fun h => Gate.zbp Gate.zJ s k hlt h
      clear hall
      by_cases hd : 48 <= (s[k].toNat : Int) /\ (s[k].toNat : Int) <= 57
      · have HC : Hid (Gate.zJ s[k] = true) := by simp [Gate.zJ, Hid]; omega
        obtain ⟨hd1, hd2⟩ := hd
        go_wp2_with (go_at_call 180; refine (zgk _ _ hd1 hd2).mono ?_; rintro e w' ⟨rfl, rfl⟩)
        go_round
        case rel => exact ⟨k + 1, by omega, by go_num, by rw [HS.out, HC.out]; rfl⟩
        case measure => simp [intOf]; omega
      · have HD : Hid (¬ (48 <= (s[k].toNat : Int) /\ (s[k].toNat : Int) <= 57)) := hd
        clear hd
        by_cases h45 : (s[k].toNat : Int) = 45
        · have HC : Hid (Gate.zJ s[k] = true) := by simp [Gate.zJ, Hid]; omega
          have h45' : ((s[k].toNat : Int) != 45) = false := by simp [h45]
          clear h45
          go_wp2_with (go_at_call 180; refine (zb5 _ _ HD.out).mono ?_; rintro e w' ⟨rfl, rfl⟩)
          go_round
          case rel => exact ⟨k + 1, by omega, by go_num, by rw [HS.out, HC.out]; rfl⟩
          case measure => simp [intOf]; omega
        · have h45' : ((s[k].toNat : Int) != 45) = true := by simp [h45]
          by_cases h97 : (s[k].toNat : Int) < 97
          · have HC : Hid (Gate.zJ s[k] = false) := by have := HD.out; simp [Gate.zJ, Hid]; omega
            clear h45
            go_wp2_with (go_at_call 180; refine (zb5 _ _ HD.out).mono ?_; rintro e w' ⟨rfl, rfl⟩)
            go_ret
            exact ⟨ze (HN.out HC.out).symm, rfl⟩
          · by_cases h122 : 122 < (s[k].toNat : Int)
            · have HC : Hid (Gate.zJ s[k] = false) := by have := HD.out; simp [Gate.zJ, Hid]; omega
              clear h45
              go_wp2_with (go_at_call 180; refine (zb5 _ _ HD.out).mono ?_; rintro e w' ⟨rfl, rfl⟩)
              go_ret
              exact ⟨ze (HN.out HC.out).symm, rfl⟩
            · have HC : Hid (Gate.zJ s[k] = true) := by simp [Gate.zJ, Hid]; omega
              clear h45
              go_wp2_with (go_at_call 180; refine (zb5 _ _ HD.out).mono ?_; rintro e w' ⟨rfl, rfl⟩)
              go_round
              case rel => exact ⟨k + 1, by omega, by go_num, by rw [HS.out, HC.out]; rfl⟩
              case measure => simp [intOf]; omega
    · have HA : Hid (Gate.yT s = true) := by unfold Gate.yT Hid; rw [<- Gate.j6 s k (by omega)]; exact hall
      clear hall
      go_wp2
      go_ret
      exact ⟨ze HA.out.symm, rfl⟩
set_option maxHeartbeats 400000 in
theorem zF (s : ByteArray) (w : World) (hs : s.size <= maxLen) :
    Calls Tryz.prog 108 #[.string s] w fun e w' => e = .returned (.bool (Gate.zx s)) /\ w' = w := by
  have hs' := hs
  unfold maxLen at hs'
  by_cases h0 : s.size = 0
  · rw [Gate.zcu s h0]
    go_enter Tryz.func108, Tryz.ntmps108
    go_wp2
    go_ret
    exact ⟨rfl, rfl⟩
  · have hne : s.toList.isEmpty = false := by rw [Gate.zq]; simp [h0]
    by_cases h16 : s.size <= 16
    · have HF : Hid (Gate.zx s = Gate.yT s) := by
        simp only [Hid, Gate.zx]; rw [decide_eq_true (show 1 <= s.size by omega), decide_eq_true h16]; simp
      go_enter Tryz.func108, Tryz.ntmps108
      go_wp2_with (go_at_call 158; refine (jF _ _ hs).mono ?_; rintro e w' ⟨rfl, rfl⟩)
      go_ret
      exact ⟨ze HF.out.symm, rfl⟩
    · go_enter Tryz.func108, Tryz.ntmps108
      go_wp2_with (go_at_call 158; refine (jF _ _ hs).mono ?_; rintro e w' ⟨rfl, rfl⟩)
      go_ret
      refine ⟨ze ?_, rfl⟩
      simp only [Gate.zx]; rw [decide_eq_false h16]; simp
end Go.Proofs.YtnbpglbbjnkhpaaGreat

namespace Go.Proofs.YtnbpglbbjnkhpaaGreat
open Go.RowKit
set_option maxHeartbeats 400000 in
theorem zbS (a : Option Addr) (cap : Nat) (ws : List ByteArray) (v : ByteArray) (w : World) (hw : zD w a ws) :
    Calls Tryz.prog 139 #[.slice a ws.length cap, .string v] w fun e w' => e = .returned (.bool (Gate.has ws v)) /\ w' = w := by
  have hl := hw.len
  unfold maxLen at hl
  by_cases hne : ws = []
  · subst hne
    go_enter Tryz.func139, Tryz.ntmps139
    go_wp2
    go_loop [5] (fun i => i = .int .i64 0) (fun i => 0)
    case atStart => rfl
    case round =>
      subst hrel
      go_wp2
      go_ret
      exact ⟨rfl, rfl⟩
  · obtain ⟨b, off, rfl, hb, hc⟩ := hw.cells hne
    clear hw
    have HL : Hid (0 < ws.length) := List.length_pos_iff.2 hne
    clear hne
    go_enter Tryz.func139, Tryz.ntmps139
    go_wp2
    go_loop [5] (fun i => ∃ k : Nat, k <= ws.length /\ i = .int .i64 k /\ Gate.has (ws.take k) v = false) (fun i => ws.length - (intOf i).toNat)
    case atStart => exact ⟨0, Nat.zero_le _, rfl, rfl⟩
    case round =>
      obtain ⟨k, hk, rfl, hall⟩ := hrel
      by_cases hlt : k < ws.length
      · have hck := hc k hlt
        clear hc
        have HS : Hid (Gate.has (ws.take (k + 1)) v = (false || decide (ws[k] = v))) := by rw [Gate.zj6 ws v k hlt, hall]; rfl
        have HN : Hid (ws[k] = v -> Gate.has ws v = true) := fun h => Gate.znu ws v k hlt h
        clear hall
        by_cases he : ws[k] = v
        · have hbe : (ws[k].toList == v.toList) = true := by rw [Gate.beq_toList]; simpa using he
          have HE : Hid (ws[k] = v) := he
          clear he
          go_wp2
          go_ret
          exact ⟨ze (HN.out HE.out).symm, rfl⟩
        · have hbe : (ws[k].toList == v.toList) = false := by rw [Gate.beq_toList]; simpa using he
          have HE : Hid (¬ ws[k] = v) := he
          clear he
          go_wp2
          go_round
          case rel => exact ⟨k + 1, by omega, by go_num, by rw [HS.out, decide_eq_false HE.out]; rfl⟩
          case measure => simp [intOf]; omega
      · have HA : Hid (Gate.has ws v = false) := by rw [<- Gate.zmc ws v k (by omega)]; exact hall
        clear hall hc
        go_wp2
        go_ret
        exact ⟨ze HA.out.symm, rfl⟩
end Go.Proofs.YtnbpglbbjnkhpaaGreat

namespace Go.Proofs.YtnbpglbbjnkhpaaGreat
open Go.RowKit
set_option maxHeartbeats 1000000 in
theorem zhU (a : Option Addr) (cap : Nat) (ws : List ByteArray) (w : World) (hw : zD w a ws) :
    Calls Tryz.prog 196 #[.slice a ws.length cap] w fun e w' => e = .returned (.bool (Gate.asc ws)) /\ w' = w := by
  have hl := hw.len
  unfold maxLen at hl
  go_enter Tryz.func196, Tryz.ntmps196
  go_wp2
  go_loop [7] (fun i => ∃ k : Nat, k <= ws.length /\ i = .int .i64 k /\ Gate.up (Gate.zcA ws) k = true) (fun i => ws.length - (intOf i).toNat)
  case atStart => exact ⟨0, Nat.zero_le _, rfl, rfl⟩
  case round =>
    obtain ⟨k, hk, rfl, hup⟩ := hrel
    by_cases hlt : k < ws.length
    · obtain ⟨b, off, rfl, hb, hc⟩ := hw.cells (by rintro rfl; simp at hlt)
      have hsm := hw.small _ (List.getElem_mem hlt)
      clear hw
      have hck := hc k hlt
      by_cases hn : Gate.zx ws[k] = true
      · by_cases hk0 : k = 0
        · have HF : Hid (Gate.up (Gate.zcA ws) (k + 1) = true) := by subst hk0; unfold Hid; rw [Gate.qR, Gate.zgd hlt hn]; rfl
          have hg : decide (0 < k) = false := by simp; omega
          have HN : Hid (Gate.zx ws[k] = true) := hn
          clear hn hc hup hk0
          go_wp2_with (go_at_call 108; refine (zf HN.out (zF _ _ hsm)).mono ?_; rintro e w' ⟨rfl, rfl⟩)
          go_round
          case rel => exact ⟨k + 1, by omega, by go_num, HF.out⟩
          case measure => simp [intOf]; omega
        · obtain ⟨m, rfl⟩ : ∃ m, k = m + 1 := ⟨k - 1, by omega⟩
          have hcm := hc m (by omega)
          have HU : Hid (Gate.up (Gate.zcA ws) (m + 1 + 1) = Gate.less ws[m] ws[m + 1]) := by unfold Hid; rw [Gate.qR, hup, Gate.zc0 hlt hn]; rfl
          have HNN : Hid (Gate.less ws[m] ws[m + 1] = false -> Gate.asc ws = false) := fun h => Gate.zas hlt (by rw [Gate.zc0 hlt hn]; exact h)
          have HN : Hid (Gate.zx ws[m + 1] = true) := hn
          clear hn hc hup hk0
          by_cases hls : Gate.less ws[m] ws[m + 1] = true
          · have hls' : Op.bytesLess ws[m].toList ws[m + 1].toList = true := hls
            have HLS : Hid (Gate.less ws[m] ws[m + 1] = true) := hls
            clear hls
            go_wp2_with (go_at_call 108; refine (zf HN.out (zF _ _ hsm)).mono ?_; rintro e w' ⟨rfl, rfl⟩)
            go_round
            case rel => exact ⟨m + 1 + 1, by omega, by go_num, by rw [HU.out, HLS.out]⟩
            case measure => simp [intOf]; omega
          · have hls' : Op.bytesLess ws[m].toList ws[m + 1].toList = false := by simpa [Gate.less] using hls
            have HLS : Hid (Gate.less ws[m] ws[m + 1] = false) := hls'
            clear hls
            go_wp2_with (go_at_call 108; refine (zf HN.out (zF _ _ hsm)).mono ?_; rintro e w' ⟨rfl, rfl⟩)
            go_ret
            exact ⟨ze (HNN.out HLS.out).symm, rfl⟩
      · have hn' : Gate.zx ws[k] = false := by simpa using hn
        have HF : Hid (Gate.asc ws = false) := Gate.zas hlt (Gate.zhT hlt hn')
        have HN : Hid (Gate.zx ws[k] = false) := hn'
        clear hn hn' hc hup
        go_wp2_with (go_at_call 108; refine (zf HN.out (zF _ _ hsm)).mono ?_; rintro e w' ⟨rfl, rfl⟩)
        go_ret
        exact ⟨ze HF.out.symm, rfl⟩
    · have HF : Hid (Gate.asc ws = true) := by
        have e : k = ws.length := by omega
        subst e; exact hup
      clear hw hup
      go_wp2
      go_ret
      exact ⟨ze HF.out.symm, rfl⟩
end Go.Proofs.YtnbpglbbjnkhpaaGreat
