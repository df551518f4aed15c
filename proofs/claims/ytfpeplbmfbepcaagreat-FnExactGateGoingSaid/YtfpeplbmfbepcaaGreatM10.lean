import Derived.Test.YtfpeplbmfbepcaaGreatM07
import Derived.Test.YtfpeplbmfbepcaaGreatM03
namespace Go.Proofs.YtfpeplbmfbepcaaGreat
open Go.RowKit
set_option maxHeartbeats 1000000 in
theorem zjm (a : Option Addr) (cap : Nat) (ws : List ByteArray) (w : World) (hw : zA w a ws) :
    Calls Tryz.prog 222 #[.slice a ws.length cap] w fun e w' => e = .returned (.bool (Gate.asc ws)) /\ w' = w := by
  have hl := hw.len
  unfold maxLen at hl
  go_enter Tryz.func222, Tryz.ntmps222
  go_wp2
  go_loop [7] (fun i => ∃ k : Nat, k <= ws.length /\ i = .int .i64 k /\ Gate.up (Gate.zc3 ws) k = true) (fun i => ws.length - (intOf i).toNat)
  case atStart => exact ⟨0, Nat.zero_le _, rfl, rfl⟩
  case round =>
    obtain ⟨k, hk, rfl, hup⟩ := hrel
    by_cases hlt : k < ws.length
    · obtain ⟨b, off, rfl, hb, hc⟩ := hw.cells (by rintro rfl; simp at hlt)
      have hsm := hw.small _ (List.getElem_mem hlt)
      clear hw
      have hck := hc k hlt
      by_cases hn : Gate.zy ws[k] = true
      · by_cases hk0 : k = 0
        · have HF : Hid (Gate.up (Gate.zc3 ws) (k + 1) = true) := by subst hk0; unfold Hid; rw [Gate.jG, Gate.zhb hlt hn]; rfl
          have hg : decide (0 < k) = false := by simp; omega
          have HN : Hid (Gate.zy ws[k] = true) := hn
          clear hn hc hup hk0
          go_wp2_with (go_at_call 145; refine (zw HN.out (zR _ _ hsm)).mono ?_; rintro e w' ⟨rfl, rfl⟩)
          go_round
          case rel => exact ⟨k + 1, by omega, by go_num, HF.out⟩
          case measure => simp [intOf]; omega
        · obtain ⟨m, rfl⟩ : ∃ m, k = m + 1 := ⟨k - 1, by omega⟩
          have hcm := hc m (by omega)
          have HU : Hid (Gate.up (Gate.zc3 ws) (m + 1 + 1) = Gate.less ws[m] ws[m + 1]) := by unfold Hid; rw [Gate.jG, hup, Gate.zdv hlt hn]; rfl
          have HNN : Hid (Gate.less ws[m] ws[m + 1] = false -> Gate.asc ws = false) := fun h => Gate.zbg hlt (by rw [Gate.zdv hlt hn]; exact h)
          have HN : Hid (Gate.zy ws[m + 1] = true) := hn
          clear hn hc hup hk0
          by_cases hls : Gate.less ws[m] ws[m + 1] = true
          · have hls' : Op.bytesLess ws[m].toList ws[m + 1].toList = true := hls
            have HLS : Hid (Gate.less ws[m] ws[m + 1] = true) := hls
            clear hls
            go_wp2_with (go_at_call 145; refine (zw HN.out (zR _ _ hsm)).mono ?_; rintro e w' ⟨rfl, rfl⟩)
            go_round
            case rel => exact ⟨m + 1 + 1, by omega, by go_num, by rw [HU.out, HLS.out]⟩
            case measure => simp [intOf]; omega
          · have hls' : Op.bytesLess ws[m].toList ws[m + 1].toList = false := by simpa [Gate.less] using hls
            have HLS : Hid (Gate.less ws[m] ws[m + 1] = false) := hls'
            clear hls
            go_wp2_with (go_at_call 145; refine (zw HN.out (zR _ _ hsm)).mono ?_; rintro e w' ⟨rfl, rfl⟩)
            go_ret
            exact ⟨ze (HNN.out HLS.out).symm, rfl⟩
      · have hn' : Gate.zy ws[k] = false := by simpa using hn
        have HF : Hid (Gate.asc ws = false) := Gate.zbg hlt (Gate.ziS hlt hn')
        have HN : Hid (Gate.zy ws[k] = false) := hn'
        clear hn hn' hc hup
        go_wp2_with (go_at_call 145; refine (zw HN.out (zR _ _ hsm)).mono ?_; rintro e w' ⟨rfl, rfl⟩)
        go_ret
        exact ⟨ze HF.out.symm, rfl⟩
    · have HF : Hid (Gate.asc ws = true) := by
        have e : k = ws.length := by omega
        subst e; exact hup
      clear hw hup
      go_wp2
      go_ret
      exact ⟨ze HF.out.symm, rfl⟩
end Go.Proofs.YtfpeplbmfbepcaaGreat

namespace Go.Proofs.YtfpeplbmfbepcaaGreat
open Go.RowKit
theorem zhY {a b : Int} {p q : Bool} (h : a = b) (h2 : p = q) : Ending.returned (.tuple #[.int .i64 a, .bool p]) = .returned (.tuple #[.int .i64 b, .bool q]) := by rw [h, h2]
def zad (s : ByteArray) : Int := if Gate.jZ s = true then Gate.zfj s else 0
set_option maxHeartbeats 800000 in
theorem zjk (s : ByteArray) (w : World) (h1 : 1 <= s.size) (h7 : s.size <= 7) (hz : s.size <= 1 \/ ¬ (s[0].toNat : Int) = 48) :
    Calls Tryz.prog 225 #[.string s] w fun e w' => e = .returned (.tuple #[.int .i64 (zad s), .bool (Gate.jZ s)]) /\ w' = w := by
  have HF : Hid (Gate.jZ s = Gate.zaE s) := Gate.zkE s h1 h7 hz
  have hne : s.toList.isEmpty = false := by rw [Gate.zu]; exact decide_eq_false (by omega)
  rcases (show (¬ (s[0].toNat : Int) = 48) \/ (s.size <= 1 /\ (s[0].toNat : Int) = 48) by rcases hz with h | h <;> omega) with hz0 | ⟨hone, hz0⟩
  all_goals
    clear hz
    first
      | (have hz1 : ((s[0].toNat : Int) == 48) = true := by simpa using hz0)
      | (have hz1 : ((s[0].toNat : Int) == 48) = false := by simpa using hz0)
    clear hz0
    go_enter Tryz.func225, Tryz.ntmps225
    go_wp2
    go_loop [4, 25] (fun n i => ∃ k : Nat, k <= s.size /\ i = .int .i64 k /\ (s.data.toList.take k).all Gate.digit = true /\ n = .int .i64 (Gate.dec (s.data.toList.take k))) (fun _ i => s.size - (intOf i).toNat)
    case atStart => exact ⟨0, Nat.zero_le _, rfl, rfl, rfl⟩
    case round =>
      obtain ⟨k, hk, rfl, hall, rfl⟩ := hrel
      have hlen : (s.data.toList.take k).length <= k := List.length_take_le _ _
      obtain ⟨hd0, hd1⟩ := Gate.zeu _ hall k hlen
      by_cases hlt : k < s.size
      · have hp := zkz k (by omega)
        have hd2 : Gate.dec (s.data.toList.take k) < 10000000 := by omega
        clear hp hd1 hlen
        have HS : Hid ((s.data.toList.take (k + 1)).all Gate.digit = (true && Gate.digit s[k])) := by rw [Gate.zbP _ s k hlt, hall]; rfl
        have HD : Hid (Gate.dec (s.data.toList.take (k + 1)) = Gate.dec (s.data.toList.take k) * 10 + ((s[k].toNat : Int) - 48)) := by rw [Gate.zgd s k hlt]; exact Gate.zmA _ _
        have HN : Hid (Gate.digit s[k] = false -> Gate.zaE s = false) := fun h => Gate.zdu Gate.digit s k hlt h
        clear hall
        by_cases hd : 48 <= (s[k].toNat : Int) /\ (s[k].toNat : Int) <= 57
        · have HC : Hid (Gate.digit s[k] = true) := by simp [Gate.digit, Hid]; omega
          obtain ⟨h48, h57⟩ := hd
          go_wp2_with (go_at_call 207; refine (zgW _ _ h48 h57).mono ?_; rintro e w' ⟨rfl, rfl⟩)
          go_round
          case rel => exact ⟨k + 1, by omega, by go_num, by rw [HS.out, HC.out]; rfl, by rw [HD.out]⟩
          case measure => simp [intOf]; omega
        · have HC : Hid (Gate.digit s[k] = false) := by simp [Gate.digit, Hid]; omega
          have HDD : Hid (¬ (48 <= (s[k].toNat : Int) /\ (s[k].toNat : Int) <= 57)) := hd
          clear hd
          go_wp2_with (go_at_call 207; refine (zcp _ _ HDD.out).mono ?_; rintro e w' ⟨rfl, rfl⟩)
          go_ret2
          exact ⟨zhY (by unfold zad; rw [HF.out, HN.out HC.out]; rfl) (by rw [HF.out, HN.out HC.out]), rfl⟩
      · have HA : Hid (Gate.zaE s = true) := by unfold Gate.zaE Hid; rw [<- Gate.zba s k (by omega)]; exact hall
        have HB : Hid (Gate.dec (s.data.toList.take k) = Gate.zfj s) := by rw [Gate.zba s k (by omega)]; rfl
        clear hall hd0 hd1 hlen
        go_wp2
        go_ret2
        exact ⟨zhY (by unfold zad; rw [HF.out, HA.out, HB.out]; rfl) (by rw [HF.out, HA.out]), rfl⟩
set_option maxHeartbeats 400000 in
theorem zcJ (s : ByteArray) (w : World) (hs : s.size <= maxLen) :
    Calls Tryz.prog 225 #[.string s] w fun e w' => e = .returned (.tuple #[.int .i64 (zad s), .bool (Gate.jZ s)]) /\ w' = w := by
  unfold maxLen at hs
  by_cases h0 : s.size = 0
  · rw [Gate.zcG s h0]
    go_enter Tryz.func225, Tryz.ntmps225
    go_wp2
    go_ret2
    exact ⟨rfl, rfl⟩
  have hne : s.toList.isEmpty = false := by rw [Gate.zu]; simp [h0]
  by_cases h7 : s.size <= 7
  · by_cases hz : 1 < s.size /\ (s[0].toNat : Int) = 48
    · obtain ⟨hm, hz0⟩ := hz
      have HF : Hid (Gate.jZ s = false) := Gate.zeF s hm hz0
      have hz1 : ((s[0].toNat : Int) == 48) = true := by simpa using hz0
      clear hz0
      go_enter Tryz.func225, Tryz.ntmps225
      go_wp2
      go_ret2
      exact ⟨zhY (by unfold zad; rw [HF.out]; rfl) HF.out.symm, rfl⟩
    · exact zjk s w (by omega) h7 (by omega)
  · have HF : Hid (Gate.jZ s = false) := Gate.zdk s (by omega)
    go_enter Tryz.func225, Tryz.ntmps225
    go_wp2
    go_ret2
    exact ⟨zhY (by unfold zad; rw [HF.out]; rfl) HF.out.symm, rfl⟩
end Go.Proofs.YtfpeplbmfbepcaaGreat

namespace Go.Proofs.YtfpeplbmfbepcaaGreat
open Go.RowKit
set_option maxHeartbeats 400000 in
theorem zo0 (a : Option Addr) (cap : Nat) (ws : List ByteArray) (v : ByteArray) (w : World) (hw : zA w a ws) :
    Calls Tryz.prog 252 #[.slice a ws.length cap, .string v] w fun e w' => ∃ r : Int, e = .returned (.int .i64 r) /\ decide (0 <= r) = Gate.has ws v /\ w' = w := by
  have hl := hw.len
  unfold maxLen at hl
  by_cases hne : ws = []
  · subst hne
    go_enter Tryz.func252, Tryz.ntmps252
    go_wp2
    go_loop [8] (fun i => i = .int .i64 0) (fun i => 0)
    case atStart => rfl
    case round =>
      subst hrel
      go_wp2
      go_ret
      exact ⟨_, rfl, rfl, rfl⟩
  · obtain ⟨b, off, rfl, hb, hc⟩ := hw.cells hne
    clear hw
    have HL : Hid (0 < ws.length) := List.length_pos_iff.2 hne
    clear hne
    go_enter Tryz.func252, Tryz.ntmps252
    go_wp2
    go_loop [8] (fun i => ∃ k : Nat, k <= ws.length /\ i = .int .i64 k /\ Gate.has (ws.take k) v = false) (fun i => ws.length - (intOf i).toNat)
    case atStart => exact ⟨0, Nat.zero_le _, rfl, rfl⟩
    case round =>
      obtain ⟨k, hk, rfl, hall⟩ := hrel
      by_cases hlt : k < ws.length
      · have hck := hc k hlt
        clear hc
        have HS : Hid (Gate.has (ws.take (k + 1)) v = (false || decide (ws[k] = v))) := by rw [Gate.zlP ws v k hlt, hall]; rfl
        have HN : Hid (ws[k] = v -> Gate.has ws v = true) := fun h => Gate.zpu ws v k hlt h
        clear hall
        by_cases he : ws[k] = v
        · have hbe : (v.toList == ws[k].toList) = true := by rw [Gate.beq_toList]; simpa using he.symm
          have HE : Hid (ws[k] = v) := he
          clear he
          go_wp2
          go_ret
          exact ⟨_, rfl, by rw [HN.out HE.out]; simp, rfl⟩
        · have hbe : (v.toList == ws[k].toList) = false := by rw [Gate.beq_toList]; simpa using fun h => he h.symm
          have HE : Hid (¬ ws[k] = v) := he
          clear he
          go_wp2
          go_round
          case rel => exact ⟨k + 1, by omega, by go_num, by rw [HS.out, decide_eq_false HE.out]; rfl⟩
          case measure => simp [intOf]; omega
      · have HA : Hid (Gate.has ws v = false) := by rw [<- Gate.zoi ws v k (by omega)]; exact hall
        clear hall hc
        go_wp2
        go_ret
        exact ⟨_, rfl, by rw [HA.out]; rfl, rfl⟩
set_option maxHeartbeats 400000 in
theorem zlM (a : Option Addr) (cap : Nat) (ws : List ByteArray) (v : ByteArray) (w : World) (hw : zA w a ws) :
    Calls Tryz.prog 251 #[.slice a ws.length cap, .string v] w fun e w' => e = .returned (.bool (Gate.has ws v)) /\ w' = w := by
  go_enter Tryz.func251, Tryz.ntmps251
  go_wp2_with (go_at_call 252; refine (zo0 _ _ _ _ _ hw).mono ?_; rintro e w' ⟨r, rfl, hr, rfl⟩)
  go_ret
  exact ⟨rfl, rfl⟩
set_option maxHeartbeats 400000 in
theorem zfy (nm : ByteArray) (kd ls ms : Int) (a : Option Addr) (cap : Nat) (ws : List ByteArray) (to : ByteArray) (rl : Int) (mu fx : Bool) (df wg : ByteArray) (v : ByteArray) (w : World) (hw : zA w a ws) :
    Calls Tryz.prog 249 #[.agg #[.string nm, .int .i64 kd, .int .i64 ls, .int .i64 ms, .slice a ws.length cap, .string to, .int .i64 rl, .bool mu, .bool fx, .string df, .string wg], .string v] w
      fun e w' => e = .returned (.bool (Gate.has ws v)) /\ Below w.heap.size w w' := by
  go_enter Tryz.func249, Tryz.ntmps249
  go_wp2_with (go_at_call 251; refine (zlM _ _ _ _ _ (hw.mono (by exact (Below.refl _ _).alloc (Nat.le_refl _) _))).mono ?_; rintro e w' ⟨rfl, rfl⟩)
  go_ret
  exact ⟨rfl, (Below.refl _ _).alloc (Nat.le_refl _) _⟩
set_option maxHeartbeats 400000 in
theorem zfD (nm : ByteArray) (kd ls ms : Int) (sl : Value) (to : ByteArray) (rl : Int) (mu fx : Bool) (df wg : ByteArray) (v : ByteArray) (w : World) (hs : v.size <= maxLen) :
    Calls Tryz.prog 257 #[.agg #[.string nm, .int .i64 kd, .int .i64 ls, .int .i64 ms, sl, .string to, .int .i64 rl, .bool mu, .bool fx, .string df, .string wg], .string v] w
      fun e w' => e = .returned (.bool (Gate.zy v)) /\ Below w.heap.size w w' := by
  go_enter Tryz.func257, Tryz.ntmps257
  go_wp2_with (go_at_call 145; refine (zR _ _ hs).mono ?_; rintro e w' ⟨rfl, rfl⟩)
  go_ret
  exact ⟨rfl, (Below.refl _ _).alloc (Nat.le_refl _) _⟩
set_option maxHeartbeats 400000 in
theorem zfk (nm : ByteArray) (kd ls ms : Int) (sl : Value) (to : ByteArray) (rl : Int) (mu fx : Bool) (df wg : ByteArray) (s : ByteArray) (w : World) (hs : s.size <= maxLen) :
    Calls Tryz.prog 254 #[.agg #[.string nm, .int .i64 kd, .int .i64 ls, .int .i64 ms, sl, .string to, .int .i64 rl, .bool mu, .bool fx, .string df, .string wg], .string s] w
      fun e w' => e = .returned (.bool (Gate.zbb ls ms s)) /\ Below w.heap.size w w' := by
  unfold maxLen at hs
  by_cases h1 : (s.size : Int) < ls
  · go_enter Tryz.func254, Tryz.ntmps254
    go_wp2
    go_ret
    refine ⟨ze ?_, (Below.refl _ _).alloc (Nat.le_refl _) _⟩
    unfold Gate.zbb; rw [decide_eq_false (by omega)]; rfl
  · by_cases h2 : ms < (s.size : Int)
    · go_enter Tryz.func254, Tryz.ntmps254
      go_wp2
      go_ret
      refine ⟨ze ?_, (Below.refl _ _).alloc (Nat.le_refl _) _⟩
      unfold Gate.zbb; rw [decide_eq_false (show ¬ (s.size : Int) <= ms by omega)]; simp
    · have HF : Hid (Gate.zbb ls ms s = Gate.zbf s) := by
        unfold Gate.zbb
        rw [decide_eq_true (show ls <= s.size by omega), decide_eq_true (show (s.size : Int) <= ms by omega)]; simp [Hid]
      go_enter Tryz.func254, Tryz.ntmps254
      go_wp2
      go_loop [20] (fun i => ∃ k : Nat, k <= s.size /\ i = .int .i64 k /\ (s.data.toList.take k).all Gate.yL = true) (fun i => s.size - (intOf i).toNat)
      case atStart => exact ⟨0, Nat.zero_le _, rfl, rfl⟩
      case round =>
        obtain ⟨k, hk, rfl, hall⟩ := hrel
        by_cases hlt : k < s.size
        · have HS : Hid ((s.data.toList.take (k + 1)).all Gate.yL = (true && Gate.yL s[k])) := by rw [Gate.zbP _ s k hlt, hall]; rfl
          have HN : Hid (Gate.yL s[k] = false -> Gate.zbf s = false) := fun h => Gate.zdu Gate.yL s k hlt h
          clear hall
          by_cases h33 : (s[k].toNat : Int) < 33
          · have HC : Hid (Gate.yL s[k] = false) := by simp [Gate.yL, Hid]; omega
            go_wp2
            go_ret
            exact ⟨ze (HF.out.trans (HN.out HC.out)).symm, (Below.refl _ _).alloc (Nat.le_refl _) _⟩
          · by_cases h126 : 126 < (s[k].toNat : Int)
            · have HC : Hid (Gate.yL s[k] = false) := by simp [Gate.yL, Hid]; omega
              go_wp2
              go_ret
              exact ⟨ze (HF.out.trans (HN.out HC.out)).symm, (Below.refl _ _).alloc (Nat.le_refl _) _⟩
            · have HC : Hid (Gate.yL s[k] = true) := by simp [Gate.yL, Hid]; omega
              go_wp2
              go_round
              case rel => exact ⟨k + 1, by omega, by go_num, by rw [HS.out, HC.out]; rfl⟩
              case measure => simp [intOf]; omega
        · have HA : Hid (Gate.zbf s = true) := by unfold Gate.zbf Hid; rw [<- Gate.zba s k (by omega)]; exact hall
          clear hall
          go_wp2
          go_ret
          exact ⟨ze (HF.out.trans HA.out).symm, (Below.refl _ _).alloc (Nat.le_refl _) _⟩
end Go.Proofs.YtfpeplbmfbepcaaGreat
