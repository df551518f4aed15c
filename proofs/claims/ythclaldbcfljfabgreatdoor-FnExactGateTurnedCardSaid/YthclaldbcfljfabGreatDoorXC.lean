import Derived.Test.YthclaldbcfljfabGreatDoorWC
import Derived.Test.YthclaldbcfljfabGreatDoorPM
namespace Go.Proofs.YthclaldbcfljfabGreatDoor
open Go.RowKit

set_option maxHeartbeats 1000000 in
theorem areAsc_any (a : Option Addr) (cap : Nat) (ws : List ByteArray) (w : World) (hw : StrsAt w a ws) :
    Calls Tryz.prog 72 #[.slice a ws.length cap] w fun e w' => e = .returned (.bool (Gate.asc ws)) ∧ w' = w := by
  have hl := hw.len
  unfold maxLen at hl
  go_enter Tryz.func72, Tryz.ntmps72
  go_wp2
  go_loop [7] (fun i => ∃ k : Nat, k ≤ ws.length ∧ i = .int .i64 k ∧ Gate.up (Gate.ascAt ws) k = true) (fun i => ws.length - (intOf i).toNat)
  case atStart => exact ⟨0, Nat.zero_le _, rfl, rfl⟩
  case round =>
    obtain ⟨k, hk, rfl, hup⟩ := hrel
    by_cases hlt : k < ws.length
    · obtain ⟨b, off, rfl, hb, hc⟩ := hw.cells (by rintro rfl; simp at hlt)
      have hsm := hw.small _ (List.getElem_mem hlt)
      clear hw
      have hck := hc k hlt
      by_cases hn : Gate.nameOk ws[k] = true
      · by_cases hk0 : k = 0
        · have HF : Hid (Gate.up (Gate.ascAt ws) (k + 1) = true) := by subst hk0; unfold Hid; rw [Gate.up_succ, Gate.ascAt_first hlt hn]; rfl
          have hg : decide (0 < k) = false := by simp; omega
          have HN : Hid (Gate.nameOk ws[k] = true) := hn
          clear hn hc hup hk0
          go_wp2_with (go_at_call 29; refine (as_bool HN.out (isName_any _ _ hsm)).mono ?_; rintro e w' ⟨rfl, rfl⟩)
          go_round
          case rel => exact ⟨k + 1, by omega, by go_num, HF.out⟩
          case measure => simp [intOf]; omega
        · obtain ⟨m, rfl⟩ : ∃ m, k = m + 1 := ⟨k - 1, by omega⟩
          have hcm := hc m (by omega)
          have HU : Hid (Gate.up (Gate.ascAt ws) (m + 1 + 1) = Gate.less ws[m] ws[m + 1]) := by unfold Hid; rw [Gate.up_succ, hup, Gate.ascAt_more hlt hn]; rfl
          have HNN : Hid (Gate.less ws[m] ws[m + 1] = false → Gate.asc ws = false) := fun h => Gate.up_not hlt (by rw [Gate.ascAt_more hlt hn]; exact h)
          have HN : Hid (Gate.nameOk ws[m + 1] = true) := hn
          clear hn hc hup hk0
          by_cases hls : Gate.less ws[m] ws[m + 1] = true
          · have hls' : Op.bytesLess ws[m].toList ws[m + 1].toList = true := hls
            have HLS : Hid (Gate.less ws[m] ws[m + 1] = true) := hls
            clear hls
            go_wp2_with (go_at_call 29; refine (as_bool HN.out (isName_any _ _ hsm)).mono ?_; rintro e w' ⟨rfl, rfl⟩)
            go_round
            case rel => exact ⟨m + 1 + 1, by omega, by go_num, by rw [HU.out, HLS.out]⟩
            case measure => simp [intOf]; omega
          · have hls' : Op.bytesLess ws[m].toList ws[m + 1].toList = false := by simpa [Gate.less] using hls
            have HLS : Hid (Gate.less ws[m] ws[m + 1] = false) := hls'
            clear hls
            go_wp2_with (go_at_call 29; refine (as_bool HN.out (isName_any _ _ hsm)).mono ?_; rintro e w' ⟨rfl, rfl⟩)
            go_ret
            exact ⟨ret_bool (HNN.out HLS.out).symm, rfl⟩
      · have hn' : Gate.nameOk ws[k] = false := by simpa using hn
        have HF : Hid (Gate.asc ws = false) := Gate.up_not hlt (Gate.ascAt_name hlt hn')
        have HN : Hid (Gate.nameOk ws[k] = false) := hn'
        clear hn hn' hc hup
        go_wp2_with (go_at_call 29; refine (as_bool HN.out (isName_any _ _ hsm)).mono ?_; rintro e w' ⟨rfl, rfl⟩)
        go_ret
        exact ⟨ret_bool HF.out.symm, rfl⟩
    · have HF : Hid (Gate.asc ws = true) := by
        have e : k = ws.length := by omega
        subst e; exact hup
      clear hw hup
      go_wp2
      go_ret
      exact ⟨ret_bool HF.out.symm, rfl⟩

end Go.Proofs.YthclaldbcfljfabGreatDoor
