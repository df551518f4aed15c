import Derived.Test.YtimhinpekngceaaDoorM13
import Derived.Test.YtimhinpekngceaaDoorM15
import Derived.Test.YtimhinpekngceaaDoorM16
import Derived.Deep.RegionHeld3
namespace Go.Proofs.YtimhinpekngceaaDoor
open Go.RowKit

theorem Gate.l1In_verb (v : Int) : (decide (1 ≤ v) && decide (v ≤ 5)) = Gate.verbOk v := rfl

set_option maxHeartbeats 4000000 in
theorem l4RuleOk_any (r : Rl) (a : Option Addr) (cap : Nat) (w : World) (hm : r.Small) (hw : IntsAt w a r.vs) :
    Calls Tryd.prog 49 #[.agg (r.cells a cap)] w fun e w' => e = .returned (.bool (Gate.ruleOk r)) ∧ Below w.heap.size w w' := by
  have hskd := hm.kd
  have hstm := hm.tm
  have hpx := hm.px
  have hvl := hw.len
  unfold maxLen at hpx hvl
  unfold Rl.cells
  have HB : Hid (∀ ob, Below w.heap.size w (w.alloc ob)) := fun ob => (Below.refl _ _).alloc (Nat.le_refl _) _
  have HI : Hid (IntsAt w a r.vs) := hw
  clear hw hm
  by_cases hv0 : r.vs.length = 0
  · have HF : Hid (Gate.ruleOk r = false) := by unfold Hid Gate.ruleOk Gate.verbsOk; rw [decide_eq_false (show ¬ 0 < r.vs.length by omega)]; simp
    have hvI : ((r.vs.length : Int) == 0) = true := by rw [hv0]; rfl
    go_enter Tryd.func49, Tryd.ntmps49
    go_wp2_with fail
    go_ret
    exact ⟨ret_bool HF.out.symm, HB.out _⟩
  have hvI : ((r.vs.length : Int) == 0) = false := by rw [beq_eq_false_iff_ne]; omega
  by_cases h16 : r.px.size ≤ 16
  rotate_left
  · have HF : Hid (Gate.ruleOk r = false) := by unfold Hid Gate.ruleOk; rw [decide_eq_false h16]; simp
    have h16I : decide (16 < (r.px.size : Int)) = true := by simp; omega
    clear hv0
    go_enter Tryd.func49, Tryd.ntmps49
    go_wp2_with fail
    go_ret
    exact ⟨ret_bool HF.out.symm, HB.out _⟩
  have h16I : decide (16 < (r.px.size : Int)) = false := by simp; omega
  have HG : Hid (Gate.kindsOk r = true → Gate.ruleOk r = (Gate.up (Gate.verbAt r.vs) r.vs.length && Gate.allName r.px)) := fun h => by
    unfold Gate.ruleOk Gate.verbsOk; rw [h, decide_eq_true h16, decide_eq_true (show 0 < r.vs.length by omega)]; simp
  clear hv0
  rcases Gate.kd_cases r.kd with hk | ⟨hk, HK⟩ | ⟨hk, HK⟩
  · rcases Gate.kd_cases r.tm with ht | ⟨ht, HT⟩ | ⟨ht, HT⟩
    · have HKD : Hid (Gate.kindsOk r = true) := by unfold Hid Gate.kindsOk; rw [hk, ht]; simp
      go_enter Tryd.func49, Tryd.ntmps49
      go_wp2_with fail
      obtain ⟨W0, hW0⟩ : ∃ W0, W0 = w.alloc (.cells #[.slice a r.vs.length cap, .string r.kd, .string r.tm, .string r.px] 38) := ⟨_, rfl⟩
      have HBW : Hid (Below w.heap.size w W0) := by unfold Hid; rw [hW0]; exact HB.out _
      have hX0 : ∀ o, W0.cell? ⟨w.heap.size, o, none⟩ = (#[.slice a r.vs.length cap, .string r.kd, .string r.tm, .string r.px] : Array Value)[o]? := by rw [hW0]; exact box_new w _ _
      have hz0 : w.heap.size < W0.heap.size := by rw [hW0]; simp
      rw [← hW0]
      clear hW0
      go_loopw [3] (fun i wr => ∃ k : Nat, k ≤ r.vs.length ∧ i = .int .i64 k ∧ Gate.up (Gate.verbAt r.vs) k = true ∧ Below W0.heap.size W0 wr) (fun i _ => r.vs.length - (intOf i).toNat)
      case atStart => exact ⟨0, Nat.zero_le _, rfl, rfl, Below.refl _ _⟩
      case round =>
        obtain ⟨k, hkl, rfl, hup, hB⟩ := hrel
        obtain ⟨W1, rfl⟩ : ∃ W1, W1 = wr := ⟨wr, rfl⟩
        have hsz := hB.size
        have hX := box_later hX0 hz0 hB
        have HB1 : Hid (Below W0.heap.size W0 W1) := hB
        have HBW1 : Hid (Below w.heap.size w W1) := HBW.out.trans (hB.mono (by omega))
        have hz1 : w.heap.size < W1.heap.size := by omega
        clear hX0 hB
        by_cases hlt : k < r.vs.length
        · obtain ⟨b, off, rfl, hb, c0⟩ := HI.out.load HBW1.out k hlt
          have hbr : b < W1.heap.size := by omega
          have hltI : (k : Int) < (r.vs.length : Int) := by omega
          have HNN : Hid (Gate.verbAt r.vs k = false → Gate.ruleOk r = false) := fun h => by rw [HG.out HKD.out, Gate.up_not hlt h]; rfl
          by_cases hn : Gate.verbOk r.vs[k] = true
          rotate_left
          · have HN : Hid ((decide (1 ≤ r.vs[k]) && decide (r.vs[k] ≤ 5)) = false) := by simpa [Hid, Gate.verbOk] using hn
            have HF : Hid (Gate.ruleOk r = false) := HNN.out (Gate.verbAt_no hlt (by simpa using hn))
            clear hn hup
            go_wp2_with fail
            go_quiet ((go_at_call 77; exact Calls.quiet_of_same (as_bool HN.out (l1In_any _ _ _ _))))
            go_wp2_with fail
            go_ret
            exact ⟨ret_bool HF.out.symm, below_drewN HBW1.out _⟩
          have HN : Hid ((decide (1 ≤ r.vs[k]) && decide (r.vs[k] ≤ 5)) = true) := hn
          by_cases hk0 : k = 0
          · have HS : Hid (Gate.up (Gate.verbAt r.vs) (k + 1) = true) := by subst hk0; unfold Hid; rw [Gate.up_succ, Gate.verbAt_first hlt hn]; rfl
            have hg : decide (0 < k) = false := by simp; omega
            clear hn hup hk0
            go_wp2_with fail
            go_quiet ((go_at_call 77; exact Calls.quiet_of_same (as_bool HN.out (l1In_any _ _ _ _))))
            go_wp2_with fail
            exact ⟨⟨k + 1, by omega, by go_num, HS.out, below_drewN HB1.out _⟩, by simp [intOf]; omega⟩
          · have hk1 : (0 : Int) ≤ (k : Int) - 1 := by omega
            have hk2 : (k : Int) - 1 < (r.vs.length : Int) := by omega
            have hg : decide (0 < k) = true := by simp; omega
            have hkm : k - 1 < r.vs.length := by omega
            obtain ⟨b', off', e', hb', d0⟩ := HI.out.load HBW1.out (k - 1) hkm
            simp only [Option.some.injEq, Addr.mk.injEq] at e'
            obtain ⟨rfl, rfl, _⟩ := e'
            have hva : Gate.verbAt r.vs k = decide (r.vs[k - 1] < r.vs[k]) := by unfold Gate.verbAt; rw [Gate.getD_at r.vs k _ hlt, Gate.getD_at r.vs (k - 1) _ hkm, hn, decide_eq_false hk0]; simp
            by_cases hls : r.vs[k - 1] < r.vs[k]
            · have hls' : decide (r.vs[k] ≤ r.vs[k - 1]) = false := by simp; omega
              have HS : Hid (Gate.up (Gate.verbAt r.vs) (k + 1) = true) := by unfold Hid; rw [Gate.up_succ, hup, hva, decide_eq_true hls]; rfl
              clear hls hn hup hk0 hva
              go_wp2_with fail
              go_quiet ((go_at_call 77; exact Calls.quiet_of_same (as_bool HN.out (l1In_any _ _ _ _))))
              go_wp2_with fail
              exact ⟨⟨k + 1, by omega, by go_num, HS.out, below_drewN HB1.out _⟩, by simp [intOf]; omega⟩
            · have hls' : decide (r.vs[k] ≤ r.vs[k - 1]) = true := by simp; omega
              have HF : Hid (Gate.ruleOk r = false) := HNN.out (by rw [hva, decide_eq_false hls])
              clear hls hn hup hk0 hva
              go_wp2_with fail
              go_quiet ((go_at_call 77; exact Calls.quiet_of_same (as_bool HN.out (l1In_any _ _ _ _))))
              go_wp2_with fail
              go_ret
              exact ⟨ret_bool HF.out.symm, below_drewN HBW1.out _⟩
        · have HF : Hid (Gate.ruleOk r = Gate.allName r.px) := by
            have e : k = r.vs.length := by omega
            subst e; rw [Hid, HG.out HKD.out, hup]; rfl
          have hltI : ¬ (k : Int) < (r.vs.length : Int) := by omega
          clear hup HG
          go_wp2_with fail
          go_loopw [4] (fun i wi => ∃ n : Nat, n ≤ r.px.size ∧ i = .int .i64 n ∧ (r.px.data.toList.take n).all Gate.nameByte = true ∧ wi = W1) (fun i _ => r.px.size - (intOf i).toNat)
          case atStart => exact ⟨0, Nat.zero_le _, rfl, rfl, rfl⟩
          case round =>
            obtain ⟨n, hn16, rfl, hall, rfl⟩ := hrel
            by_cases hn : n < r.px.size
            · have hnI : (n : Int) < (r.px.size : Int) := by omega
              have HS : Hid ((r.px.data.toList.take (n + 1)).all Gate.nameByte = (true && Gate.nameByte r.px[n])) := by rw [Gate.all_snoc _ r.px n hn, hall]; rfl
              have HNo : Hid (Gate.nameByte r.px[n] = false → Gate.allName r.px = false) := fun h => Gate.all_not Gate.nameByte r.px n hn h
              clear hall
              by_cases hc : Gate.nameByte r.px[n] = true
              · have HC : Hid (Gate.nameByte r.px[n] = true) := hc
                clear hc
                go_wp2_with (go_at_call 78; refine (as_bool HC.out (l1Byte_any _ _)).mono ?_; rintro e w' ⟨rfl, rfl⟩)
                exact ⟨⟨n + 1, by omega, by go_num, by rw [HS.out, HC.out]; rfl, trivial⟩, by simp [intOf]; omega⟩
              · have HC : Hid (Gate.nameByte r.px[n] = false) := by simpa [Hid] using hc
                clear hc
                go_wp2_with (go_at_call 78; refine (as_bool HC.out (l1Byte_any _ _)).mono ?_; rintro e w' ⟨rfl, rfl⟩)
                go_ret
                exact ⟨ret_bool (HF.out.trans (HNo.out HC.out)).symm, HBW1.out⟩
            · have HA : Hid (Gate.allName r.px = true) := by unfold Gate.allName Hid; rw [← Gate.take_all r.px n (by omega)]; exact hall
              have hnI : ¬ (n : Int) < (r.px.size : Int) := by omega
              clear hall
              go_wp2_with fail
              go_ret
              exact ⟨ret_bool (HF.out.trans HA.out).symm, HBW1.out⟩
    · have HKD : Hid (Gate.kindsOk r = true) := by unfold Hid Gate.kindsOk; rw [hk, HT.out]; simp
      go_enter Tryd.func49, Tryd.ntmps49
      go_wp2_with (first | (go_at_call_of 74 (Value.string r.tm); refine (as_bool HT.out (l1NameOk_any r.tm _ hstm)).mono ?_; rintro e w' ⟨rfl, rfl⟩))
      obtain ⟨W0, hW0⟩ : ∃ W0, W0 = w.alloc (.cells #[.slice a r.vs.length cap, .string r.kd, .string r.tm, .string r.px] 38) := ⟨_, rfl⟩
      have HBW : Hid (Below w.heap.size w W0) := by unfold Hid; rw [hW0]; exact HB.out _
      have hX0 : ∀ o, W0.cell? ⟨w.heap.size, o, none⟩ = (#[.slice a r.vs.length cap, .string r.kd, .string r.tm, .string r.px] : Array Value)[o]? := by rw [hW0]; exact box_new w _ _
      have hz0 : w.heap.size < W0.heap.size := by rw [hW0]; simp
      rw [← hW0]
      clear hW0
      go_loopw [3] (fun i wr => ∃ k : Nat, k ≤ r.vs.length ∧ i = .int .i64 k ∧ Gate.up (Gate.verbAt r.vs) k = true ∧ Below W0.heap.size W0 wr) (fun i _ => r.vs.length - (intOf i).toNat)
      case atStart => exact ⟨0, Nat.zero_le _, rfl, rfl, Below.refl _ _⟩
      case round =>
        obtain ⟨k, hkl, rfl, hup, hB⟩ := hrel
        obtain ⟨W1, rfl⟩ : ∃ W1, W1 = wr := ⟨wr, rfl⟩
        have hsz := hB.size
        have hX := box_later hX0 hz0 hB
        have HB1 : Hid (Below W0.heap.size W0 W1) := hB
        have HBW1 : Hid (Below w.heap.size w W1) := HBW.out.trans (hB.mono (by omega))
        have hz1 : w.heap.size < W1.heap.size := by omega
        clear hX0 hB
        by_cases hlt : k < r.vs.length
        · obtain ⟨b, off, rfl, hb, c0⟩ := HI.out.load HBW1.out k hlt
          have hbr : b < W1.heap.size := by omega
          have hltI : (k : Int) < (r.vs.length : Int) := by omega
          have HNN : Hid (Gate.verbAt r.vs k = false → Gate.ruleOk r = false) := fun h => by rw [HG.out HKD.out, Gate.up_not hlt h]; rfl
          by_cases hn : Gate.verbOk r.vs[k] = true
          rotate_left
          · have HN : Hid ((decide (1 ≤ r.vs[k]) && decide (r.vs[k] ≤ 5)) = false) := by simpa [Hid, Gate.verbOk] using hn
            have HF : Hid (Gate.ruleOk r = false) := HNN.out (Gate.verbAt_no hlt (by simpa using hn))
            clear hn hup
            go_wp2_with fail
            go_quiet ((go_at_call 77; exact Calls.quiet_of_same (as_bool HN.out (l1In_any _ _ _ _))))
            go_wp2_with fail
            go_ret
            exact ⟨ret_bool HF.out.symm, below_drewN HBW1.out _⟩
          have HN : Hid ((decide (1 ≤ r.vs[k]) && decide (r.vs[k] ≤ 5)) = true) := hn
          by_cases hk0 : k = 0
          · have HS : Hid (Gate.up (Gate.verbAt r.vs) (k + 1) = true) := by subst hk0; unfold Hid; rw [Gate.up_succ, Gate.verbAt_first hlt hn]; rfl
            have hg : decide (0 < k) = false := by simp; omega
            clear hn hup hk0
            go_wp2_with fail
            go_quiet ((go_at_call 77; exact Calls.quiet_of_same (as_bool HN.out (l1In_any _ _ _ _))))
            go_wp2_with fail
            exact ⟨⟨k + 1, by omega, by go_num, HS.out, below_drewN HB1.out _⟩, by simp [intOf]; omega⟩
          · have hk1 : (0 : Int) ≤ (k : Int) - 1 := by omega
            have hk2 : (k : Int) - 1 < (r.vs.length : Int) := by omega
            have hg : decide (0 < k) = true := by simp; omega
            have hkm : k - 1 < r.vs.length := by omega
            obtain ⟨b', off', e', hb', d0⟩ := HI.out.load HBW1.out (k - 1) hkm
            simp only [Option.some.injEq, Addr.mk.injEq] at e'
            obtain ⟨rfl, rfl, _⟩ := e'
            have hva : Gate.verbAt r.vs k = decide (r.vs[k - 1] < r.vs[k]) := by unfold Gate.verbAt; rw [Gate.getD_at r.vs k _ hlt, Gate.getD_at r.vs (k - 1) _ hkm, hn, decide_eq_false hk0]; simp
            by_cases hls : r.vs[k - 1] < r.vs[k]
            · have hls' : decide (r.vs[k] ≤ r.vs[k - 1]) = false := by simp; omega
              have HS : Hid (Gate.up (Gate.verbAt r.vs) (k + 1) = true) := by unfold Hid; rw [Gate.up_succ, hup, hva, decide_eq_true hls]; rfl
              clear hls hn hup hk0 hva
              go_wp2_with fail
              go_quiet ((go_at_call 77; exact Calls.quiet_of_same (as_bool HN.out (l1In_any _ _ _ _))))
              go_wp2_with fail
              exact ⟨⟨k + 1, by omega, by go_num, HS.out, below_drewN HB1.out _⟩, by simp [intOf]; omega⟩
            · have hls' : decide (r.vs[k] ≤ r.vs[k - 1]) = true := by simp; omega
              have HF : Hid (Gate.ruleOk r = false) := HNN.out (by rw [hva, decide_eq_false hls])
              clear hls hn hup hk0 hva
              go_wp2_with fail
              go_quiet ((go_at_call 77; exact Calls.quiet_of_same (as_bool HN.out (l1In_any _ _ _ _))))
              go_wp2_with fail
              go_ret
              exact ⟨ret_bool HF.out.symm, below_drewN HBW1.out _⟩
        · have HF : Hid (Gate.ruleOk r = Gate.allName r.px) := by
            have e : k = r.vs.length := by omega
            subst e; rw [Hid, HG.out HKD.out, hup]; rfl
          have hltI : ¬ (k : Int) < (r.vs.length : Int) := by omega
          clear hup HG
          go_wp2_with fail
          go_loopw [4] (fun i wi => ∃ n : Nat, n ≤ r.px.size ∧ i = .int .i64 n ∧ (r.px.data.toList.take n).all Gate.nameByte = true ∧ wi = W1) (fun i _ => r.px.size - (intOf i).toNat)
          case atStart => exact ⟨0, Nat.zero_le _, rfl, rfl, rfl⟩
          case round =>
            obtain ⟨n, hn16, rfl, hall, rfl⟩ := hrel
            by_cases hn : n < r.px.size
            · have hnI : (n : Int) < (r.px.size : Int) := by omega
              have HS : Hid ((r.px.data.toList.take (n + 1)).all Gate.nameByte = (true && Gate.nameByte r.px[n])) := by rw [Gate.all_snoc _ r.px n hn, hall]; rfl
              have HNo : Hid (Gate.nameByte r.px[n] = false → Gate.allName r.px = false) := fun h => Gate.all_not Gate.nameByte r.px n hn h
              clear hall
              by_cases hc : Gate.nameByte r.px[n] = true
              · have HC : Hid (Gate.nameByte r.px[n] = true) := hc
                clear hc
                go_wp2_with (go_at_call 78; refine (as_bool HC.out (l1Byte_any _ _)).mono ?_; rintro e w' ⟨rfl, rfl⟩)
                exact ⟨⟨n + 1, by omega, by go_num, by rw [HS.out, HC.out]; rfl, trivial⟩, by simp [intOf]; omega⟩
              · have HC : Hid (Gate.nameByte r.px[n] = false) := by simpa [Hid] using hc
                clear hc
                go_wp2_with (go_at_call 78; refine (as_bool HC.out (l1Byte_any _ _)).mono ?_; rintro e w' ⟨rfl, rfl⟩)
                go_ret
                exact ⟨ret_bool (HF.out.trans (HNo.out HC.out)).symm, HBW1.out⟩
            · have HA : Hid (Gate.allName r.px = true) := by unfold Gate.allName Hid; rw [← Gate.take_all r.px n (by omega)]; exact hall
              have hnI : ¬ (n : Int) < (r.px.size : Int) := by omega
              clear hall
              go_wp2_with fail
              go_ret
              exact ⟨ret_bool (HF.out.trans HA.out).symm, HBW1.out⟩
    · have HF : Hid (Gate.ruleOk r = false) := by unfold Hid Gate.ruleOk Gate.kindsOk; rw [ht, HT.out]; simp
      go_enter Tryd.func49, Tryd.ntmps49
      go_wp2_with (first | (go_at_call_of 74 (Value.string r.tm); refine (as_bool HT.out (l1NameOk_any r.tm _ hstm)).mono ?_; rintro e w' ⟨rfl, rfl⟩))
      go_ret
      exact ⟨ret_bool HF.out.symm, HB.out _⟩
  · rcases Gate.kd_cases r.tm with ht | ⟨ht, HT⟩ | ⟨ht, HT⟩
    · have HKD : Hid (Gate.kindsOk r = true) := by unfold Hid Gate.kindsOk; rw [HK.out, ht]; simp
      go_enter Tryd.func49, Tryd.ntmps49
      go_wp2_with (first | (go_at_call_of 74 (Value.string r.kd); refine (as_bool HK.out (l1NameOk_any r.kd _ hskd)).mono ?_; rintro e w' ⟨rfl, rfl⟩))
      obtain ⟨W0, hW0⟩ : ∃ W0, W0 = w.alloc (.cells #[.slice a r.vs.length cap, .string r.kd, .string r.tm, .string r.px] 38) := ⟨_, rfl⟩
      have HBW : Hid (Below w.heap.size w W0) := by unfold Hid; rw [hW0]; exact HB.out _
      have hX0 : ∀ o, W0.cell? ⟨w.heap.size, o, none⟩ = (#[.slice a r.vs.length cap, .string r.kd, .string r.tm, .string r.px] : Array Value)[o]? := by rw [hW0]; exact box_new w _ _
      have hz0 : w.heap.size < W0.heap.size := by rw [hW0]; simp
      rw [← hW0]
      clear hW0
      go_loopw [3] (fun i wr => ∃ k : Nat, k ≤ r.vs.length ∧ i = .int .i64 k ∧ Gate.up (Gate.verbAt r.vs) k = true ∧ Below W0.heap.size W0 wr) (fun i _ => r.vs.length - (intOf i).toNat)
      case atStart => exact ⟨0, Nat.zero_le _, rfl, rfl, Below.refl _ _⟩
      case round =>
        obtain ⟨k, hkl, rfl, hup, hB⟩ := hrel
        obtain ⟨W1, rfl⟩ : ∃ W1, W1 = wr := ⟨wr, rfl⟩
        have hsz := hB.size
        have hX := box_later hX0 hz0 hB
        have HB1 : Hid (Below W0.heap.size W0 W1) := hB
        have HBW1 : Hid (Below w.heap.size w W1) := HBW.out.trans (hB.mono (by omega))
        have hz1 : w.heap.size < W1.heap.size := by omega
        clear hX0 hB
        by_cases hlt : k < r.vs.length
        · obtain ⟨b, off, rfl, hb, c0⟩ := HI.out.load HBW1.out k hlt
          have hbr : b < W1.heap.size := by omega
          have hltI : (k : Int) < (r.vs.length : Int) := by omega
          have HNN : Hid (Gate.verbAt r.vs k = false → Gate.ruleOk r = false) := fun h => by rw [HG.out HKD.out, Gate.up_not hlt h]; rfl
          by_cases hn : Gate.verbOk r.vs[k] = true
          rotate_left
          · have HN : Hid ((decide (1 ≤ r.vs[k]) && decide (r.vs[k] ≤ 5)) = false) := by simpa [Hid, Gate.verbOk] using hn
            have HF : Hid (Gate.ruleOk r = false) := HNN.out (Gate.verbAt_no hlt (by simpa using hn))
            clear hn hup
            go_wp2_with fail
            go_quiet ((go_at_call 77; exact Calls.quiet_of_same (as_bool HN.out (l1In_any _ _ _ _))))
            go_wp2_with fail
            go_ret
            exact ⟨ret_bool HF.out.symm, below_drewN HBW1.out _⟩
          have HN : Hid ((decide (1 ≤ r.vs[k]) && decide (r.vs[k] ≤ 5)) = true) := hn
          by_cases hk0 : k = 0
          · have HS : Hid (Gate.up (Gate.verbAt r.vs) (k + 1) = true) := by subst hk0; unfold Hid; rw [Gate.up_succ, Gate.verbAt_first hlt hn]; rfl
            have hg : decide (0 < k) = false := by simp; omega
            clear hn hup hk0
            go_wp2_with fail
            go_quiet ((go_at_call 77; exact Calls.quiet_of_same (as_bool HN.out (l1In_any _ _ _ _))))
            go_wp2_with fail
            exact ⟨⟨k + 1, by omega, by go_num, HS.out, below_drewN HB1.out _⟩, by simp [intOf]; omega⟩
          · have hk1 : (0 : Int) ≤ (k : Int) - 1 := by omega
            have hk2 : (k : Int) - 1 < (r.vs.length : Int) := by omega
            have hg : decide (0 < k) = true := by simp; omega
            have hkm : k - 1 < r.vs.length := by omega
            obtain ⟨b', off', e', hb', d0⟩ := HI.out.load HBW1.out (k - 1) hkm
            simp only [Option.some.injEq, Addr.mk.injEq] at e'
            obtain ⟨rfl, rfl, _⟩ := e'
            have hva : Gate.verbAt r.vs k = decide (r.vs[k - 1] < r.vs[k]) := by unfold Gate.verbAt; rw [Gate.getD_at r.vs k _ hlt, Gate.getD_at r.vs (k - 1) _ hkm, hn, decide_eq_false hk0]; simp
            by_cases hls : r.vs[k - 1] < r.vs[k]
            · have hls' : decide (r.vs[k] ≤ r.vs[k - 1]) = false := by simp; omega
              have HS : Hid (Gate.up (Gate.verbAt r.vs) (k + 1) = true) := by unfold Hid; rw [Gate.up_succ, hup, hva, decide_eq_true hls]; rfl
              clear hls hn hup hk0 hva
              go_wp2_with fail
              go_quiet ((go_at_call 77; exact Calls.quiet_of_same (as_bool HN.out (l1In_any _ _ _ _))))
              go_wp2_with fail
              exact ⟨⟨k + 1, by omega, by go_num, HS.out, below_drewN HB1.out _⟩, by simp [intOf]; omega⟩
            · have hls' : decide (r.vs[k] ≤ r.vs[k - 1]) = true := by simp; omega
              have HF : Hid (Gate.ruleOk r = false) := HNN.out (by rw [hva, decide_eq_false hls])
              clear hls hn hup hk0 hva
              go_wp2_with fail
              go_quiet ((go_at_call 77; exact Calls.quiet_of_same (as_bool HN.out (l1In_any _ _ _ _))))
              go_wp2_with fail
              go_ret
              exact ⟨ret_bool HF.out.symm, below_drewN HBW1.out _⟩
        · have HF : Hid (Gate.ruleOk r = Gate.allName r.px) := by
            have e : k = r.vs.length := by omega
            subst e; rw [Hid, HG.out HKD.out, hup]; rfl
          have hltI : ¬ (k : Int) < (r.vs.length : Int) := by omega
          clear hup HG
          go_wp2_with fail
          go_loopw [4] (fun i wi => ∃ n : Nat, n ≤ r.px.size ∧ i = .int .i64 n ∧ (r.px.data.toList.take n).all Gate.nameByte = true ∧ wi = W1) (fun i _ => r.px.size - (intOf i).toNat)
          case atStart => exact ⟨0, Nat.zero_le _, rfl, rfl, rfl⟩
          case round =>
            obtain ⟨n, hn16, rfl, hall, rfl⟩ := hrel
            by_cases hn : n < r.px.size
            · have hnI : (n : Int) < (r.px.size : Int) := by omega
              have HS : Hid ((r.px.data.toList.take (n + 1)).all Gate.nameByte = (true && Gate.nameByte r.px[n])) := by rw [Gate.all_snoc _ r.px n hn, hall]; rfl
              have HNo : Hid (Gate.nameByte r.px[n] = false → Gate.allName r.px = false) := fun h => Gate.all_not Gate.nameByte r.px n hn h
              clear hall
              by_cases hc : Gate.nameByte r.px[n] = true
              · have HC : Hid (Gate.nameByte r.px[n] = true) := hc
                clear hc
                go_wp2_with (go_at_call 78; refine (as_bool HC.out (l1Byte_any _ _)).mono ?_; rintro e w' ⟨rfl, rfl⟩)
                exact ⟨⟨n + 1, by omega, by go_num, by rw [HS.out, HC.out]; rfl, trivial⟩, by simp [intOf]; omega⟩
              · have HC : Hid (Gate.nameByte r.px[n] = false) := by simpa [Hid] using hc
                clear hc
                go_wp2_with (go_at_call 78; refine (as_bool HC.out (l1Byte_any _ _)).mono ?_; rintro e w' ⟨rfl, rfl⟩)
                go_ret
                exact ⟨ret_bool (HF.out.trans (HNo.out HC.out)).symm, HBW1.out⟩
            · have HA : Hid (Gate.allName r.px = true) := by unfold Gate.allName Hid; rw [← Gate.take_all r.px n (by omega)]; exact hall
              have hnI : ¬ (n : Int) < (r.px.size : Int) := by omega
              clear hall
              go_wp2_with fail
              go_ret
              exact ⟨ret_bool (HF.out.trans HA.out).symm, HBW1.out⟩
    · have HKD : Hid (Gate.kindsOk r = true) := by unfold Hid Gate.kindsOk; rw [HK.out, HT.out]; simp
      go_enter Tryd.func49, Tryd.ntmps49
      go_wp2_with (first | (go_at_call_of 74 (Value.string r.kd); refine (as_bool HK.out (l1NameOk_any r.kd _ hskd)).mono ?_; rintro e w' ⟨rfl, rfl⟩) | (go_at_call_of 74 (Value.string r.tm); refine (as_bool HT.out (l1NameOk_any r.tm _ hstm)).mono ?_; rintro e w' ⟨rfl, rfl⟩))
      obtain ⟨W0, hW0⟩ : ∃ W0, W0 = w.alloc (.cells #[.slice a r.vs.length cap, .string r.kd, .string r.tm, .string r.px] 38) := ⟨_, rfl⟩
      have HBW : Hid (Below w.heap.size w W0) := by unfold Hid; rw [hW0]; exact HB.out _
      have hX0 : ∀ o, W0.cell? ⟨w.heap.size, o, none⟩ = (#[.slice a r.vs.length cap, .string r.kd, .string r.tm, .string r.px] : Array Value)[o]? := by rw [hW0]; exact box_new w _ _
      have hz0 : w.heap.size < W0.heap.size := by rw [hW0]; simp
      rw [← hW0]
      clear hW0
      go_loopw [3] (fun i wr => ∃ k : Nat, k ≤ r.vs.length ∧ i = .int .i64 k ∧ Gate.up (Gate.verbAt r.vs) k = true ∧ Below W0.heap.size W0 wr) (fun i _ => r.vs.length - (intOf i).toNat)
      case atStart => exact ⟨0, Nat.zero_le _, rfl, rfl, Below.refl _ _⟩
      case round =>
        obtain ⟨k, hkl, rfl, hup, hB⟩ := hrel
        obtain ⟨W1, rfl⟩ : ∃ W1, W1 = wr := ⟨wr, rfl⟩
        have hsz := hB.size
        have hX := box_later hX0 hz0 hB
        have HB1 : Hid (Below W0.heap.size W0 W1) := hB
        have HBW1 : Hid (Below w.heap.size w W1) := HBW.out.trans (hB.mono (by omega))
        have hz1 : w.heap.size < W1.heap.size := by omega
        clear hX0 hB
        by_cases hlt : k < r.vs.length
        · obtain ⟨b, off, rfl, hb, c0⟩ := HI.out.load HBW1.out k hlt
          have hbr : b < W1.heap.size := by omega
          have hltI : (k : Int) < (r.vs.length : Int) := by omega
          have HNN : Hid (Gate.verbAt r.vs k = false → Gate.ruleOk r = false) := fun h => by rw [HG.out HKD.out, Gate.up_not hlt h]; rfl
          by_cases hn : Gate.verbOk r.vs[k] = true
          rotate_left
          · have HN : Hid ((decide (1 ≤ r.vs[k]) && decide (r.vs[k] ≤ 5)) = false) := by simpa [Hid, Gate.verbOk] using hn
            have HF : Hid (Gate.ruleOk r = false) := HNN.out (Gate.verbAt_no hlt (by simpa using hn))
            clear hn hup
            go_wp2_with fail
            go_quiet ((go_at_call 77; exact Calls.quiet_of_same (as_bool HN.out (l1In_any _ _ _ _))))
            go_wp2_with fail
            go_ret
            exact ⟨ret_bool HF.out.symm, below_drewN HBW1.out _⟩
          have HN : Hid ((decide (1 ≤ r.vs[k]) && decide (r.vs[k] ≤ 5)) = true) := hn
          by_cases hk0 : k = 0
          · have HS : Hid (Gate.up (Gate.verbAt r.vs) (k + 1) = true) := by subst hk0; unfold Hid; rw [Gate.up_succ, Gate.verbAt_first hlt hn]; rfl
            have hg : decide (0 < k) = false := by simp; omega
            clear hn hup hk0
            go_wp2_with fail
            go_quiet ((go_at_call 77; exact Calls.quiet_of_same (as_bool HN.out (l1In_any _ _ _ _))))
            go_wp2_with fail
            exact ⟨⟨k + 1, by omega, by go_num, HS.out, below_drewN HB1.out _⟩, by simp [intOf]; omega⟩
          · have hk1 : (0 : Int) ≤ (k : Int) - 1 := by omega
            have hk2 : (k : Int) - 1 < (r.vs.length : Int) := by omega
            have hg : decide (0 < k) = true := by simp; omega
            have hkm : k - 1 < r.vs.length := by omega
            obtain ⟨b', off', e', hb', d0⟩ := HI.out.load HBW1.out (k - 1) hkm
            simp only [Option.some.injEq, Addr.mk.injEq] at e'
            obtain ⟨rfl, rfl, _⟩ := e'
            have hva : Gate.verbAt r.vs k = decide (r.vs[k - 1] < r.vs[k]) := by unfold Gate.verbAt; rw [Gate.getD_at r.vs k _ hlt, Gate.getD_at r.vs (k - 1) _ hkm, hn, decide_eq_false hk0]; simp
            by_cases hls : r.vs[k - 1] < r.vs[k]
            · have hls' : decide (r.vs[k] ≤ r.vs[k - 1]) = false := by simp; omega
              have HS : Hid (Gate.up (Gate.verbAt r.vs) (k + 1) = true) := by unfold Hid; rw [Gate.up_succ, hup, hva, decide_eq_true hls]; rfl
              clear hls hn hup hk0 hva
              go_wp2_with fail
              go_quiet ((go_at_call 77; exact Calls.quiet_of_same (as_bool HN.out (l1In_any _ _ _ _))))
              go_wp2_with fail
              exact ⟨⟨k + 1, by omega, by go_num, HS.out, below_drewN HB1.out _⟩, by simp [intOf]; omega⟩
            · have hls' : decide (r.vs[k] ≤ r.vs[k - 1]) = true := by simp; omega
              have HF : Hid (Gate.ruleOk r = false) := HNN.out (by rw [hva, decide_eq_false hls])
              clear hls hn hup hk0 hva
              go_wp2_with fail
              go_quiet ((go_at_call 77; exact Calls.quiet_of_same (as_bool HN.out (l1In_any _ _ _ _))))
              go_wp2_with fail
              go_ret
              exact ⟨ret_bool HF.out.symm, below_drewN HBW1.out _⟩
        · have HF : Hid (Gate.ruleOk r = Gate.allName r.px) := by
            have e : k = r.vs.length := by omega
            subst e; rw [Hid, HG.out HKD.out, hup]; rfl
          have hltI : ¬ (k : Int) < (r.vs.length : Int) := by omega
          clear hup HG
          go_wp2_with fail
          go_loopw [4] (fun i wi => ∃ n : Nat, n ≤ r.px.size ∧ i = .int .i64 n ∧ (r.px.data.toList.take n).all Gate.nameByte = true ∧ wi = W1) (fun i _ => r.px.size - (intOf i).toNat)
          case atStart => exact ⟨0, Nat.zero_le _, rfl, rfl, rfl⟩
          case round =>
            obtain ⟨n, hn16, rfl, hall, rfl⟩ := hrel
            by_cases hn : n < r.px.size
            · have hnI : (n : Int) < (r.px.size : Int) := by omega
              have HS : Hid ((r.px.data.toList.take (n + 1)).all Gate.nameByte = (true && Gate.nameByte r.px[n])) := by rw [Gate.all_snoc _ r.px n hn, hall]; rfl
              have HNo : Hid (Gate.nameByte r.px[n] = false → Gate.allName r.px = false) := fun h => Gate.all_not Gate.nameByte r.px n hn h
              clear hall
              by_cases hc : Gate.nameByte r.px[n] = true
              · have HC : Hid (Gate.nameByte r.px[n] = true) := hc
                clear hc
                go_wp2_with (go_at_call 78; refine (as_bool HC.out (l1Byte_any _ _)).mono ?_; rintro e w' ⟨rfl, rfl⟩)
                exact ⟨⟨n + 1, by omega, by go_num, by rw [HS.out, HC.out]; rfl, trivial⟩, by simp [intOf]; omega⟩
              · have HC : Hid (Gate.nameByte r.px[n] = false) := by simpa [Hid] using hc
                clear hc
                go_wp2_with (go_at_call 78; refine (as_bool HC.out (l1Byte_any _ _)).mono ?_; rintro e w' ⟨rfl, rfl⟩)
                go_ret
                exact ⟨ret_bool (HF.out.trans (HNo.out HC.out)).symm, HBW1.out⟩
            · have HA : Hid (Gate.allName r.px = true) := by unfold Gate.allName Hid; rw [← Gate.take_all r.px n (by omega)]; exact hall
              have hnI : ¬ (n : Int) < (r.px.size : Int) := by omega
              clear hall
              go_wp2_with fail
              go_ret
              exact ⟨ret_bool (HF.out.trans HA.out).symm, HBW1.out⟩
    · have HF : Hid (Gate.ruleOk r = false) := by unfold Hid Gate.ruleOk Gate.kindsOk; rw [ht, HT.out]; simp
      go_enter Tryd.func49, Tryd.ntmps49
      go_wp2_with (first | (go_at_call_of 74 (Value.string r.kd); refine (as_bool HK.out (l1NameOk_any r.kd _ hskd)).mono ?_; rintro e w' ⟨rfl, rfl⟩) | (go_at_call_of 74 (Value.string r.tm); refine (as_bool HT.out (l1NameOk_any r.tm _ hstm)).mono ?_; rintro e w' ⟨rfl, rfl⟩))
      go_ret
      exact ⟨ret_bool HF.out.symm, HB.out _⟩
  · have HF : Hid (Gate.ruleOk r = false) := by unfold Hid Gate.ruleOk Gate.kindsOk; rw [hk, HK.out]; simp
    go_enter Tryd.func49, Tryd.ntmps49
    go_wp2_with (first | (go_at_call_of 74 (Value.string r.kd); refine (as_bool HK.out (l1NameOk_any r.kd _ hskd)).mono ?_; rintro e w' ⟨rfl, rfl⟩))
    go_ret
    exact ⟨ret_bool HF.out.symm, HB.out _⟩

end Go.Proofs.YtimhinpekngceaaDoor

namespace Go.Proofs.YtimhinpekngceaaDoor
open Go.RowKit

theorem Gate.allows_bits {ts : List Tm} {r : Rl} {x : Ac} (hv : Gate.verbsOk r.vs = true) : (Gate.verbOk x.vb && (Gate.meets ts r x.kd x.tm x.nm && Gate.hasVerb r.vs x.vb)) = Gate.allowsOf ts r x := by
  unfold Gate.allowsOf
  cases hh : Gate.hasVerb r.vs x.vb
  · simp
  · have h5 := Gate.hasVerb_given hv _ hh
    have : Gate.verbOk x.vb = true := by simpa [Gate.verbOk] using h5
    rw [this]; simp

theorem Gate.ruleOk_verbs {r : Rl} (h : Gate.ruleOk r = true) : Gate.verbsOk r.vs = true := by
  unfold Gate.ruleOk at h; simp only [Bool.and_eq_true] at h; exact h.2.1

set_option maxHeartbeats 4000000 in
theorem implAllows_any (ta : Option Addr) (tcap : Nat) (ts : List Tm) (r : Rl) (a : Option Addr) (cap : Nat) (x : Ac) (w : World) (hw : TmsAt w ta ts) (hm : r.Small) (hi : IntsAt w a r.vs) (hx : x.Small) :
    Calls Tryd.prog 20 #[.slice ta ts.length tcap, .agg (r.cells a cap), .agg x.cells] w fun e w' => e = .returned (.bool (Gate.allows ts r x)) ∧ Below w.heap.size w w' := by
  have HB : Hid (∀ o1 o2, Below w.heap.size w ((w.alloc o1).alloc o2)) := fun _ _ => below2' _ _ _
  have HT : Hid (TmsAt w ta ts) := hw
  have HI : Hid (IntsAt w a r.vs) := hi
  have HM : Hid (r.Small ∧ x.Small) := ⟨hm, hx⟩
  clear hw hi hm hx
  by_cases hok : Gate.teamsOk ts = true
  rotate_left
  · have HK : Hid (Gate.teamsOk ts = false) := by simpa [Hid] using hok
    have HF : Hid (Gate.allows ts r x = false) := by unfold Hid Gate.allows; rw [HK.out]; rfl
    clear hok
    unfold Rl.cells Ac.cells
    go_enter Tryd.func20, Tryd.ntmps20
    go_wp2_with fail
    refine (as_bool HK.out (implTeamsOk_any _ _ ts _ (HT.out.mono (HB.out _ _)))).mono ?_
    rintro e w1 ⟨rfl, hb1⟩
    have HB1 : Hid (Below w.heap.size w w1) := (HB.out _ _).trans (hb1.mono (by simp; omega))
    clear hb1
    go_wp2_with fail
    go_ret
    exact ⟨ret_bool HF.out.symm, HB1.out⟩
  have HK : Hid (Gate.teamsOk ts = true) := hok
  clear hok
  by_cases hr : Gate.ruleOk r = true
  rotate_left
  · have HR : Hid (Gate.ruleOk r = false) := by simpa [Hid] using hr
    have HF : Hid (Gate.allows ts r x = false) := by unfold Hid Gate.allows; rw [HR.out]; simp
    clear hr
    unfold Rl.cells Ac.cells
    go_enter Tryd.func20, Tryd.ntmps20
    go_wp2_with fail
    refine (as_bool HK.out (implTeamsOk_any _ _ ts _ (HT.out.mono (HB.out _ _)))).mono ?_
    rintro e w1 ⟨rfl, hb1⟩
    have HB1 : Hid (Below w.heap.size w w1) := (HB.out _ _).trans (hb1.mono (by simp; omega))
    have hX1 := box_later (box_later (box_new w _ _) (by simp) ((Below.refl _ _).alloc (Nat.le_refl _) _)) (by simp; omega) hb1
    have hz : w.heap.size + 1 < w1.heap.size := by have := hb1.size; simp at this; omega
    clear hb1
    go_wp2_with fail
    refine (as_bool HR.out (isRule_any r _ _ _ HM.out.1 (HI.out.mono HB1.out))).mono ?_
    rintro e w2 ⟨rfl, hb2⟩
    have HB2 : Hid (Below w.heap.size w w2) := HB1.out.trans (hb2.mono HB1.out.size)
    clear hb2
    go_wp2_with fail
    go_ret
    exact ⟨ret_bool HF.out.symm, HB2.out⟩
  have HR : Hid (Gate.ruleOk r = true) := hr
  have HF : Hid (Gate.allows ts r x = Gate.allowsOf ts r x) := by unfold Hid Gate.allows; rw [HR.out, HK.out]; rfl
  have HV : Hid (Gate.verbsOk r.vs = true) := Gate.ruleOk_verbs hr
  clear hr
  unfold Rl.cells Ac.cells
  go_enter Tryd.func20, Tryd.ntmps20
  go_wp2_with fail
  refine (as_bool HK.out (implTeamsOk_any _ _ ts _ (HT.out.mono (HB.out _ _)))).mono ?_
  rintro e w1 ⟨rfl, hb1⟩
  have HB1 : Hid (Below w.heap.size w w1) := (HB.out _ _).trans (hb1.mono (by simp; omega))
  have hX1 := box_later (box_later (box_new w _ _) (by simp) ((Below.refl _ _).alloc (Nat.le_refl _) _)) (by simp; omega) hb1
  have hY1 := box_later (box_new2 w _ _ _) (by simp) hb1
  have hz : w.heap.size + 1 < w1.heap.size := by have := hb1.size; simp at this; omega
  clear hb1
  go_wp2_with fail
  refine (as_bool HR.out (isRule_any r _ _ _ HM.out.1 (HI.out.mono HB1.out))).mono ?_
  rintro e w2 ⟨rfl, hb2⟩
  have HB2 : Hid (Below w.heap.size w w2) := HB1.out.trans (hb2.mono HB1.out.size)
  have hX2 := box_later hX1 (by omega) hb2
  have hY2 := box_later hY1 hz hb2
  have hz2 : w.heap.size + 1 < w2.heap.size := by have := hb2.size; omega
  clear hb2 hX1 hY1 hz
  go_wp2_with fail
  have hB := HB2.out.drew
  have hX := box_later hX2 (by omega) (Below.refl w2.heap.size w2).drew
  have hY := box_later hY2 hz2 (Below.refl w2.heap.size w2).drew
  have hz : w.heap.size + 1 < w2.drew.heap.size := hz2
  clear hX2 hY2 hz2
  go_region_held3 (fun w' => (∀ j, w'.cell? ⟨w.heap.size, j, none⟩ = (#[.slice a r.vs.length cap, .string r.kd, .string r.tm, .string r.px] : Array Value)[j]?) ∧ ∀ j, w'.cell? ⟨w.heap.size + 1, j, none⟩ = (#[.int .i64 x.vb, .string x.kd, .string x.tm, .string x.nm] : Array Value)[j]?) (exact ⟨hX, hY⟩) (first
    | (go_at_call 45; refine (rightOf_any _ _ ts r _ _ _ (by exact HI.out.mono hB) HV.out).mono ?_; rintro e w3 ⟨rfl, hb⟩; have hX := box_later hX (Nat.lt_of_succ_lt hz) hb; have hY := box_later hY hz hb; have hB := hB.trans (hb.mono hB.size); have hz := Nat.lt_of_lt_of_le hz hb.size; clear hb)
    | (go_at_call 71; refine (verbsFor_any _ _ ts r _ _ x.kd x.tm x.nm _ (by exact HT.out.mono hB) HM.out.1 HM.out.2.nm).mono ?_; rintro e w4 ⟨rfl, hb⟩; have hX := box_later hX (Nat.lt_of_succ_lt hz) hb; have hY := box_later hY hz hb; have hB := hB.trans (hb.mono hB.size); have hz := Nat.lt_of_lt_of_le hz hb.size; clear hb)
    | (go_at_call 46; refine (has_any _ _ _).mono ?_; rintro e w5 ⟨rfl, rfl⟩))
  go_wp2_with fail
  go_ret
  exact ⟨ret_bool (by rw [HF.out]; exact Gate.allows_bits HV.out), hB⟩

end Go.Proofs.YtimhinpekngceaaDoor
