import Derived.Test.YtpmlngcljbkchaaGreatM16
namespace Go.Proofs.YtpmlngcljbkchaaGreat
open Go.RowKit

theorem Gate.l1In_verb (v : Int) : (decide (1 ≤ v) && decide (v ≤ 5)) = Gate.verbOk v := rfl

set_option maxHeartbeats 4000000 in
theorem l4RuleOk_any (r : Rl) (a : Option Addr) (cap : Nat) (w : World) (hm : r.Small) (hw : IntsAt w a r.vs) :
    Calls Tryz.prog 44 #[.agg (r.cells a cap)] w fun e w' => e = .returned (.bool (Gate.ruleOk r)) ∧ Below w.heap.size w w' := by
  have hskd := hm.kd
  have hstm := hm.tm
  have hpx := hm.px
  have hvl := hw.len
  unfold maxLen at hpx hvl
  unfold Rl.cells
  have HB : Hid (∀ ob, Below w.heap.size w (w.alloc ob)) := fun ob => (Below.refl _ _).alloc (Nat.le_refl _) _
  have HI : Hid (IntsAt w a r.vs) := hw
  clear hw hm
  by_cases hv0 : r.vs.length = 0
  · have HF : Hid (Gate.ruleOk r = false) := by unfold Hid Gate.ruleOk Gate.verbsOk; rw [decide_eq_false (show ¬ 0 < r.vs.length by omega)]; simp
    have hvI : ((r.vs.length : Int) == 0) = true := by rw [hv0]; rfl
    go_enter Tryz.func44, Tryz.ntmps44
    go_wp2_with fail
    go_ret
    exact ⟨ret_bool HF.out.symm, HB.out _⟩
  have hvI : ((r.vs.length : Int) == 0) = false := by rw [beq_eq_false_iff_ne]; omega
  by_cases h16 : r.px.size ≤ 16
  rotate_left
  · have HF : Hid (Gate.ruleOk r = false) := by unfold Hid Gate.ruleOk; rw [decide_eq_false h16]; simp
    have h16I : decide (16 < (r.px.size : Int)) = true := by simp; omega
    clear hv0
    go_enter Tryz.func44, Tryz.ntmps44
    go_wp2_with fail
    go_ret
    exact ⟨ret_bool HF.out.symm, HB.out _⟩
  have h16I : decide (16 < (r.px.size : Int)) = false := by simp; omega
  have HG : Hid (Gate.kindsOk r = true → Gate.ruleOk r = (Gate.up (Gate.verbAt r.vs) r.vs.length && Gate.allName r.px)) := fun h => by
    unfold Gate.ruleOk Gate.verbsOk; rw [h, decide_eq_true h16, decide_eq_true (show 0 < r.vs.length by omega)]; simp
  clear hv0
  rcases Gate.kd_cases r.kd with hk | ⟨hk, HK⟩ | ⟨hk, HK⟩
  · rcases Gate.kd_cases r.tm with ht | ⟨ht, HT⟩ | ⟨ht, HT⟩
    · have HKD : Hid (Gate.kindsOk r = true) := by unfold Hid Gate.kindsOk; rw [hk, ht]; simp
      go_enter Tryz.func44, Tryz.ntmps44
      go_wp2_with fail
      obtain ⟨W0, hW0⟩ : ∃ W0, W0 = w.alloc (.cells #[.slice a r.vs.length cap, .string r.kd, .string r.tm, .string r.px] 42) := ⟨_, rfl⟩
      have HBW : Hid (Below w.heap.size w W0) := by unfold Hid; rw [hW0]; exact HB.out _
      have hX0 : ∀ o, W0.cell? ⟨w.heap.size, o, none⟩ = (#[.slice a r.vs.length cap, .string r.kd, .string r.tm, .string r.px] : Array Value)[o]? := by rw [hW0]; exact box_new w _ _
      have hz0 : w.heap.size < W0.heap.size := by rw [hW0]; simp
      rw [← hW0]
      clear hW0
      go_loopw [3] (fun i wr => ∃ k : Nat, k ≤ r.vs.length ∧ i = .int .i64 k ∧ Gate.up (Gate.verbAt r.vs) k = true ∧ Below W0.heap.size W0 wr) (fun i _ => r.vs.length - (intOf i).toNat)
      case atStart => exact ⟨0, Nat.zero_le _, rfl, rfl, Below.refl _ _⟩
      case round =>
        obtain ⟨k, hkl, rfl, hup, hB⟩ := hrel
        obtain ⟨W1, rfl⟩ : ∃ W1, W1 = wr := ⟨wr, rfl⟩
        have hsz := hB.size
        have hX := box_later hX0 hz0 hB
        have HB1 : Hid (Below W0.heap.size W0 W1) := hB
        have HBW1 : Hid (Below w.heap.size w W1) := HBW.out.trans (hB.mono (by omega))
        have hz1 : w.heap.size < W1.heap.size := by omega
        clear hX0 hB
        by_cases hlt : k < r.vs.length
        · obtain ⟨b, off, rfl, hb, c0⟩ := HI.out.load HBW1.out k hlt
          have hbr : b < W1.heap.size := by omega
          have hltI : (k : Int) < (r.vs.length : Int) := by omega
          have HNN : Hid (Gate.verbAt r.vs k = false → Gate.ruleOk r = false) := fun h => by rw [HG.out HKD.out, Gate.up_not hlt h]; rfl
          by_cases hn : Gate.verbOk r.vs[k] = true
          rotate_left
          · have HN : Hid ((decide (1 ≤ r.vs[k]) && decide (r.vs[k] ≤ 5)) = false) := by simpa [Hid, Gate.verbOk] using hn
            have HF : Hid (Gate.ruleOk r = false) := HNN.out (Gate.verbAt_no hlt (by simpa using hn))
            clear hn hup
            go_wp2_with fail
            go_quiet ((go_at_call 38; exact Calls.quiet_of_same (as_bool HN.out (l1In_any _ _ _ _))))
            go_wp2_with fail
            go_ret
            exact ⟨ret_bool HF.out.symm, below_drewN HBW1.out _⟩
          have HN : Hid ((decide (1 ≤ r.vs[k]) && decide (r.vs[k] ≤ 5)) = true) := hn
          by_cases hk0 : k = 0
          · have HS : Hid (Gate.up (Gate.verbAt r.vs) (k + 1) = true) := by subst hk0; unfold Hid; rw [Gate.up_succ, Gate.verbAt_first hlt hn]; rfl
            have hg : decide (0 < k) = false := by simp; omega
            clear hn hup hk0
            go_wp2_with fail
            go_quiet ((go_at_call 38; exact Calls.quiet_of_same (as_bool HN.out (l1In_any _ _ _ _))))
            go_wp2_with fail
            exact ⟨⟨k + 1, by omega, by go_num, HS.out, below_drewN HB1.out _⟩, by simp [intOf]; omega⟩
          · have hk1 : (0 : Int) ≤ (k : Int) - 1 := by omega
            have hk2 : (k : Int) - 1 < (r.vs.length : Int) := by omega
            have hg : decide (0 < k) = true := by simp; omega
            have hkm : k - 1 < r.vs.length := by omega
            obtain ⟨b', off', e', hb', d0⟩ := HI.out.load HBW1.out (k - 1) hkm
            simp only [Option.some.injEq, Addr.mk.injEq] at e'
            obtain ⟨rfl, rfl, _⟩ := e'
            have hva : Gate.verbAt r.vs k = decide (r.vs[k - 1] < r.vs[k]) := by unfold Gate.verbAt; rw [Gate.getD_at r.vs k _ hlt, Gate.getD_at r.vs (k - 1) _ hkm, hn, decide_eq_false hk0]; simp
            by_cases hls : r.vs[k - 1] < r.vs[k]
            · have hls' : decide (r.vs[k] ≤ r.vs[k - 1]) = false := by simp; omega
              have HS : Hid (Gate.up (Gate.verbAt r.vs) (k + 1) = true) := by unfold Hid; rw [Gate.up_succ, hup, hva, decide_eq_true hls]; rfl
              clear hls hn hup hk0 hva
              go_wp2_with fail
              go_quiet ((go_at_call 38; exact Calls.quiet_of_same (as_bool HN.out (l1In_any _ _ _ _))))
              go_wp2_with fail
              exact ⟨⟨k + 1, by omega, by go_num, HS.out, below_drewN HB1.out _⟩, by simp [intOf]; omega⟩
            · have hls' : decide (r.vs[k] ≤ r.vs[k - 1]) = true := by simp; omega
              have HF : Hid (Gate.ruleOk r = false) := HNN.out (by rw [hva, decide_eq_false hls])
              clear hls hn hup hk0 hva
              go_wp2_with fail
              go_quiet ((go_at_call 38; exact Calls.quiet_of_same (as_bool HN.out (l1In_any _ _ _ _))))
              go_wp2_with fail
              go_ret
              exact ⟨ret_bool HF.out.symm, below_drewN HBW1.out _⟩
        · have HF : Hid (Gate.ruleOk r = Gate.allName r.px) := by
            have e : k = r.vs.length := by omega
            subst e; rw [Hid, HG.out HKD.out, hup]; rfl
          have hltI : ¬ (k : Int) < (r.vs.length : Int) := by omega
          clear hup HG
          go_wp2_with fail
          go_loopw [4] (fun i wi => ∃ n : Nat, n ≤ r.px.size ∧ i = .int .i64 n ∧ (r.px.data.toList.take n).all Gate.nameByte = true ∧ wi = W1) (fun i _ => r.px.size - (intOf i).toNat)
          case atStart => exact ⟨0, Nat.zero_le _, rfl, rfl, rfl⟩
          case round =>
            obtain ⟨n, hn16, rfl, hall, rfl⟩ := hrel
            by_cases hn : n < r.px.size
            · have hnI : (n : Int) < (r.px.size : Int) := by omega
              have HS : Hid ((r.px.data.toList.take (n + 1)).all Gate.nameByte = (true && Gate.nameByte r.px[n])) := by rw [Gate.all_snoc _ r.px n hn, hall]; rfl
              have HNo : Hid (Gate.nameByte r.px[n] = false → Gate.allName r.px = false) := fun h => Gate.all_not Gate.nameByte r.px n hn h
              clear hall
              by_cases hc : Gate.nameByte r.px[n] = true
              · have HC : Hid (Gate.nameByte r.px[n] = true) := hc
                clear hc
                go_wp2_with (go_at_call 64; refine (as_bool HC.out (l1Byte_any _ _)).mono ?_; rintro e w' ⟨rfl, rfl⟩)
                exact ⟨⟨n + 1, by omega, by go_num, by rw [HS.out, HC.out]; rfl, trivial⟩, by simp [intOf]; omega⟩
              · have HC : Hid (Gate.nameByte r.px[n] = false) := by simpa [Hid] using hc
                clear hc
                go_wp2_with (go_at_call 64; refine (as_bool HC.out (l1Byte_any _ _)).mono ?_; rintro e w' ⟨rfl, rfl⟩)
                go_ret
                exact ⟨ret_bool (HF.out.trans (HNo.out HC.out)).symm, HBW1.out⟩
            · have HA : Hid (Gate.allName r.px = true) := by unfold Gate.allName Hid; rw [← Gate.take_all r.px n (by omega)]; exact hall
              have hnI : ¬ (n : Int) < (r.px.size : Int) := by omega
              clear hall
              go_wp2_with fail
              go_ret
              exact ⟨ret_bool (HF.out.trans HA.out).symm, HBW1.out⟩
    · have HKD : Hid (Gate.kindsOk r = true) := by unfold Hid Gate.kindsOk; rw [hk, HT.out]; simp
      go_enter Tryz.func44, Tryz.ntmps44
      go_wp2_with (first | (go_at_call_of 37 (Value.string r.tm); refine (as_bool HT.out (l1NameOk_any r.tm _ hstm)).mono ?_; rintro e w' ⟨rfl, rfl⟩))
      obtain ⟨W0, hW0⟩ : ∃ W0, W0 = w.alloc (.cells #[.slice a r.vs.length cap, .string r.kd, .string r.tm, .string r.px] 42) := ⟨_, rfl⟩
      have HBW : Hid (Below w.heap.size w W0) := by unfold Hid; rw [hW0]; exact HB.out _
      have hX0 : ∀ o, W0.cell? ⟨w.heap.size, o, none⟩ = (#[.slice a r.vs.length cap, .string r.kd, .string r.tm, .string r.px] : Array Value)[o]? := by rw [hW0]; exact box_new w _ _
      have hz0 : w.heap.size < W0.heap.size := by rw [hW0]; simp
      rw [← hW0]
      clear hW0
      go_loopw [3] (fun i wr => ∃ k : Nat, k ≤ r.vs.length ∧ i = .int .i64 k ∧ Gate.up (Gate.verbAt r.vs) k = true ∧ Below W0.heap.size W0 wr) (fun i _ => r.vs.length - (intOf i).toNat)
      case atStart => exact ⟨0, Nat.zero_le _, rfl, rfl, Below.refl _ _⟩
      case round =>
        obtain ⟨k, hkl, rfl, hup, hB⟩ := hrel
        obtain ⟨W1, rfl⟩ : ∃ W1, W1 = wr := ⟨wr, rfl⟩
        have hsz := hB.size
        have hX := box_later hX0 hz0 hB
        have HB1 : Hid (Below W0.heap.size W0 W1) := hB
        have HBW1 : Hid (Below w.heap.size w W1) := HBW.out.trans (hB.mono (by omega))
        have hz1 : w.heap.size < W1.heap.size := by omega
        clear hX0 hB
        by_cases hlt : k < r.vs.length
        · obtain ⟨b, off, rfl, hb, c0⟩ := HI.out.load HBW1.out k hlt
          have hbr : b < W1.heap.size := by omega
          have hltI : (k : Int) < (r.vs.length : Int) := by omega
          have HNN : Hid (Gate.verbAt r.vs k = false → Gate.ruleOk r = false) := fun h => by rw [HG.out HKD.out, Gate.up_not hlt h]; rfl
          by_cases hn : Gate.verbOk r.vs[k] = true
          rotate_left
          · have HN : Hid ((decide (1 ≤ r.vs[k]) && decide (r.vs[k] ≤ 5)) = false) := by simpa [Hid, Gate.verbOk] using hn
            have HF : Hid (Gate.ruleOk r = false) := HNN.out (Gate.verbAt_no hlt (by simpa using hn))
            clear hn hup
            go_wp2_with fail
            go_quiet ((go_at_call 38; exact Calls.quiet_of_same (as_bool HN.out (l1In_any _ _ _ _))))
            go_wp2_with fail
            go_ret
            exact ⟨ret_bool HF.out.symm, below_drewN HBW1.out _⟩
          have HN : Hid ((decide (1 ≤ r.vs[k]) && decide (r.vs[k] ≤ 5)) = true) := hn
          by_cases hk0 : k = 0
          · have HS : Hid (Gate.up (Gate.verbAt r.vs) (k + 1) = true) := by subst hk0; unfold Hid; rw [Gate.up_succ, Gate.verbAt_first hlt hn]; rfl
            have hg : decide (0 < k) = false := by simp; omega
            clear hn hup hk0
            go_wp2_with fail
            go_quiet ((go_at_call 38; exact Calls.quiet_of_same (as_bool HN.out (l1In_any _ _ _ _))))
            go_wp2_with fail
            exact ⟨⟨k + 1, by omega, by go_num, HS.out, below_drewN HB1.out _⟩, by simp [intOf]; omega⟩
          · have hk1 : (0 : Int) ≤ (k : Int) - 1 := by omega
            have hk2 : (k : Int) - 1 < (r.vs.length : Int) := by omega
            have hg : decide (0 < k) = true := by simp; omega
            have hkm : k - 1 < r.vs.length := by omega
            obtain ⟨b', off', e', hb', d0⟩ := HI.out.load HBW1.out (k - 1) hkm
            simp only [Option.some.injEq, Addr.mk.injEq] at e'
            obtain ⟨rfl, rfl, _⟩ := e'
            have hva : Gate.verbAt r.vs k = decide (r.vs[k - 1] < r.vs[k]) := by unfold Gate.verbAt; rw [Gate.getD_at r.vs k _ hlt, Gate.getD_at r.vs (k - 1) _ hkm, hn, decide_eq_false hk0]; simp
            by_cases hls : r.vs[k - 1] < r.vs[k]
            · have hls' : decide (r.vs[k] ≤ r.vs[k - 1]) = false := by simp; omega
              have HS : Hid (Gate.up (Gate.verbAt r.vs) (k + 1) = true) := by unfold Hid; rw [Gate.up_succ, hup, hva, decide_eq_true hls]; rfl
              clear hls hn hup hk0 hva
              go_wp2_with fail
              go_quiet ((go_at_call 38; exact Calls.quiet_of_same (as_bool HN.out (l1In_any _ _ _ _))))
              go_wp2_with fail
              exact ⟨⟨k + 1, by omega, by go_num, HS.out, below_drewN HB1.out _⟩, by simp [intOf]; omega⟩
            · have hls' : decide (r.vs[k] ≤ r.vs[k - 1]) = true := by simp; omega
              have HF : Hid (Gate.ruleOk r = false) := HNN.out (by rw [hva, decide_eq_false hls])
              clear hls hn hup hk0 hva
              go_wp2_with fail
              go_quiet ((go_at_call 38; exact Calls.quiet_of_same (as_bool HN.out (l1In_any _ _ _ _))))
              go_wp2_with fail
              go_ret
              exact ⟨ret_bool HF.out.symm, below_drewN HBW1.out _⟩
        · have HF : Hid (Gate.ruleOk r = Gate.allName r.px) := by
            have e : k = r.vs.length := by omega
            subst e; rw [Hid, HG.out HKD.out, hup]; rfl
          have hltI : ¬ (k : Int) < (r.vs.length : Int) := by omega
          clear hup HG
          go_wp2_with fail
          go_loopw [4] (fun i wi => ∃ n : Nat, n ≤ r.px.size ∧ i = .int .i64 n ∧ (r.px.data.toList.take n).all Gate.nameByte = true ∧ wi = W1) (fun i _ => r.px.size - (intOf i).toNat)
          case atStart => exact ⟨0, Nat.zero_le _, rfl, rfl, rfl⟩
          case round =>
            obtain ⟨n, hn16, rfl, hall, rfl⟩ := hrel
            by_cases hn : n < r.px.size
            · have hnI : (n : Int) < (r.px.size : Int) := by omega
              have HS : Hid ((r.px.data.toList.take (n + 1)).all Gate.nameByte = (true && Gate.nameByte r.px[n])) := by rw [Gate.all_snoc _ r.px n hn, hall]; rfl
              have HNo : Hid (Gate.nameByte r.px[n] = false → Gate.allName r.px = false) := fun h => Gate.all_not Gate.nameByte r.px n hn h
              clear hall
              by_cases hc : Gate.nameByte r.px[n] = true
              · have HC : Hid (Gate.nameByte r.px[n] = true) := hc
                clear hc
                go_wp2_with (go_at_call 64; refine (as_bool HC.out (l1Byte_any _ _)).mono ?_; rintro e w' ⟨rfl, rfl⟩)
                exact ⟨⟨n + 1, by omega, by go_num, by rw [HS.out, HC.out]; rfl, trivial⟩, by simp [intOf]; omega⟩
              · have HC : Hid (Gate.nameByte r.px[n] = false) := by simpa [Hid] using hc
                clear hc
                go_wp2_with (go_at_call 64; refine (as_bool HC.out (l1Byte_any _ _)).mono ?_; rintro e w' ⟨rfl, rfl⟩)
                go_ret
                exact ⟨ret_bool (HF.out.trans (HNo.out HC.out)).symm, HBW1.out⟩
            · have HA : Hid (Gate.allName r.px = true) := by unfold Gate.allName Hid; rw [← Gate.take_all r.px n (by omega)]; exact hall
              have hnI : ¬ (n : Int) < (r.px.size : Int) := by omega
              clear hall
              go_wp2_with fail
              go_ret
              exact ⟨ret_bool (HF.out.trans HA.out).symm, HBW1.out⟩
    · have HF : Hid (Gate.ruleOk r = false) := by unfold Hid Gate.ruleOk Gate.kindsOk; rw [ht, HT.out]; simp
      go_enter Tryz.func44, Tryz.ntmps44
      go_wp2_with (first | (go_at_call_of 37 (Value.string r.tm); refine (as_bool HT.out (l1NameOk_any r.tm _ hstm)).mono ?_; rintro e w' ⟨rfl, rfl⟩))
      go_ret
      exact ⟨ret_bool HF.out.symm, HB.out _⟩
  · rcases Gate.kd_cases r.tm with ht | ⟨ht, HT⟩ | ⟨ht, HT⟩
    · have HKD : Hid (Gate.kindsOk r = true) := by unfold Hid Gate.kindsOk; rw [HK.out, ht]; simp
      go_enter Tryz.func44, Tryz.ntmps44
      go_wp2_with (first | (go_at_call_of 37 (Value.string r.kd); refine (as_bool HK.out (l1NameOk_any r.kd _ hskd)).mono ?_; rintro e w' ⟨rfl, rfl⟩))
      obtain ⟨W0, hW0⟩ : ∃ W0, W0 = w.alloc (.cells #[.slice a r.vs.length cap, .string r.kd, .string r.tm, .string r.px] 42) := ⟨_, rfl⟩
      have HBW : Hid (Below w.heap.size w W0) := by unfold Hid; rw [hW0]; exact HB.out _
      have hX0 : ∀ o, W0.cell? ⟨w.heap.size, o, none⟩ = (#[.slice a r.vs.length cap, .string r.kd, .string r.tm, .string r.px] : Array Value)[o]? := by rw [hW0]; exact box_new w _ _
      have hz0 : w.heap.size < W0.heap.size := by rw [hW0]; simp
      rw [← hW0]
      clear hW0
      go_loopw [3] (fun i wr => ∃ k : Nat, k ≤ r.vs.length ∧ i = .int .i64 k ∧ Gate.up (Gate.verbAt r.vs) k = true ∧ Below W0.heap.size W0 wr) (fun i _ => r.vs.length - (intOf i).toNat)
      case atStart => exact ⟨0, Nat.zero_le _, rfl, rfl, Below.refl _ _⟩
      case round =>
        obtain ⟨k, hkl, rfl, hup, hB⟩ := hrel
        obtain ⟨W1, rfl⟩ : ∃ W1, W1 = wr := ⟨wr, rfl⟩
        have hsz := hB.size
        have hX := box_later hX0 hz0 hB
        have HB1 : Hid (Below W0.heap.size W0 W1) := hB
        have HBW1 : Hid (Below w.heap.size w W1) := HBW.out.trans (hB.mono (by omega))
        have hz1 : w.heap.size < W1.heap.size := by omega
        clear hX0 hB
        by_cases hlt : k < r.vs.length
        · obtain ⟨b, off, rfl, hb, c0⟩ := HI.out.load HBW1.out k hlt
          have hbr : b < W1.heap.size := by omega
          have hltI : (k : Int) < (r.vs.length : Int) := by omega
          have HNN : Hid (Gate.verbAt r.vs k = false → Gate.ruleOk r = false) := fun h => by rw [HG.out HKD.out, Gate.up_not hlt h]; rfl
          by_cases hn : Gate.verbOk r.vs[k] = true
          rotate_left
          · have HN : Hid ((decide (1 ≤ r.vs[k]) && decide (r.vs[k] ≤ 5)) = false) := by simpa [Hid, Gate.verbOk] using hn
            have HF : Hid (Gate.ruleOk r = false) := HNN.out (Gate.verbAt_no hlt (by simpa using hn))
            clear hn hup
            go_wp2_with fail
            go_quiet ((go_at_call 38; exact Calls.quiet_of_same (as_bool HN.out (l1In_any _ _ _ _))))
            go_wp2_with fail
            go_ret
            exact ⟨ret_bool HF.out.symm, below_drewN HBW1.out _⟩
          have HN : Hid ((decide (1 ≤ r.vs[k]) && decide (r.vs[k] ≤ 5)) = true) := hn
          by_cases hk0 : k = 0
          · have HS : Hid (Gate.up (Gate.verbAt r.vs) (k + 1) = true) := by subst hk0; unfold Hid; rw [Gate.up_succ, Gate.verbAt_first hlt hn]; rfl
            have hg : decide (0 < k) = false := by simp; omega
            clear hn hup hk0
            go_wp2_with fail
            go_quiet ((go_at_call 38; exact Calls.quiet_of_same (as_bool HN.out (l1In_any _ _ _ _))))
            go_wp2_with fail
            exact ⟨⟨k + 1, by omega, by go_num, HS.out, below_drewN HB1.out _⟩, by simp [intOf]; omega⟩
          · have hk1 : (0 : Int) ≤ (k : Int) - 1 := by omega
            have hk2 : (k : Int) - 1 < (r.vs.length : Int) := by omega
            have hg : decide (0 < k) = true := by simp; omega
            have hkm : k - 1 < r.vs.length := by omega
            obtain ⟨b', off', e', hb', d0⟩ := HI.out.load HBW1.out (k - 1) hkm
            simp only [Option.some.injEq, Addr.mk.injEq] at e'
            obtain ⟨rfl, rfl, _⟩ := e'
            have hva : Gate.verbAt r.vs k = decide (r.vs[k - 1] < r.vs[k]) := by unfold Gate.verbAt; rw [Gate.getD_at r.vs k _ hlt, Gate.getD_at r.vs (k - 1) _ hkm, hn, decide_eq_false hk0]; simp
            by_cases hls : r.vs[k - 1] < r.vs[k]
            · have hls' : decide (r.vs[k] ≤ r.vs[k - 1]) = false := by simp; omega
              have HS : Hid (Gate.up (Gate.verbAt r.vs) (k + 1) = true) := by unfold Hid; rw [Gate.up_succ, hup, hva, decide_eq_true hls]; rfl
              clear hls hn hup hk0 hva
              go_wp2_with fail
              go_quiet ((go_at_call 38; exact Calls.quiet_of_same (as_bool HN.out (l1In_any _ _ _ _))))
              go_wp2_with fail
              exact ⟨⟨k + 1, by omega, by go_num, HS.out, below_drewN HB1.out _⟩, by simp [intOf]; omega⟩
            · have hls' : decide (r.vs[k] ≤ r.vs[k - 1]) = true := by simp; omega
              have HF : Hid (Gate.ruleOk r = false) := HNN.out (by rw [hva, decide_eq_false hls])
              clear hls hn hup hk0 hva
              go_wp2_with fail
              go_quiet ((go_at_call 38; exact Calls.quiet_of_same (as_bool HN.out (l1In_any _ _ _ _))))
              go_wp2_with fail
              go_ret
              exact ⟨ret_bool HF.out.symm, below_drewN HBW1.out _⟩
        · have HF : Hid (Gate.ruleOk r = Gate.allName r.px) := by
            have e : k = r.vs.length := by omega
            subst e; rw [Hid, HG.out HKD.out, hup]; rfl
          have hltI : ¬ (k : Int) < (r.vs.length : Int) := by omega
          clear hup HG
          go_wp2_with fail
          go_loopw [4] (fun i wi => ∃ n : Nat, n ≤ r.px.size ∧ i = .int .i64 n ∧ (r.px.data.toList.take n).all Gate.nameByte = true ∧ wi = W1) (fun i _ => r.px.size - (intOf i).toNat)
          case atStart => exact ⟨0, Nat.zero_le _, rfl, rfl, rfl⟩
          case round =>
            obtain ⟨n, hn16, rfl, hall, rfl⟩ := hrel
            by_cases hn : n < r.px.size
            · have hnI : (n : Int) < (r.px.size : Int) := by omega
              have HS : Hid ((r.px.data.toList.take (n + 1)).all Gate.nameByte = (true && Gate.nameByte r.px[n])) := by rw [Gate.all_snoc _ r.px n hn, hall]; rfl
              have HNo : Hid (Gate.nameByte r.px[n] = false → Gate.allName r.px = false) := fun h => Gate.all_not Gate.nameByte r.px n hn h
              clear hall
              by_cases hc : Gate.nameByte r.px[n] = true
              · have HC : Hid (Gate.nameByte r.px[n] = true) := hc
                clear hc
                go_wp2_with (go_at_call 64; refine (as_bool HC.out (l1Byte_any _ _)).mono ?_; rintro e w' ⟨rfl, rfl⟩)
                exact ⟨⟨n + 1, by omega, by go_num, by rw [HS.out, HC.out]; rfl, trivial⟩, by simp [intOf]; omega⟩
              · have HC : Hid (Gate.nameByte r.px[n] = false) := by simpa [Hid] using hc
                clear hc
                go_wp2_with (go_at_call 64; refine (as_bool HC.out (l1Byte_any _ _)).mono ?_; rintro e w' ⟨rfl, rfl⟩)
                go_ret
                exact ⟨ret_bool (HF.out.trans (HNo.out HC.out)).symm, HBW1.out⟩
            · have HA : Hid (Gate.allName r.px = true) := by unfold Gate.allName Hid; rw [← Gate.take_all r.px n (by omega)]; exact hall
              have hnI : ¬ (n : Int) < (r.px.size : Int) := by omega
              clear hall
              go_wp2_with fail
              go_ret
              exact ⟨ret_bool (HF.out.trans HA.out).symm, HBW1.out⟩
    · have HKD : Hid (Gate.kindsOk r = true) := by unfold Hid Gate.kindsOk; rw [HK.out, HT.out]; simp
      go_enter Tryz.func44, Tryz.ntmps44
      go_wp2_with (first | (go_at_call_of 37 (Value.string r.kd); refine (as_bool HK.out (l1NameOk_any r.kd _ hskd)).mono ?_; rintro e w' ⟨rfl, rfl⟩) | (go_at_call_of 37 (Value.string r.tm); refine (as_bool HT.out (l1NameOk_any r.tm _ hstm)).mono ?_; rintro e w' ⟨rfl, rfl⟩))
      obtain ⟨W0, hW0⟩ : ∃ W0, W0 = w.alloc (.cells #[.slice a r.vs.length cap, .string r.kd, .string r.tm, .string r.px] 42) := ⟨_, rfl⟩
      have HBW : Hid (Below w.heap.size w W0) := by unfold Hid; rw [hW0]; exact HB.out _
      have hX0 : ∀ o, W0.cell? ⟨w.heap.size, o, none⟩ = (#[.slice a r.vs.length cap, .string r.kd, .string r.tm, .string r.px] : Array Value)[o]? := by rw [hW0]; exact box_new w _ _
      have hz0 : w.heap.size < W0.heap.size := by rw [hW0]; simp
      rw [← hW0]
      clear hW0
      go_loopw [3] (fun i wr => ∃ k : Nat, k ≤ r.vs.length ∧ i = .int .i64 k ∧ Gate.up (Gate.verbAt r.vs) k = true ∧ Below W0.heap.size W0 wr) (fun i _ => r.vs.length - (intOf i).toNat)
      case atStart => exact ⟨0, Nat.zero_le _, rfl, rfl, Below.refl _ _⟩
      case round =>
        obtain ⟨k, hkl, rfl, hup, hB⟩ := hrel
        obtain ⟨W1, rfl⟩ : ∃ W1, W1 = wr := ⟨wr, rfl⟩
        have hsz := hB.size
        have hX := box_later hX0 hz0 hB
        have HB1 : Hid (Below W0.heap.size W0 W1) := hB
        have HBW1 : Hid (Below w.heap.size w W1) := HBW.out.trans (hB.mono (by omega))
        have hz1 : w.heap.size < W1.heap.size := by omega
        clear hX0 hB
        by_cases hlt : k < r.vs.length
        · obtain ⟨b, off, rfl, hb, c0⟩ := HI.out.load HBW1.out k hlt
          have hbr : b < W1.heap.size := by omega
          have hltI : (k : Int) < (r.vs.length : Int) := by omega
          have HNN : Hid (Gate.verbAt r.vs k = false → Gate.ruleOk r = false) := fun h => by rw [HG.out HKD.out, Gate.up_not hlt h]; rfl
          by_cases hn : Gate.verbOk r.vs[k] = true
          rotate_left
          · have HN : Hid ((decide (1 ≤ r.vs[k]) && decide (r.vs[k] ≤ 5)) = false) := by simpa [Hid, Gate.verbOk] using hn
            have HF : Hid (Gate.ruleOk r = false) := HNN.out (Gate.verbAt_no hlt (by simpa using hn))
            clear hn hup
            go_wp2_with fail
            go_quiet ((go_at_call 38; exact Calls.quiet_of_same (as_bool HN.out (l1In_any _ _ _ _))))
            go_wp2_with fail
            go_ret
            exact ⟨ret_bool HF.out.symm, below_drewN HBW1.out _⟩
          have HN : Hid ((decide (1 ≤ r.vs[k]) && decide (r.vs[k] ≤ 5)) = true) := hn
          by_cases hk0 : k = 0
          · have HS : Hid (Gate.up (Gate.verbAt r.vs) (k + 1) = true) := by subst hk0; unfold Hid; rw [Gate.up_succ, Gate.verbAt_first hlt hn]; rfl
            have hg : decide (0 < k) = false := by simp; omega
            clear hn hup hk0
            go_wp2_with fail
            go_quiet ((go_at_call 38; exact Calls.quiet_of_same (as_bool HN.out (l1In_any _ _ _ _))))
            go_wp2_with fail
            exact ⟨⟨k + 1, by omega, by go_num, HS.out, below_drewN HB1.out _⟩, by simp [intOf]; omega⟩
          · have hk1 : (0 : Int) ≤ (k : Int) - 1 := by omega
            have hk2 : (k : Int) - 1 < (r.vs.length : Int) := by omega
            have hg : decide (0 < k) = true := by simp; omega
            have hkm : k - 1 < r.vs.length := by omega
            obtain ⟨b', off', e', hb', d0⟩ := HI.out.load HBW1.out (k - 1) hkm
            simp only [Option.some.injEq, Addr.mk.injEq] at e'
            obtain ⟨rfl, rfl, _⟩ := e'
            have hva : Gate.verbAt r.vs k = decide (r.vs[k - 1] < r.vs[k]) := by unfold Gate.verbAt; rw [Gate.getD_at r.vs k _ hlt, Gate.getD_at r.vs (k - 1) _ hkm, hn, decide_eq_false hk0]; simp
            by_cases hls : r.vs[k - 1] < r.vs[k]
            · have hls' : decide (r.vs[k] ≤ r.vs[k - 1]) = false := by simp; omega
              have HS : Hid (Gate.up (Gate.verbAt r.vs) (k + 1) = true) := by unfold Hid; rw [Gate.up_succ, hup, hva, decide_eq_true hls]; rfl
              clear hls hn hup hk0 hva
              go_wp2_with fail
              go_quiet ((go_at_call 38; exact Calls.quiet_of_same (as_bool HN.out (l1In_any _ _ _ _))))
              go_wp2_with fail
              exact ⟨⟨k + 1, by omega, by go_num, HS.out, below_drewN HB1.out _⟩, by simp [intOf]; omega⟩
            · have hls' : decide (r.vs[k] ≤ r.vs[k - 1]) = true := by simp; omega
              have HF : Hid (Gate.ruleOk r = false) := HNN.out (by rw [hva, decide_eq_false hls])
              clear hls hn hup hk0 hva
              go_wp2_with fail
              go_quiet ((go_at_call 38; exact Calls.quiet_of_same (as_bool HN.out (l1In_any _ _ _ _))))
              go_wp2_with fail
              go_ret
              exact ⟨ret_bool HF.out.symm, below_drewN HBW1.out _⟩
        · have HF : Hid (Gate.ruleOk r = Gate.allName r.px) := by
            have e : k = r.vs.length := by omega
            subst e; rw [Hid, HG.out HKD.out, hup]; rfl
          have hltI : ¬ (k : Int) < (r.vs.length : Int) := by omega
          clear hup HG
          go_wp2_with fail
          go_loopw [4] (fun i wi => ∃ n : Nat, n ≤ r.px.size ∧ i = .int .i64 n ∧ (r.px.data.toList.take n).all Gate.nameByte = true ∧ wi = W1) (fun i _ => r.px.size - (intOf i).toNat)
          case atStart => exact ⟨0, Nat.zero_le _, rfl, rfl, rfl⟩
          case round =>
            obtain ⟨n, hn16, rfl, hall, rfl⟩ := hrel
            by_cases hn : n < r.px.size
            · have hnI : (n : Int) < (r.px.size : Int) := by omega
              have HS : Hid ((r.px.data.toList.take (n + 1)).all Gate.nameByte = (true && Gate.nameByte r.px[n])) := by rw [Gate.all_snoc _ r.px n hn, hall]; rfl
              have HNo : Hid (Gate.nameByte r.px[n] = false → Gate.allName r.px = false) := fun h => Gate.all_not Gate.nameByte r.px n hn h
              clear hall
              by_cases hc : Gate.nameByte r.px[n] = true
              · have HC : Hid (Gate.nameByte r.px[n] = true) := hc
                clear hc
                go_wp2_with (go_at_call 64; refine (as_bool HC.out (l1Byte_any _ _)).mono ?_; rintro e w' ⟨rfl, rfl⟩)
                exact ⟨⟨n + 1, by omega, by go_num, by rw [HS.out, HC.out]; rfl, trivial⟩, by simp [intOf]; omega⟩
              · have HC : Hid (Gate.nameByte r.px[n] = false) := by simpa [Hid] using hc
                clear hc
                go_wp2_with (go_at_call 64; refine (as_bool HC.out (l1Byte_any _ _)).mono ?_; rintro e w' ⟨rfl, rfl⟩)
                go_ret
                exact ⟨ret_bool (HF.out.trans (HNo.out HC.out)).symm, HBW1.out⟩
            · have HA : Hid (Gate.allName r.px = true) := by unfold Gate.allName Hid; rw [← Gate.take_all r.px n (by omega)]; exact hall
              have hnI : ¬ (n : Int) < (r.px.size : Int) := by omega
              clear hall
              go_wp2_with fail
              go_ret
              exact ⟨ret_bool (HF.out.trans HA.out).symm, HBW1.out⟩
    · have HF : Hid (Gate.ruleOk r = false) := by unfold Hid Gate.ruleOk Gate.kindsOk; rw [ht, HT.out]; simp
      go_enter Tryz.func44, Tryz.ntmps44
      go_wp2_with (first | (go_at_call_of 37 (Value.string r.kd); refine (as_bool HK.out (l1NameOk_any r.kd _ hskd)).mono ?_; rintro e w' ⟨rfl, rfl⟩) | (go_at_call_of 37 (Value.string r.tm); refine (as_bool HT.out (l1NameOk_any r.tm _ hstm)).mono ?_; rintro e w' ⟨rfl, rfl⟩))
      go_ret
      exact ⟨ret_bool HF.out.symm, HB.out _⟩
  · have HF : Hid (Gate.ruleOk r = false) := by unfold Hid Gate.ruleOk Gate.kindsOk; rw [hk, HK.out]; simp
    go_enter Tryz.func44, Tryz.ntmps44
    go_wp2_with (first | (go_at_call_of 37 (Value.string r.kd); refine (as_bool HK.out (l1NameOk_any r.kd _ hskd)).mono ?_; rintro e w' ⟨rfl, rfl⟩))
    go_ret
    exact ⟨ret_bool HF.out.symm, HB.out _⟩

end Go.Proofs.YtpmlngcljbkchaaGreat
