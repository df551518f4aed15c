import Derived.Test.YtlonpcaniibehaaM05
import Derived.Test.YtlonpcaniibehaaRows
import Derived.Test.YtlonpcaniibehaaM01
import Derived.ProofKit
import Derived.SliceStrings
namespace Go.Proofs.Ytlonpcaniibehaa
open Go.RowKit

set_option maxHeartbeats 400000 in
theorem l4Team_any (a : Option Addr) (cap : Nat) (ts : List Tm) (v : ByteArray) (w : World) (hw : TmsAt w a ts) :
    Calls Try.prog 32 #[.slice a ts.length cap, .string v] w fun e w' => e = .returned (.bool (Gate.hasTeam ts v)) ∧ w' = w := by
  have hl := hw.len
  unfold maxLen at hl
  go_enter Try.func32, Try.ntmps32
  go_wp2_with fail
  go_loop [5] (fun i => ∃ k : Nat, k ≤ ts.length ∧ i = .int .i64 k ∧ Gate.hasTeam (ts.take k) v = false) (fun i => ts.length - (intOf i).toNat)
  case atStart => exact ⟨0, Nat.zero_le _, rfl, rfl⟩
  case round =>
    obtain ⟨k, hk, rfl, hall⟩ := hrel
    by_cases hlt : k < ts.length
    · obtain ⟨b, off, rfl, hb, c0, c1⟩ := hw.load (Below.refl _ _) k hlt
      clear hw
      have HS : Hid (Gate.hasTeam (ts.take (k + 1)) v = (false || decide (ts[k].nm = v))) := by rw [Gate.hasTeam_snoc ts v k hlt, hall]; rfl
      have hltI : (k : Int) < (ts.length : Int) := by omega
      by_cases he : ts[k].nm = v
      · have hbe : (ts[k].nm.toList == v.toList) = true := by rw [Gate.beq_toList]; simpa using he
        have HR : Hid (Gate.hasTeam ts v = true) := Gate.hasTeam_at ts v k hlt he
        clear he hall
        go_wp2_with fail
        go_ret
        exact ⟨ret_bool HR.out.symm, rfl⟩
      · have hbe : (ts[k].nm.toList == v.toList) = false := by rw [Gate.beq_toList]; simpa using he
        have HE : Hid (¬ ts[k].nm = v) := he
        clear he hall
        go_wp2_with fail
        go_round
        case rel => exact ⟨k + 1, by omega, by go_num, by rw [HS.out, decide_eq_false HE.out]; rfl⟩
        case measure => simp [intOf]; omega
    · have HR : Hid (Gate.hasTeam ts v = false) := by rw [← Gate.hasTeam_all ts v k (by omega)]; exact hall
      clear hall hw
      go_wp2_with fail
      go_ret
      exact ⟨ret_bool HR.out.symm, rfl⟩

theorem Gate.climbS_empty (ts : List Tm) (m : Nat) (z : ByteArray) (h : z.size = 0) : Gate.climbS ts m z = z := by
  cases m with
  | zero => rfl
  | succ m => unfold Gate.climbS; rw [if_pos h]
theorem Gate.climbS_step (ts : List Tm) (m : Nat) (z : ByteArray) (h : ¬ z.size = 0) : Gate.climbS ts (m + 1) z = Gate.climbS ts m (Gate.over ts z) := by
  rw [Gate.climbS, if_neg h]

set_option maxHeartbeats 1000000 in
theorem specTeamsOk_any (a : Option Addr) (cap : Nat) (ts : List Tm) (w : World) (hw : TmsAt w a ts) :
    Calls Try.prog 12 #[.slice a ts.length cap] w fun e w' => e = .returned (.bool (Gate.teamsOkS ts)) ∧ Below w.heap.size w w' := by
  have hl := hw.len
  unfold maxLen at hl
  by_cases h12 : ts.length ≤ 12
  rotate_left
  · have HF : Hid (Gate.teamsOkS ts = false) := by simp [Hid, Gate.teamsOkS, h12]
    clear hw
    go_enter Try.func12, Try.ntmps12
    go_wp2_with fail
    go_ret
    exact ⟨ret_bool HF.out.symm, Below.refl _ _⟩
  have HG : Hid (Gate.teamsOkS ts = Gate.up (Gate.teamAtS ts) ts.length) := by simp [Hid, Gate.teamsOkS, h12]
  have h12I : (ts.length : Int) ≤ 12 := by omega
  have HW0 : Hid (TmsAt w a ts) := hw
  clear hw
  go_enter Try.func12, Try.ntmps12
  go_wp2_with fail
  go_loopw [3] (fun i wr => ∃ k : Nat, k ≤ ts.length ∧ i = .int .i64 k ∧ Gate.up (Gate.teamAtS ts) k = true ∧ Below w.heap.size w wr) (fun i _ => ts.length - (intOf i).toNat)
  case atStart => exact ⟨0, Nat.zero_le _, rfl, rfl, Below.refl _ _⟩
  case round =>
    obtain ⟨k, hk, rfl, hup, hB⟩ := hrel
    obtain ⟨W0, rfl⟩ : ∃ W0, W0 = wr := ⟨wr, rfl⟩
    have hsz := hB.size
    by_cases hlt : k < ts.length
    · obtain ⟨b, off, rfl, hb, c0, c1⟩ := HW0.out.load hB k hlt
      have hbr : b < W0.heap.size := by omega
      have hsm := HW0.out.small k hlt
      have hsn := hsm.nm
      have HS : Hid (Gate.teamAt ts k = true → Gate.deepS ts k = true → Gate.up (Gate.teamAtS ts) (k + 1) = true) := fun h h' => by rw [Gate.up_succ, hup, Gate.teamAtS, h, h']; rfl
      have HN : Hid (Gate.teamAt ts k = false → Gate.teamsOkS ts = false) := fun h => by rw [HG.out]; exact Gate.up_not hlt (by rw [Gate.teamAtS, h]; rfl)
      have HD : Hid (Gate.deepS ts k = false → Gate.teamsOkS ts = false) := fun h => by rw [HG.out]; exact Gate.up_not hlt (by rw [Gate.teamAtS, h, Bool.and_false])
      have HDS : Hid (Gate.deepS ts k = decide ((Gate.climbS ts 5 ts[k].nm).size = 0)) := by unfold Hid Gate.deepS; rw [Gate.getD_at ts k _ hlt]
      have hltI : (k : Int) < (ts.length : Int) := by omega
      have HB : Hid (Below w.heap.size w W0) := hB
      have HBx : Hid (∀ (ob : Obj) (n : Nat), Below W0.heap.size W0 ((W0.alloc ob).drewN n)) := fun ob n => below_drewN ((Below.refl _ _).alloc (Nat.le_refl _) _) _
      have HWr : Hid (∀ (ob : Obj) (n : Nat), TmsAt ((W0.alloc ob).drewN n) (some ⟨b, off, none⟩) ts) := fun ob n => (HW0.out.mono hB).mono (below_drewN ((Below.refl _ _).alloc (Nat.le_refl _) _) _)
      clear hup hsm hB
      by_cases hn : Gate.nameOk ts[k].nm = true
      rotate_left
      · have HNm : Hid (Gate.nameOk ts[k].nm = false) := by simpa [Hid] using hn
        have HF : Hid (Gate.teamAt ts k = false) := by unfold Hid; rw [Gate.teamAt_at ts k hlt _ rfl, HNm.out]; rfl
        clear hn
        go_wp2_with fail
        go_quiet ((go_at_call 31; exact Calls.quiet_of_same (as_bool HNm.out (l1NameOk_any _ _ hsn))))
        go_wp2_with fail
        go_ret
        exact ⟨ret_bool (HN.out HF.out).symm, HB.out.trans ((HBx.out _ _).mono hsz)⟩
      have HNm : Hid (Gate.nameOk ts[k].nm = true) := hn
      clear hn
      by_cases hbad : 0 < k ∧ Gate.less (ts.getD (k - 1) Gate.noTeam).nm ts[k].nm = false
      · obtain ⟨hkpos, hls⟩ := hbad
        have HF : Hid (Gate.teamAt ts k = false) := by
          unfold Hid; rw [Gate.teamAt_at ts k hlt false (by rw [hls, decide_eq_false (show ¬ k = 0 by omega)]; rfl)]; simp
        obtain ⟨m, rfl⟩ : ∃ m, k = m + 1 := ⟨k - 1, by omega⟩
        rw [Nat.add_sub_cancel, Gate.getD_at ts m _ (by omega)] at hls
        obtain ⟨b', off', e', hb', d0, d1⟩ := HW0.out.load HB.out m (by omega)
        simp only [Option.some.injEq, Addr.mk.injEq] at e'
        obtain ⟨rfl, rfl, _⟩ := e'
        have hls' : Op.bytesLess ts[m].nm.toList ts[m + 1].nm.toList = false := hls
        have hmI : (m : Int) < 12 := by omega
        have hm0 : (0 : Int) ≤ (m : Int) := by omega
        have hml : (m : Int) < (ts.length : Int) := by omega
        have hmw : IntKind.i64.wrap (m : Int) = m := by rw [IntKind.wrap_i64]; omega
        clear hls
        go_wp2_with fail
        go_quiet ((go_at_call 31; exact Calls.quiet_of_same (as_bool HNm.out (l1NameOk_any _ _ hsn))))
        go_wp2_with fail
        go_ret
        exact ⟨ret_bool (HN.out HF.out).symm, HB.out.trans ((HBx.out _ _).mono hsz)⟩
      have hgd : (decide (k = 0) || Gate.less (ts.getD (k - 1) Gate.noTeam).nm ts[k].nm) = true := by
        by_cases hk0 : k = 0
        · simp [hk0]
        · cases hq : Gate.less (ts.getD (k - 1) Gate.noTeam).nm ts[k].nm
          · exact absurd ⟨by omega, hq⟩ hbad
          · simp
      have HA : Hid (Gate.teamAt ts k = (ts[k].ov.toList.isEmpty || Gate.hasTeam ts ts[k].ov)) := by
        unfold Hid; rw [Gate.teamAt_at ts k hlt true hgd, HNm.out]; rfl
      have hgood : (decide (0 < k) = false) ∨ (decide (0 < k) = true ∧ (0 : Int) ≤ (k : Int) - 1 ∧ (k : Int) - 1 < (ts.length : Int) ∧ ∃ h : k - 1 < ts.length, Op.bytesLess ts[k - 1].nm.toList ts[k].nm.toList = true ∧ W0.cell? ⟨b, off + (k - 1) * 2, none⟩ = some (.string ts[k - 1].nm)) := by
        by_cases hk0 : k = 0
        · exact Or.inl (by simp; omega)
        · refine Or.inr ⟨by simp; omega, by omega, by omega, by omega, ?_, ?_⟩
          · rw [decide_eq_false hk0, Gate.getD_at ts (k - 1) _ (by omega)] at hgd
            exact hgd
          · obtain ⟨b', off', e', hb', d0, d1⟩ := HW0.out.load HB.out (k - 1) (by omega)
            simp only [Option.some.injEq, Addr.mk.injEq] at e'
            obtain ⟨rfl, rfl, _⟩ := e'
            exact d0
      clear hbad hgd
      by_cases hov : ts[k].ov.toList.isEmpty = true
      · have HT : Hid (Gate.teamAt ts k = true) := by unfold Hid; rw [HA.out, hov]; rfl
        rcases hgood with hg | ⟨hg, hk1, hk2, hkm, hls', d0⟩
        · go_wp2_with fail
          go_quiet ((go_at_call 31; exact Calls.quiet_of_same (as_bool HNm.out (l1NameOk_any _ _ hsn))))
          go_wp2_with fail
          obtain ⟨W1, hW1⟩ : ∃ W1, W1 = (W0.alloc (.cells #[.string ts[k].nm, .string ts[k].ov] 56)).drewN nq := ⟨_, rfl⟩
          have HB1 : Hid (Below w.heap.size w W1) := by unfold Hid; rw [hW1]; exact HB.out.trans ((HBx.out _ _).mono hsz)
          have HW1 : Hid (TmsAt W1 (some ⟨b, off, none⟩) ts) := HW0.out.mono HB1.out
          rw [← hW1]
          clear hW1
          go_loopw [5, 6] (fun p i wi => ∃ (n : Nat) (z : ByteArray), n ≤ 5 ∧ p = .string z ∧ i = .int .i64 n ∧ Gate.climbS ts 5 ts[k].nm = Gate.climbS ts (5 - n) z ∧ wi = W1) (fun _ i _ => 5 - (intOf i).toNat)
          case atStart => exact ⟨0, ts[k].nm, Nat.zero_le _, rfl, rfl, rfl, rfl⟩
          case round =>
            obtain ⟨n, z, hn5, rfl, rfl, hz, rfl⟩ := hrel
            by_cases hn : n < 5
            · have hnI : (n : Int) ≤ 4 := by omega
              by_cases hz0 : z.size = 0
              · have hze : z.toList.isEmpty = true := by rw [Gate.isEmpty_of_size]; simpa using hz0
                have HDT : Hid (Gate.deepS ts (k) = true) := by unfold Hid; rw [HDS.out, hz, Gate.climbS_empty ts _ z hz0]; simpa using hz0
                clear hz hz0
                go_wp2_with fail
                exact ⟨⟨k + 1, by omega, by go_num, HS.out HT.out HDT.out, HB1.out⟩, by simp [intOf]; omega⟩
              · have hze : z.toList.isEmpty = false := by rw [Gate.isEmpty_of_size]; simpa using hz0
                have HZ : Hid (Gate.climbS ts 5 ts[k].nm = Gate.climbS ts (5 - (n + 1)) (Gate.over ts z)) := by
                  obtain ⟨q, hq⟩ : ∃ q, 5 - n = q + 1 := ⟨4 - n, by omega⟩
                  rw [Hid, hz, hq, Gate.climbS_step ts q z hz0, show 5 - (n + 1) = q by omega]
                clear hz hz0
                go_wp2_with (go_at_call 27; refine (l4Over_any _ _ ts _ _ HW1.out).mono ?_; rintro e w' ⟨rfl, rfl⟩)
                exact ⟨⟨n + 1, Gate.over ts z, by omega, rfl, by go_num, HZ.out, trivial⟩, by simp [intOf]; omega⟩
            · have e5 : 5 - n = 0 := by omega
              rw [e5] at hz
              have hnI : ¬ (n : Int) ≤ 4 := by omega
              by_cases hz0 : z.size = 0
              · have hze : z.toList.isEmpty = true := by rw [Gate.isEmpty_of_size]; simpa using hz0
                have HDT : Hid (Gate.deepS ts (k) = true) := by unfold Hid; rw [HDS.out, hz]; simpa [Gate.climbS] using hz0
                clear hz hz0
                go_wp2_with fail
                exact ⟨⟨k + 1, by omega, by go_num, HS.out HT.out HDT.out, HB1.out⟩, by simp [intOf]; omega⟩
              · have hze : z.toList.isEmpty = false := by rw [Gate.isEmpty_of_size]; simpa using hz0
                have HDT : Hid (Gate.deepS ts (k) = false) := by unfold Hid; rw [HDS.out, hz]; simpa [Gate.climbS] using hz0
                clear hz hz0
                go_wp2_with fail
                go_ret
                exact ⟨ret_bool (HD.out HDT.out).symm, HB1.out⟩
        · go_wp2_with fail
          go_quiet ((go_at_call 31; exact Calls.quiet_of_same (as_bool HNm.out (l1NameOk_any _ _ hsn))))
          go_wp2_with fail
          obtain ⟨W1, hW1⟩ : ∃ W1, W1 = (W0.alloc (.cells #[.string ts[k].nm, .string ts[k].ov] 56)).drewN nq := ⟨_, rfl⟩
          have HB1 : Hid (Below w.heap.size w W1) := by unfold Hid; rw [hW1]; exact HB.out.trans ((HBx.out _ _).mono hsz)
          have HW1 : Hid (TmsAt W1 (some ⟨b, off, none⟩) ts) := HW0.out.mono HB1.out
          rw [← hW1]
          clear hW1
          go_loopw [5, 6] (fun p i wi => ∃ (n : Nat) (z : ByteArray), n ≤ 5 ∧ p = .string z ∧ i = .int .i64 n ∧ Gate.climbS ts 5 ts[k].nm = Gate.climbS ts (5 - n) z ∧ wi = W1) (fun _ i _ => 5 - (intOf i).toNat)
          case atStart => exact ⟨0, ts[k].nm, Nat.zero_le _, rfl, rfl, rfl, rfl⟩
          case round =>
            obtain ⟨n, z, hn5, rfl, rfl, hz, rfl⟩ := hrel
            by_cases hn : n < 5
            · have hnI : (n : Int) ≤ 4 := by omega
              by_cases hz0 : z.size = 0
              · have hze : z.toList.isEmpty = true := by rw [Gate.isEmpty_of_size]; simpa using hz0
                have HDT : Hid (Gate.deepS ts (k) = true) := by unfold Hid; rw [HDS.out, hz, Gate.climbS_empty ts _ z hz0]; simpa using hz0
                clear hz hz0
                go_wp2_with fail
                exact ⟨⟨k + 1, by omega, by go_num, HS.out HT.out HDT.out, HB1.out⟩, by simp [intOf]; omega⟩
              · have hze : z.toList.isEmpty = false := by rw [Gate.isEmpty_of_size]; simpa using hz0
                have HZ : Hid (Gate.climbS ts 5 ts[k].nm = Gate.climbS ts (5 - (n + 1)) (Gate.over ts z)) := by
                  obtain ⟨q, hq⟩ : ∃ q, 5 - n = q + 1 := ⟨4 - n, by omega⟩
                  rw [Hid, hz, hq, Gate.climbS_step ts q z hz0, show 5 - (n + 1) = q by omega]
                clear hz hz0
                go_wp2_with (go_at_call 27; refine (l4Over_any _ _ ts _ _ HW1.out).mono ?_; rintro e w' ⟨rfl, rfl⟩)
                exact ⟨⟨n + 1, Gate.over ts z, by omega, rfl, by go_num, HZ.out, trivial⟩, by simp [intOf]; omega⟩
            · have e5 : 5 - n = 0 := by omega
              rw [e5] at hz
              have hnI : ¬ (n : Int) ≤ 4 := by omega
              by_cases hz0 : z.size = 0
              · have hze : z.toList.isEmpty = true := by rw [Gate.isEmpty_of_size]; simpa using hz0
                have HDT : Hid (Gate.deepS ts (k) = true) := by unfold Hid; rw [HDS.out, hz]; simpa [Gate.climbS] using hz0
                clear hz hz0
                go_wp2_with fail
                exact ⟨⟨k + 1, by omega, by go_num, HS.out HT.out HDT.out, HB1.out⟩, by simp [intOf]; omega⟩
              · have hze : z.toList.isEmpty = false := by rw [Gate.isEmpty_of_size]; simpa using hz0
                have HDT : Hid (Gate.deepS ts (k) = false) := by unfold Hid; rw [HDS.out, hz]; simpa [Gate.climbS] using hz0
                clear hz hz0
                go_wp2_with fail
                go_ret
                exact ⟨ret_bool (HD.out HDT.out).symm, HB1.out⟩
      · have hov' : ts[k].ov.toList.isEmpty = false := by simpa using hov
        clear hov
        by_cases hit : Gate.hasTeam ts ts[k].ov = true
        · have HI : Hid (Gate.hasTeam ts ts[k].ov = true) := hit
          have HT : Hid (Gate.teamAt ts k = true) := by unfold Hid; rw [HA.out, hit]; simp
          clear hit
          rcases hgood with hg | ⟨hg, hk1, hk2, hkm, hls', d0⟩
          · go_wp2_with fail
            go_quiet (first | (go_at_call 31; exact Calls.quiet_of_same (as_bool HNm.out (l1NameOk_any _ _ hsn))) | (go_at_call 32; exact Calls.quiet_of_same (as_bool HI.out (l4Team_any _ _ ts _ _ (by exact HWr.out _ _)))))
            go_wp2_with fail
            obtain ⟨W1, hW1⟩ : ∃ W1, W1 = (W0.alloc (.cells #[.string ts[k].nm, .string ts[k].ov] 56)).drewN nq := ⟨_, rfl⟩
            have HB1 : Hid (Below w.heap.size w W1) := by unfold Hid; rw [hW1]; exact HB.out.trans ((HBx.out _ _).mono hsz)
            have HW1 : Hid (TmsAt W1 (some ⟨b, off, none⟩) ts) := HW0.out.mono HB1.out
            rw [← hW1]
            clear hW1
            go_loopw [5, 6] (fun p i wi => ∃ (n : Nat) (z : ByteArray), n ≤ 5 ∧ p = .string z ∧ i = .int .i64 n ∧ Gate.climbS ts 5 ts[k].nm = Gate.climbS ts (5 - n) z ∧ wi = W1) (fun _ i _ => 5 - (intOf i).toNat)
            case atStart => exact ⟨0, ts[k].nm, Nat.zero_le _, rfl, rfl, rfl, rfl⟩
            case round =>
              obtain ⟨n, z, hn5, rfl, rfl, hz, rfl⟩ := hrel
              by_cases hn : n < 5
              · have hnI : (n : Int) ≤ 4 := by omega
                by_cases hz0 : z.size = 0
                · have hze : z.toList.isEmpty = true := by rw [Gate.isEmpty_of_size]; simpa using hz0
                  have HDT : Hid (Gate.deepS ts (k) = true) := by unfold Hid; rw [HDS.out, hz, Gate.climbS_empty ts _ z hz0]; simpa using hz0
                  clear hz hz0
                  go_wp2_with fail
                  exact ⟨⟨k + 1, by omega, by go_num, HS.out HT.out HDT.out, HB1.out⟩, by simp [intOf]; omega⟩
                · have hze : z.toList.isEmpty = false := by rw [Gate.isEmpty_of_size]; simpa using hz0
                  have HZ : Hid (Gate.climbS ts 5 ts[k].nm = Gate.climbS ts (5 - (n + 1)) (Gate.over ts z)) := by
                    obtain ⟨q, hq⟩ : ∃ q, 5 - n = q + 1 := ⟨4 - n, by omega⟩
                    rw [Hid, hz, hq, Gate.climbS_step ts q z hz0, show 5 - (n + 1) = q by omega]
                  clear hz hz0
                  go_wp2_with (go_at_call 27; refine (l4Over_any _ _ ts _ _ HW1.out).mono ?_; rintro e w' ⟨rfl, rfl⟩)
                  exact ⟨⟨n + 1, Gate.over ts z, by omega, rfl, by go_num, HZ.out, trivial⟩, by simp [intOf]; omega⟩
              · have e5 : 5 - n = 0 := by omega
                rw [e5] at hz
                have hnI : ¬ (n : Int) ≤ 4 := by omega
                by_cases hz0 : z.size = 0
                · have hze : z.toList.isEmpty = true := by rw [Gate.isEmpty_of_size]; simpa using hz0
                  have HDT : Hid (Gate.deepS ts (k) = true) := by unfold Hid; rw [HDS.out, hz]; simpa [Gate.climbS] using hz0
                  clear hz hz0
                  go_wp2_with fail
                  exact ⟨⟨k + 1, by omega, by go_num, HS.out HT.out HDT.out, HB1.out⟩, by simp [intOf]; omega⟩
                · have hze : z.toList.isEmpty = false := by rw [Gate.isEmpty_of_size]; simpa using hz0
                  have HDT : Hid (Gate.deepS ts (k) = false) := by unfold Hid; rw [HDS.out, hz]; simpa [Gate.climbS] using hz0
                  clear hz hz0
                  go_wp2_with fail
                  go_ret
                  exact ⟨ret_bool (HD.out HDT.out).symm, HB1.out⟩
          · go_wp2_with fail
            go_quiet (first | (go_at_call 31; exact Calls.quiet_of_same (as_bool HNm.out (l1NameOk_any _ _ hsn))) | (go_at_call 32; exact Calls.quiet_of_same (as_bool HI.out (l4Team_any _ _ ts _ _ (by exact HWr.out _ _)))))
            go_wp2_with fail
            obtain ⟨W1, hW1⟩ : ∃ W1, W1 = (W0.alloc (.cells #[.string ts[k].nm, .string ts[k].ov] 56)).drewN nq := ⟨_, rfl⟩
            have HB1 : Hid (Below w.heap.size w W1) := by unfold Hid; rw [hW1]; exact HB.out.trans ((HBx.out _ _).mono hsz)
            have HW1 : Hid (TmsAt W1 (some ⟨b, off, none⟩) ts) := HW0.out.mono HB1.out
            rw [← hW1]
            clear hW1
            go_loopw [5, 6] (fun p i wi => ∃ (n : Nat) (z : ByteArray), n ≤ 5 ∧ p = .string z ∧ i = .int .i64 n ∧ Gate.climbS ts 5 ts[k].nm = Gate.climbS ts (5 - n) z ∧ wi = W1) (fun _ i _ => 5 - (intOf i).toNat)
            case atStart => exact ⟨0, ts[k].nm, Nat.zero_le _, rfl, rfl, rfl, rfl⟩
            case round =>
              obtain ⟨n, z, hn5, rfl, rfl, hz, rfl⟩ := hrel
              by_cases hn : n < 5
              · have hnI : (n : Int) ≤ 4 := by omega
                by_cases hz0 : z.size = 0
                · have hze : z.toList.isEmpty = true := by rw [Gate.isEmpty_of_size]; simpa using hz0
                  have HDT : Hid (Gate.deepS ts (k) = true) := by unfold Hid; rw [HDS.out, hz, Gate.climbS_empty ts _ z hz0]; simpa using hz0
                  clear hz hz0
                  go_wp2_with fail
                  exact ⟨⟨k + 1, by omega, by go_num, HS.out HT.out HDT.out, HB1.out⟩, by simp [intOf]; omega⟩
                · have hze : z.toList.isEmpty = false := by rw [Gate.isEmpty_of_size]; simpa using hz0
                  have HZ : Hid (Gate.climbS ts 5 ts[k].nm = Gate.climbS ts (5 - (n + 1)) (Gate.over ts z)) := by
                    obtain ⟨q, hq⟩ : ∃ q, 5 - n = q + 1 := ⟨4 - n, by omega⟩
                    rw [Hid, hz, hq, Gate.climbS_step ts q z hz0, show 5 - (n + 1) = q by omega]
                  clear hz hz0
                  go_wp2_with (go_at_call 27; refine (l4Over_any _ _ ts _ _ HW1.out).mono ?_; rintro e w' ⟨rfl, rfl⟩)
                  exact ⟨⟨n + 1, Gate.over ts z, by omega, rfl, by go_num, HZ.out, trivial⟩, by simp [intOf]; omega⟩
              · have e5 : 5 - n = 0 := by omega
                rw [e5] at hz
                have hnI : ¬ (n : Int) ≤ 4 := by omega
                by_cases hz0 : z.size = 0
                · have hze : z.toList.isEmpty = true := by rw [Gate.isEmpty_of_size]; simpa using hz0
                  have HDT : Hid (Gate.deepS ts (k) = true) := by unfold Hid; rw [HDS.out, hz]; simpa [Gate.climbS] using hz0
                  clear hz hz0
                  go_wp2_with fail
                  exact ⟨⟨k + 1, by omega, by go_num, HS.out HT.out HDT.out, HB1.out⟩, by simp [intOf]; omega⟩
                · have hze : z.toList.isEmpty = false := by rw [Gate.isEmpty_of_size]; simpa using hz0
                  have HDT : Hid (Gate.deepS ts (k) = false) := by unfold Hid; rw [HDS.out, hz]; simpa [Gate.climbS] using hz0
                  clear hz hz0
                  go_wp2_with fail
                  go_ret
                  exact ⟨ret_bool (HD.out HDT.out).symm, HB1.out⟩
        · have HI : Hid (Gate.hasTeam ts ts[k].ov = false) := by simpa [Hid] using hit
          have HF : Hid (Gate.teamAt ts k = false) := by unfold Hid; rw [HA.out, HI.out, hov']; rfl
          clear hit
          rcases hgood with hg | ⟨hg, hk1, hk2, hkm, hls', d0⟩
          · go_wp2_with fail
            go_quiet (first | (go_at_call 31; exact Calls.quiet_of_same (as_bool HNm.out (l1NameOk_any _ _ hsn))) | (go_at_call 32; exact Calls.quiet_of_same (as_bool HI.out (l4Team_any _ _ ts _ _ (by exact HWr.out _ _)))))
            go_wp2_with fail
            go_ret
            exact ⟨ret_bool (HN.out HF.out).symm, HB.out.trans ((HBx.out _ _).mono hsz)⟩
          · go_wp2_with fail
            go_quiet (first | (go_at_call 31; exact Calls.quiet_of_same (as_bool HNm.out (l1NameOk_any _ _ hsn))) | (go_at_call 32; exact Calls.quiet_of_same (as_bool HI.out (l4Team_any _ _ ts _ _ (by exact HWr.out _ _)))))
            go_wp2_with fail
            go_ret
            exact ⟨ret_bool (HN.out HF.out).symm, HB.out.trans ((HBx.out _ _).mono hsz)⟩
    · have HF : Hid (Gate.teamsOkS ts = true) := by
        have e : k = ts.length := by omega
        subst e; rw [Hid, HG.out, hup]
      clear hup
      go_wp2_with fail
      go_ret
      exact ⟨ret_bool HF.out.symm, hB⟩

end Go.Proofs.Ytlonpcaniibehaa

namespace Go.Proofs.Ytlonpcaniibehaa
open Go.RowKit

set_option maxHeartbeats 2000000 in
theorem lawTeamsOk_any (a : Option Addr) (cap : Nat) (ts : List Tm) (w : World) (hw : TmsAt w a ts) :
    Calls Try.prog 4 #[.slice a ts.length cap] w fun e w' => e = .returned (.bool true) ∧ Below w.heap.size w w' := by
  by_cases hsz : (tmsSz ts : Int) ≤ 1048576
  rotate_left
  · go_enter Try.func4, Try.ntmps4
    go_wp2_with fail
    refine (szGateTeamS_any _ _ _ _ _ hw (by omega) (by omega)).mono ?_
    rintro e w1 ⟨rfl, hb1⟩
    rw [szRes_no (by omega)]
    go_wp2_with fail
    go_ret
    exact ⟨rfl, hb1⟩
  have HLM : Hid (ts.length ≤ 1048576) := by unfold tmsSz at hsz; show _ ≤ _; omega
  have hneg : decide (1048576 - (tmsSz ts : Int) < 0) = false := by simp; omega
  have HW : Hid (TmsAt w a ts) := hw
  have HSM : Hid ((∀ i (h : i < ts.length), ts[i].Small) ∧ ts.length ≤ maxLen) := ⟨hw.small, hw.len⟩
  clear hw
  go_enter Try.func4, Try.ntmps4
  go_wp2_with fail
  refine (szGateTeamS_any _ _ _ _ _ HW.out (by omega) (by omega)).mono ?_
  rintro e w1 ⟨rfl, hb1⟩
  rw [szRes_yes hsz]
  have HB1 : Hid (Below w.heap.size w w1) := hb1
  clear hb1
  go_wp2_with fail
  refine (toGateTeamS_any _ _ _ _ (HW.out.mono HB1.out) HLM.out).mono ?_
  rintro e w2 ⟨rfl, hown, hb⟩
  have HB2 : Hid (Below w.heap.size w w2) := HB1.out.trans (hb.mono HB1.out.size)
  have HT2 : Hid (TmsAt w2 (some ⟨w1.heap.size, 0, none⟩) ts) := hown.at HSM.out.1 HSM.out.2
  clear hown hb
  go_wp2_with fail
  refine (specTeamsOk_any _ _ ts w2 HT2.out).mono ?_
  rintro e w3 ⟨rfl, hb⟩
  rw [← Gate.teamsOk_same]
  have HB3 : Hid (Below w.heap.size w w3) := HB2.out.trans (hb.mono HB2.out.size)
  clear hb
  go_wp2_with fail
  refine (toGateTeamS_any _ _ _ _ (HW.out.mono HB3.out) HLM.out).mono ?_
  rintro e w4 ⟨rfl, hown, hb⟩
  have HB4 : Hid (Below w.heap.size w w4) := HB3.out.trans (hb.mono HB3.out.size)
  have HT4 : Hid (TmsAt w4 (some ⟨w3.heap.size, 0, none⟩) ts) := hown.at HSM.out.1 HSM.out.2
  clear hown hb
  go_wp2_with fail
  refine (implTeamsOk_any _ _ ts w4 HT4.out).mono ?_
  rintro e w5 ⟨rfl, hb⟩
  have HB5 : Hid (Below w.heap.size w w5) := HB4.out.trans (hb.mono HB4.out.size)
  have HT5 : Hid (TmsAt w5 (some ⟨w3.heap.size, 0, none⟩) ts) := HT4.out.mono hb
  clear hb
  go_wp2_with fail
  refine (toGateTeamS_any _ _ _ _ (HW.out.mono HB5.out) HLM.out).mono ?_
  rintro e w6 ⟨rfl, hown, hb⟩
  have HB6 : Hid (Below w.heap.size w w6) := HB5.out.trans (hb.mono HB5.out.size)
  have HT6 : Hid (TmsAt w6 (some ⟨w5.heap.size, 0, none⟩) ts) := hown.at HSM.out.1 HSM.out.2
  have HT6' : Hid (TmsAt w6 (some ⟨w3.heap.size, 0, none⟩) ts) := HT5.out.mono hb
  clear hown hb
  go_wp2_with fail
  refine (eqGateTeamS_yes _ _ _ _ _ _ HT6'.out HT6.out).mono ?_
  rintro e w7 ⟨rfl, hb⟩
  have HB7 : Hid (Below w.heap.size w w7) := HB6.out.trans (hb.mono HB6.out.size)
  clear hb
  go_wp2_with fail
  go_ret
  exact ⟨rfl, HB7.out⟩

end Go.Proofs.Ytlonpcaniibehaa

namespace Go.Proofs.Ytlonpcaniibehaa
open Go.ChangeShapes Go.WideShapes Go.ChangeAt Go.RowKit

section
variable {H : Type} {enc : TypeId × Value → H} {P : Program} {w : World} {base : Nat} {spare : Nat → Bool} {held : Bool}

theorem addr_of_cell {a : Addr} {v : Value} (h : w.cell? a = some v) : a = ⟨a.block, a.off, none⟩ ∧ a.block < w.heap.size := by
  obtain ⟨b, o, s⟩ := a
  unfold World.cell? at h
  cases hb : w.heap[b]? with
  | none => simp [hb] at h
  | some x =>
    have hlt := (Array.getElem?_eq_some_iff.1 hb).1
    cases s with
    | none => exact ⟨rfl, hlt⟩
    | some k => cases x <;> simp [hb] at h

theorem read_strs {t e : TypeId} {fuel : Nat} {cs : List Value} {x : DataW H × List MemPlace} (ht : P.underlying t = some (.slice e)) (he : P.underlying e = some .string) (hc : P.cellsOf e = 1)
    (h : DataW.trod enc P w base spare held fuel t cs = some x) : ∃ a cap ws, cs = [.slice a ws.length cap] ∧ StrsAt w a ws := by
  rcases open_strings ht he hc h with ⟨rfl, _⟩ | ⟨a, len, cap, ss, rfl, _, hl, hm, hz, _, hcell, hws⟩
  · exact ⟨none, 0, [], rfl, ⟨by simp [maxLen], by simp, fun h => absurd rfl h⟩⟩
  · have hle : len ≤ ss.length := by rw [hz]; split <;> omega
    have hlen : (ss.take len).length = len := by rw [List.length_take]; omega
    refine ⟨some a, cap, ss.take len, by rw [hlen], ⟨by rw [hlen]; omega, fun s hs => hws s (List.mem_of_mem_take hs), fun hne => ?_⟩⟩
    have hpos : 0 < len := by
      rcases Nat.eq_zero_or_pos len with h0 | h0
      · rw [h0] at hne; simp at hne
      · exact h0
    have h0 := hcell 0 (by omega)
    obtain ⟨ha, hb⟩ := addr_of_cell h0
    simp only [Addr.add, if_true] at ha hb
    refine ⟨a.block, a.off, by rw [← ha], hb, fun i hi => ?_⟩
    have hi' : i < len := by omega
    have h1 := hcell i (by omega)
    have e1 : a.add i = ⟨a.block, a.off + i, none⟩ := by
      unfold Addr.add; split
      · rename_i h; subst h; simpa using ha
      · rfl
    rw [e1] at h1
    rw [h1, List.getElem_take, List.getD_eq_getElem?_getD, List.getElem?_eq_getElem (by omega)]
    rfl

theorem field_read {t : TypeId} {fs : Array Field} {fuel : Nat} {cs : List Value} {x : DataW H × List MemPlace} (ht : P.underlying t = some (.struct fs)) (h : DataW.trod enc P w base spare held fuel t cs = some x)
    (i : Nat) (f : Field) (hf : fs[i]? = some f) : ∃ n y, DataW.trod enc P w base spare held n f.type ((cs.drop f.offset).take (P.cellsOf f.type)) = some y := by
  obtain ⟨xs, n, _, _, _, hxl, hall⟩ := DataW.trod_struct ht h
  have hi : i < fs.size := (Array.getElem?_eq_some_iff.1 hf).1
  exact ⟨n, xs[i]'(by omega), by rw [hall i f hf, List.getElem?_eq_getElem (by omega)]⟩

/-- A field of one cell, read. -/
theorem field_one {t : TypeId} {fs : Array Field} {fuel : Nat} {cs : List Value} {x : DataW H × List MemPlace} (ht : P.underlying t = some (.struct fs)) (h : DataW.trod enc P w base spare held fuel t cs = some x)
    (i tf off : Nat) (c : Value) (hf : (fs[i]?).map (fun f => (f.type, f.offset)) = some (tf, off)) (hone : P.cellsOf tf = 1) (hc : cs[off]? = some c) : ∃ n y, DataW.trod enc P w base spare held n tf [c] = some y := by
  obtain ⟨f, hf1, hf2⟩ := Option.map_eq_some_iff.1 hf
  simp only [Prod.mk.injEq] at hf2
  obtain ⟨rfl, rfl⟩ := hf2
  obtain ⟨n, y, hy⟩ := field_read ht h i f hf1
  rw [hone] at hy
  obtain ⟨hlt, hget⟩ := List.getElem?_eq_some_iff.1 hc
  rw [List.drop_eq_getElem_cons hlt, hget] at hy
  exact ⟨n, y, hy⟩

end

theorem list_of {α : Type} {P : Nat → α → Prop} : ∀ n : Nat, (∀ i, i < n → ∃ x, P i x) → ∃ l : List α, l.length = n ∧ ∀ i (h : i < l.length), P i l[i]
  | 0, _ => ⟨[], rfl, fun i h => absurd h (by simp)⟩
  | n + 1, h => by
    obtain ⟨l, hl, hP⟩ := list_of n (fun i hi => h i (by omega))
    obtain ⟨x, hx⟩ := h n (by omega)
    refine ⟨l ++ [x], by simp [hl], fun i hi => ?_⟩
    rcases Nat.lt_or_ge i n with h1 | h1
    · rw [List.getElem_append_left (by omega)]; exact hP i (by omega)
    · have e : i = n := by simp at hi; omega
      subst e
      rw [List.getElem_append_right (by omega)]
      simpa [hl] using hx

theorem add_add (b o m j : Nat) : ((⟨b, o, none⟩ : Addr).add m).add j = ⟨b, o + m + j, none⟩ := by
  unfold Addr.add
  by_cases h1 : m = 0 <;> by_cases h2 : j = 0 <;> simp [h1, h2]

section
variable {H : Type} {enc : TypeId × Value → H} {P : Program} {w : World} {base : Nat} {spare : Nat → Bool} {held : Bool}

/-- A slice of rows of sz cells, read: nil, or where it lies and what each row reads as. -/
theorem read_rows {t e : TypeId} {sz fuel : Nat} {cs : List Value} {x : DataW H × List MemPlace} (ht : P.underlying t = some (.slice e)) (hsz : P.cellsOf e = sz) (hpos : 0 < sz)
    (h : DataW.trod enc P w base spare held fuel t cs = some x) :
    ∃ a len cap, cs = [.slice a len cap] ∧ len ≤ maxLen ∧ (0 < len → ∃ b off, a = some ⟨b, off, none⟩ ∧ b < w.heap.size ∧
      ∀ i, i < len → ∃ es n y, es.length = sz ∧ (∀ j, j < sz → w.cell? ⟨b, off + i * sz + j, none⟩ = es[j]?) ∧ DataW.trod enc P w base spare held n e es = some y) := by
  rcases DataW.trod_slice ht h with ⟨rfl, _⟩ | ⟨a, len, cap, elems, rest, n, _, rfl, _, hb, hl, hm, hlen, hel, _, _⟩
  · exact ⟨none, 0, 0, rfl, by simp [maxLen], fun h => absurd h (by omega)⟩
  · refine ⟨some a, len, cap, rfl, by omega, fun hp => ?_⟩
    have each : ∀ i, i < len → ∃ es y, w.cells? base (a.add (i * sz)) sz = some es ∧ DataW.trod enc P w base spare held n e es = some y := by
      intro i hi
      have h1 := hel i hi
      rw [hsz, List.getElem?_eq_getElem (by omega), Option.bind_eq_some_iff] at h1
      obtain ⟨es, h2, h3⟩ := h1
      exact ⟨es, _, h2, h3⟩
    obtain ⟨es0, y0, hc0, _⟩ := each 0 hp
    obtain ⟨_, _, hcell0⟩ := World.cells?_some hc0
    have h00 := hcell0 0 hpos
    have hes0 : ∃ v, w.cell? a = some v := by
      have hl0 := (World.cells?_some hc0).2.1
      refine ⟨es0[0]'(by omega), ?_⟩
      have := h00
      simp only [Nat.zero_mul, Addr.add, if_true] at this
      rw [this, List.getElem?_eq_getElem (by omega)]
    obtain ⟨v0, hv0⟩ := hes0
    obtain ⟨ha, hbl⟩ := addr_of_cell hv0
    refine ⟨a.block, a.off, by rw [← ha], hbl, fun i hi => ?_⟩
    obtain ⟨es, y, hc, hy⟩ := each i hi
    obtain ⟨_, hlen', hcell⟩ := World.cells?_some hc
    refine ⟨es, n, y, hlen', fun j hj => ?_, hy⟩
    have e1 : (a.add (i * sz)).add j = ⟨a.block, a.off + i * sz + j, none⟩ := by
      have := add_add a.block a.off (i * sz) j
      rwa [← ha] at this
    rw [← e1]
    exact hcell j hj

end

theorem Try.cellsString : Try.prog.cellsOf 9 = 1 := by kernel_rfl
theorem Try.cellsInt : Try.prog.cellsOf 3 = 1 := by kernel_rfl
theorem Try.cellsBool : Try.prog.cellsOf 4 = 1 := by kernel_rfl

end Go.Proofs.Ytlonpcaniibehaa
