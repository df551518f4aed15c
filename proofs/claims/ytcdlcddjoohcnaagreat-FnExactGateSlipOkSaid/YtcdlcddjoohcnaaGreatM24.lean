import Derived.Test.YtcdlcddjoohcnaaGreatM18
import Derived.Test.YtcdlcddjoohcnaaGreatM12
import Derived.Test.YtcdlcddjoohcnaaGreatM09
import Derived.Test.YtcdlcddjoohcnaaGreatM02
import Derived.Deep.QuietTactic
import Derived.BigQuiet
import Derived.Test.YtcdlcddjoohcnaaGreatM19
namespace Go.Proofs.YtcdlcddjoohcnaaGreat
open Go.RowKit

set_option maxHeartbeats 400000 in
theorem l4Team_any (a : Option Addr) (cap : Nat) (ts : List Tm) (v : ByteArray) (w : World) (hw : TmsAt w a ts) :
    Calls Tryz.prog 64 #[.slice a ts.length cap, .string v] w fun e w' => e = .returned (.bool (Gate.hasTeam ts v)) ∧ w' = w := by
  have hl := hw.len
  unfold maxLen at hl
  go_enter Tryz.func64, Tryz.ntmps64
  go_wp2_with fail
  go_loop [5] (fun i => ∃ k : Nat, k ≤ ts.length ∧ i = .int .i64 k ∧ Gate.hasTeam (ts.take k) v = false) (fun i => ts.length - (intOf i).toNat)
  case atStart => exact ⟨0, Nat.zero_le _, rfl, rfl⟩
  case round =>
    obtain ⟨k, hk, rfl, hall⟩ := hrel
    by_cases hlt : k < ts.length
    · obtain ⟨b, off, rfl, hb, c0, c1⟩ := hw.load (Below.refl _ _) k hlt
      clear hw
      have HS : Hid (Gate.hasTeam (ts.take (k + 1)) v = (false || decide (ts[k].nm = v))) := by rw [Gate.hasTeam_snoc ts v k hlt, hall]; rfl
      have hltI : (k : Int) < (ts.length : Int) := by omega
      by_cases he : ts[k].nm = v
      · have hbe : (ts[k].nm.toList == v.toList) = true := by rw [Gate.beq_toList]; simpa using he
        have HR : Hid (Gate.hasTeam ts v = true) := Gate.hasTeam_at ts v k hlt he
        clear he hall
        go_wp2_with fail
        go_ret
        exact ⟨ret_bool HR.out.symm, rfl⟩
      · have hbe : (ts[k].nm.toList == v.toList) = false := by rw [Gate.beq_toList]; simpa using he
        have HE : Hid (¬ ts[k].nm = v) := he
        clear he hall
        go_wp2_with fail
        go_round
        case rel => exact ⟨k + 1, by omega, by go_num, by rw [HS.out, decide_eq_false HE.out]; rfl⟩
        case measure => simp [intOf]; omega
    · have HR : Hid (Gate.hasTeam ts v = false) := by rw [← Gate.hasTeam_all ts v k (by omega)]; exact hall
      clear hall hw
      go_wp2_with fail
      go_ret
      exact ⟨ret_bool HR.out.symm, rfl⟩

theorem Gate.climbS_empty (ts : List Tm) (m : Nat) (z : ByteArray) (h : z.size = 0) : Gate.climbS ts m z = z := by
  cases m with
  | zero => rfl
  | succ m => unfold Gate.climbS; rw [if_pos h]
theorem Gate.climbS_step (ts : List Tm) (m : Nat) (z : ByteArray) (h : ¬ z.size = 0) : Gate.climbS ts (m + 1) z = Gate.climbS ts m (Gate.over ts z) := by
  rw [Gate.climbS, if_neg h]

set_option maxHeartbeats 1000000 in
theorem specTeamsOk_any (a : Option Addr) (cap : Nat) (ts : List Tm) (w : World) (hw : TmsAt w a ts) :
    Calls Tryz.prog 38 #[.slice a ts.length cap] w fun e w' => e = .returned (.bool (Gate.teamsOkS ts)) ∧ Below w.heap.size w w' := by
  have hl := hw.len
  unfold maxLen at hl
  by_cases h12 : ts.length ≤ 12
  rotate_left
  · have HF : Hid (Gate.teamsOkS ts = false) := by simp [Hid, Gate.teamsOkS, h12]
    clear hw
    go_enter Tryz.func38, Tryz.ntmps38
    go_wp2_with fail
    go_ret
    exact ⟨ret_bool HF.out.symm, Below.refl _ _⟩
  have HG : Hid (Gate.teamsOkS ts = Gate.up (Gate.teamAtS ts) ts.length) := by simp [Hid, Gate.teamsOkS, h12]
  have h12I : (ts.length : Int) ≤ 12 := by omega
  have HW0 : Hid (TmsAt w a ts) := hw
  clear hw
  go_enter Tryz.func38, Tryz.ntmps38
  go_wp2_with fail
  go_loopw [3] (fun i wr => ∃ k : Nat, k ≤ ts.length ∧ i = .int .i64 k ∧ Gate.up (Gate.teamAtS ts) k = true ∧ Below w.heap.size w wr) (fun i _ => ts.length - (intOf i).toNat)
  case atStart => exact ⟨0, Nat.zero_le _, rfl, rfl, Below.refl _ _⟩
  case round =>
    obtain ⟨k, hk, rfl, hup, hB⟩ := hrel
    obtain ⟨W0, rfl⟩ : ∃ W0, W0 = wr := ⟨wr, rfl⟩
    have hsz := hB.size
    by_cases hlt : k < ts.length
    · obtain ⟨b, off, rfl, hb, c0, c1⟩ := HW0.out.load hB k hlt
      have hbr : b < W0.heap.size := by omega
      have hsm := HW0.out.small k hlt
      have hsn := hsm.nm
      have HS : Hid (Gate.teamAt ts k = true → Gate.deepS ts k = true → Gate.up (Gate.teamAtS ts) (k + 1) = true) := fun h h' => by rw [Gate.up_succ, hup, Gate.teamAtS, h, h']; rfl
      have HN : Hid (Gate.teamAt ts k = false → Gate.teamsOkS ts = false) := fun h => by rw [HG.out]; exact Gate.up_not hlt (by rw [Gate.teamAtS, h]; rfl)
      have HD : Hid (Gate.deepS ts k = false → Gate.teamsOkS ts = false) := fun h => by rw [HG.out]; exact Gate.up_not hlt (by rw [Gate.teamAtS, h, Bool.and_false])
      have HDS : Hid (Gate.deepS ts k = decide ((Gate.climbS ts 5 ts[k].nm).size = 0)) := by unfold Hid Gate.deepS; rw [Gate.getD_at ts k _ hlt]
      have hltI : (k : Int) < (ts.length : Int) := by omega
      have HB : Hid (Below w.heap.size w W0) := hB
      have HBx : Hid (∀ (ob : Obj) (n : Nat), Below W0.heap.size W0 ((W0.alloc ob).drewN n)) := fun ob n => below_drewN ((Below.refl _ _).alloc (Nat.le_refl _) _) _
      have HWr : Hid (∀ (ob : Obj) (n : Nat), TmsAt ((W0.alloc ob).drewN n) (some ⟨b, off, none⟩) ts) := fun ob n => (HW0.out.mono hB).mono (below_drewN ((Below.refl _ _).alloc (Nat.le_refl _) _) _)
      clear hup hsm hB
      by_cases hn : Gate.nameOk ts[k].nm = true
      rotate_left
      · have HNm : Hid (Gate.nameOk ts[k].nm = false) := by simpa [Hid] using hn
        have HF : Hid (Gate.teamAt ts k = false) := by unfold Hid; rw [Gate.teamAt_at ts k hlt _ rfl, HNm.out]; rfl
        clear hn
        go_wp2_with fail
        go_quiet ((go_at_call 39; exact Calls.quiet_of_same (as_bool HNm.out (l1NameOk_any _ _ hsn))))
        go_wp2_with fail
        go_ret
        exact ⟨ret_bool (HN.out HF.out).symm, HB.out.trans ((HBx.out _ _).mono hsz)⟩
      have HNm : Hid (Gate.nameOk ts[k].nm = true) := hn
      clear hn
      by_cases hbad : 0 < k ∧ Gate.less (ts.getD (k - 1) Gate.noTeam).nm ts[k].nm = false
      · obtain ⟨hkpos, hls⟩ := hbad
        have HF : Hid (Gate.teamAt ts k = false) := by
          unfold Hid; rw [Gate.teamAt_at ts k hlt false (by rw [hls, decide_eq_false (show ¬ k = 0 by omega)]; rfl)]; simp
        obtain ⟨m, rfl⟩ : ∃ m, k = m + 1 := ⟨k - 1, by omega⟩
        rw [Nat.add_sub_cancel, Gate.getD_at ts m _ (by omega)] at hls
        obtain ⟨b', off', e', hb', d0, d1⟩ := HW0.out.load HB.out m (by omega)
        simp only [Option.some.injEq, Addr.mk.injEq] at e'
        obtain ⟨rfl, rfl, _⟩ := e'
        have hls' : Op.bytesLess ts[m].nm.toList ts[m + 1].nm.toList = false := hls
        have hmI : (m : Int) < 12 := by omega
        have hm0 : (0 : Int) ≤ (m : Int) := by omega
        have hml : (m : Int) < (ts.length : Int) := by omega
        have hmw : IntKind.i64.wrap (m : Int) = m := by rw [IntKind.wrap_i64]; omega
        clear hls
        go_wp2_with fail
        go_quiet ((go_at_call 39; exact Calls.quiet_of_same (as_bool HNm.out (l1NameOk_any _ _ hsn))))
        go_wp2_with fail
        go_ret
        exact ⟨ret_bool (HN.out HF.out).symm, HB.out.trans ((HBx.out _ _).mono hsz)⟩
      have hgd : (decide (k = 0) || Gate.less (ts.getD (k - 1) Gate.noTeam).nm ts[k].nm) = true := by
        by_cases hk0 : k = 0
        · simp [hk0]
        · cases hq : Gate.less (ts.getD (k - 1) Gate.noTeam).nm ts[k].nm
          · exact absurd ⟨by omega, hq⟩ hbad
          · simp
      have HA : Hid (Gate.teamAt ts k = (ts[k].ov.toList.isEmpty || Gate.hasTeam ts ts[k].ov)) := by
        unfold Hid; rw [Gate.teamAt_at ts k hlt true hgd, HNm.out]; rfl
      have hgood : (decide (0 < k) = false) ∨ (decide (0 < k) = true ∧ (0 : Int) ≤ (k : Int) - 1 ∧ (k : Int) - 1 < (ts.length : Int) ∧ ∃ h : k - 1 < ts.length, Op.bytesLess ts[k - 1].nm.toList ts[k].nm.toList = true ∧ W0.cell? ⟨b, off + (k - 1) * 2, none⟩ = some (.string ts[k - 1].nm)) := by
        by_cases hk0 : k = 0
        · exact Or.inl (by simp; omega)
        · refine Or.inr ⟨by simp; omega, by omega, by omega, by omega, ?_, ?_⟩
          · rw [decide_eq_false hk0, Gate.getD_at ts (k - 1) _ (by omega)] at hgd
            exact hgd
          · obtain ⟨b', off', e', hb', d0, d1⟩ := HW0.out.load HB.out (k - 1) (by omega)
            simp only [Option.some.injEq, Addr.mk.injEq] at e'
            obtain ⟨rfl, rfl, _⟩ := e'
            exact d0
      clear hbad hgd
      by_cases hov : ts[k].ov.toList.isEmpty = true
      · have HT : Hid (Gate.teamAt ts k = true) := by unfold Hid; rw [HA.out, hov]; rfl
        rcases hgood with hg | ⟨hg, hk1, hk2, hkm, hls', d0⟩
        · go_wp2_with fail
          go_quiet ((go_at_call 39; exact Calls.quiet_of_same (as_bool HNm.out (l1NameOk_any _ _ hsn))))
          go_wp2_with fail
          obtain ⟨W1, hW1⟩ : ∃ W1, W1 = (W0.alloc (.cells #[.string ts[k].nm, .string ts[k].ov] 98)).drewN nq := ⟨_, rfl⟩
          have HB1 : Hid (Below w.heap.size w W1) := by unfold Hid; rw [hW1]; exact HB.out.trans ((HBx.out _ _).mono hsz)
          have HW1 : Hid (TmsAt W1 (some ⟨b, off, none⟩) ts) := HW0.out.mono HB1.out
          rw [← hW1]
          clear hW1
          go_loopw [5, 6] (fun p i wi => ∃ (n : Nat) (z : ByteArray), n ≤ 5 ∧ p = .string z ∧ i = .int .i64 n ∧ Gate.climbS ts 5 ts[k].nm = Gate.climbS ts (5 - n) z ∧ wi = W1) (fun _ i _ => 5 - (intOf i).toNat)
          case atStart => exact ⟨0, ts[k].nm, Nat.zero_le _, rfl, rfl, rfl, rfl⟩
          case round =>
            obtain ⟨n, z, hn5, rfl, rfl, hz, rfl⟩ := hrel
            by_cases hn : n < 5
            · have hnI : (n : Int) ≤ 4 := by omega
              by_cases hz0 : z.size = 0
              · have hze : z.toList.isEmpty = true := by rw [Gate.isEmpty_of_size]; simpa using hz0
                have HDT : Hid (Gate.deepS ts (k) = true) := by unfold Hid; rw [HDS.out, hz, Gate.climbS_empty ts _ z hz0]; simpa using hz0
                clear hz hz0
                go_wp2_with fail
                exact ⟨⟨k + 1, by omega, by go_num, HS.out HT.out HDT.out, HB1.out⟩, by simp [intOf]; omega⟩
              · have hze : z.toList.isEmpty = false := by rw [Gate.isEmpty_of_size]; simpa using hz0
                have HZ : Hid (Gate.climbS ts 5 ts[k].nm = Gate.climbS ts (5 - (n + 1)) (Gate.over ts z)) := by
                  obtain ⟨q, hq⟩ : ∃ q, 5 - n = q + 1 := ⟨4 - n, by omega⟩
                  rw [Hid, hz, hq, Gate.climbS_step ts q z hz0, show 5 - (n + 1) = q by omega]
                clear hz hz0
                go_wp2_with (go_at_call 65; refine (l4Over_any _ _ ts _ _ HW1.out).mono ?_; rintro e w' ⟨rfl, rfl⟩)
                exact ⟨⟨n + 1, Gate.over ts z, by omega, rfl, by go_num, HZ.out, trivial⟩, by simp [intOf]; omega⟩
            · have e5 : 5 - n = 0 := by omega
              rw [e5] at hz
              have hnI : ¬ (n : Int) ≤ 4 := by omega
              by_cases hz0 : z.size = 0
              · have hze : z.toList.isEmpty = true := by rw [Gate.isEmpty_of_size]; simpa using hz0
                have HDT : Hid (Gate.deepS ts (k) = true) := by unfold Hid; rw [HDS.out, hz]; simpa [Gate.climbS] using hz0
                clear hz hz0
                go_wp2_with fail
                exact ⟨⟨k + 1, by omega, by go_num, HS.out HT.out HDT.out, HB1.out⟩, by simp [intOf]; omega⟩
              · have hze : z.toList.isEmpty = false := by rw [Gate.isEmpty_of_size]; simpa using hz0
                have HDT : Hid (Gate.deepS ts (k) = false) := by unfold Hid; rw [HDS.out, hz]; simpa [Gate.climbS] using hz0
                clear hz hz0
                go_wp2_with fail
                go_ret
                exact ⟨ret_bool (HD.out HDT.out).symm, HB1.out⟩
        · go_wp2_with fail
          go_quiet ((go_at_call 39; exact Calls.quiet_of_same (as_bool HNm.out (l1NameOk_any _ _ hsn))))
          go_wp2_with fail
          obtain ⟨W1, hW1⟩ : ∃ W1, W1 = (W0.alloc (.cells #[.string ts[k].nm, .string ts[k].ov] 98)).drewN nq := ⟨_, rfl⟩
          have HB1 : Hid (Below w.heap.size w W1) := by unfold Hid; rw [hW1]; exact HB.out.trans ((HBx.out _ _).mono hsz)
          have HW1 : Hid (TmsAt W1 (some ⟨b, off, none⟩) ts) := HW0.out.mono HB1.out
          rw [← hW1]
          clear hW1
          go_loopw [5, 6] (fun p i wi => ∃ (n : Nat) (z : ByteArray), n ≤ 5 ∧ p = .string z ∧ i = .int .i64 n ∧ Gate.climbS ts 5 ts[k].nm = Gate.climbS ts (5 - n) z ∧ wi = W1) (fun _ i _ => 5 - (intOf i).toNat)
          case atStart => exact ⟨0, ts[k].nm, Nat.zero_le _, rfl, rfl, rfl, rfl⟩
          case round =>
            obtain ⟨n, z, hn5, rfl, rfl, hz, rfl⟩ := hrel
            by_cases hn : n < 5
            · have hnI : (n : Int) ≤ 4 := by omega
              by_cases hz0 : z.size = 0
              · have hze : z.toList.isEmpty = true := by rw [Gate.isEmpty_of_size]; simpa using hz0
                have HDT : Hid (Gate.deepS ts (k) = true) := by unfold Hid; rw [HDS.out, hz, Gate.climbS_empty ts _ z hz0]; simpa using hz0
                clear hz hz0
                go_wp2_with fail
                exact ⟨⟨k + 1, by omega, by go_num, HS.out HT.out HDT.out, HB1.out⟩, by simp [intOf]; omega⟩
              · have hze : z.toList.isEmpty = false := by rw [Gate.isEmpty_of_size]; simpa using hz0
                have HZ : Hid (Gate.climbS ts 5 ts[k].nm = Gate.climbS ts (5 - (n + 1)) (Gate.over ts z)) := by
                  obtain ⟨q, hq⟩ : ∃ q, 5 - n = q + 1 := ⟨4 - n, by omega⟩
                  rw [Hid, hz, hq, Gate.climbS_step ts q z hz0, show 5 - (n + 1) = q by omega]
                clear hz hz0
                go_wp2_with (go_at_call 65; refine (l4Over_any _ _ ts _ _ HW1.out).mono ?_; rintro e w' ⟨rfl, rfl⟩)
                exact ⟨⟨n + 1, Gate.over ts z, by omega, rfl, by go_num, HZ.out, trivial⟩, by simp [intOf]; omega⟩
            · have e5 : 5 - n = 0 := by omega
              rw [e5] at hz
              have hnI : ¬ (n : Int) ≤ 4 := by omega
              by_cases hz0 : z.size = 0
              · have hze : z.toList.isEmpty = true := by rw [Gate.isEmpty_of_size]; simpa using hz0
                have HDT : Hid (Gate.deepS ts (k) = true) := by unfold Hid; rw [HDS.out, hz]; simpa [Gate.climbS] using hz0
                clear hz hz0
                go_wp2_with fail
                exact ⟨⟨k + 1, by omega, by go_num, HS.out HT.out HDT.out, HB1.out⟩, by simp [intOf]; omega⟩
              · have hze : z.toList.isEmpty = false := by rw [Gate.isEmpty_of_size]; simpa using hz0
                have HDT : Hid (Gate.deepS ts (k) = false) := by unfold Hid; rw [HDS.out, hz]; simpa [Gate.climbS] using hz0
                clear hz hz0
                go_wp2_with fail
                go_ret
                exact ⟨ret_bool (HD.out HDT.out).symm, HB1.out⟩
      · have hov' : ts[k].ov.toList.isEmpty = false := by simpa using hov
        clear hov
        by_cases hit : Gate.hasTeam ts ts[k].ov = true
        · have HI : Hid (Gate.hasTeam ts ts[k].ov = true) := hit
          have HT : Hid (Gate.teamAt ts k = true) := by unfold Hid; rw [HA.out, hit]; simp
          clear hit
          rcases hgood with hg | ⟨hg, hk1, hk2, hkm, hls', d0⟩
          · go_wp2_with fail
            go_quiet (first | (go_at_call 39; exact Calls.quiet_of_same (as_bool HNm.out (l1NameOk_any _ _ hsn))) | (go_at_call 64; exact Calls.quiet_of_same (as_bool HI.out (l4Team_any _ _ ts _ _ (by exact HWr.out _ _)))))
            go_wp2_with fail
            obtain ⟨W1, hW1⟩ : ∃ W1, W1 = (W0.alloc (.cells #[.string ts[k].nm, .string ts[k].ov] 98)).drewN nq := ⟨_, rfl⟩
            have HB1 : Hid (Below w.heap.size w W1) := by unfold Hid; rw [hW1]; exact HB.out.trans ((HBx.out _ _).mono hsz)
            have HW1 : Hid (TmsAt W1 (some ⟨b, off, none⟩) ts) := HW0.out.mono HB1.out
            rw [← hW1]
            clear hW1
            go_loopw [5, 6] (fun p i wi => ∃ (n : Nat) (z : ByteArray), n ≤ 5 ∧ p = .string z ∧ i = .int .i64 n ∧ Gate.climbS ts 5 ts[k].nm = Gate.climbS ts (5 - n) z ∧ wi = W1) (fun _ i _ => 5 - (intOf i).toNat)
            case atStart => exact ⟨0, ts[k].nm, Nat.zero_le _, rfl, rfl, rfl, rfl⟩
            case round =>
              obtain ⟨n, z, hn5, rfl, rfl, hz, rfl⟩ := hrel
              by_cases hn : n < 5
              · have hnI : (n : Int) ≤ 4 := by omega
                by_cases hz0 : z.size = 0
                · have hze : z.toList.isEmpty = true := by rw [Gate.isEmpty_of_size]; simpa using hz0
                  have HDT : Hid (Gate.deepS ts (k) = true) := by unfold Hid; rw [HDS.out, hz, Gate.climbS_empty ts _ z hz0]; simpa using hz0
                  clear hz hz0
                  go_wp2_with fail
                  exact ⟨⟨k + 1, by omega, by go_num, HS.out HT.out HDT.out, HB1.out⟩, by simp [intOf]; omega⟩
                · have hze : z.toList.isEmpty = false := by rw [Gate.isEmpty_of_size]; simpa using hz0
                  have HZ : Hid (Gate.climbS ts 5 ts[k].nm = Gate.climbS ts (5 - (n + 1)) (Gate.over ts z)) := by
                    obtain ⟨q, hq⟩ : ∃ q, 5 - n = q + 1 := ⟨4 - n, by omega⟩
                    rw [Hid, hz, hq, Gate.climbS_step ts q z hz0, show 5 - (n + 1) = q by omega]
                  clear hz hz0
                  go_wp2_with (go_at_call 65; refine (l4Over_any _ _ ts _ _ HW1.out).mono ?_; rintro e w' ⟨rfl, rfl⟩)
                  exact ⟨⟨n + 1, Gate.over ts z, by omega, rfl, by go_num, HZ.out, trivial⟩, by simp [intOf]; omega⟩
              · have e5 : 5 - n = 0 := by omega
                rw [e5] at hz
                have hnI : ¬ (n : Int) ≤ 4 := by omega
                by_cases hz0 : z.size = 0
                · have hze : z.toList.isEmpty = true := by rw [Gate.isEmpty_of_size]; simpa using hz0
                  have HDT : Hid (Gate.deepS ts (k) = true) := by unfold Hid; rw [HDS.out, hz]; simpa [Gate.climbS] using hz0
                  clear hz hz0
                  go_wp2_with fail
                  exact ⟨⟨k + 1, by omega, by go_num, HS.out HT.out HDT.out, HB1.out⟩, by simp [intOf]; omega⟩
                · have hze : z.toList.isEmpty = false := by rw [Gate.isEmpty_of_size]; simpa using hz0
                  have HDT : Hid (Gate.deepS ts (k) = false) := by unfold Hid; rw [HDS.out, hz]; simpa [Gate.climbS] using hz0
                  clear hz hz0
                  go_wp2_with fail
                  go_ret
                  exact ⟨ret_bool (HD.out HDT.out).symm, HB1.out⟩
          · go_wp2_with fail
            go_quiet (first | (go_at_call 39; exact Calls.quiet_of_same (as_bool HNm.out (l1NameOk_any _ _ hsn))) | (go_at_call 64; exact Calls.quiet_of_same (as_bool HI.out (l4Team_any _ _ ts _ _ (by exact HWr.out _ _)))))
            go_wp2_with fail
            obtain ⟨W1, hW1⟩ : ∃ W1, W1 = (W0.alloc (.cells #[.string ts[k].nm, .string ts[k].ov] 98)).drewN nq := ⟨_, rfl⟩
            have HB1 : Hid (Below w.heap.size w W1) := by unfold Hid; rw [hW1]; exact HB.out.trans ((HBx.out _ _).mono hsz)
            have HW1 : Hid (TmsAt W1 (some ⟨b, off, none⟩) ts) := HW0.out.mono HB1.out
            rw [← hW1]
            clear hW1
            go_loopw [5, 6] (fun p i wi => ∃ (n : Nat) (z : ByteArray), n ≤ 5 ∧ p = .string z ∧ i = .int .i64 n ∧ Gate.climbS ts 5 ts[k].nm = Gate.climbS ts (5 - n) z ∧ wi = W1) (fun _ i _ => 5 - (intOf i).toNat)
            case atStart => exact ⟨0, ts[k].nm, Nat.zero_le _, rfl, rfl, rfl, rfl⟩
            case round =>
              obtain ⟨n, z, hn5, rfl, rfl, hz, rfl⟩ := hrel
              by_cases hn : n < 5
              · have hnI : (n : Int) ≤ 4 := by omega
                by_cases hz0 : z.size = 0
                · have hze : z.toList.isEmpty = true := by rw [Gate.isEmpty_of_size]; simpa using hz0
                  have HDT : Hid (Gate.deepS ts (k) = true) := by unfold Hid; rw [HDS.out, hz, Gate.climbS_empty ts _ z hz0]; simpa using hz0
                  clear hz hz0
                  go_wp2_with fail
                  exact ⟨⟨k + 1, by omega, by go_num, HS.out HT.out HDT.out, HB1.out⟩, by simp [intOf]; omega⟩
                · have hze : z.toList.isEmpty = false := by rw [Gate.isEmpty_of_size]; simpa using hz0
                  have HZ : Hid (Gate.climbS ts 5 ts[k].nm = Gate.climbS ts (5 - (n + 1)) (Gate.over ts z)) := by
                    obtain ⟨q, hq⟩ : ∃ q, 5 - n = q + 1 := ⟨4 - n, by omega⟩
                    rw [Hid, hz, hq, Gate.climbS_step ts q z hz0, show 5 - (n + 1) = q by omega]
                  clear hz hz0
                  go_wp2_with (go_at_call 65; refine (l4Over_any _ _ ts _ _ HW1.out).mono ?_; rintro e w' ⟨rfl, rfl⟩)
                  exact ⟨⟨n + 1, Gate.over ts z, by omega, rfl, by go_num, HZ.out, trivial⟩, by simp [intOf]; omega⟩
              · have e5 : 5 - n = 0 := by omega
                rw [e5] at hz
                have hnI : ¬ (n : Int) ≤ 4 := by omega
                by_cases hz0 : z.size = 0
                · have hze : z.toList.isEmpty = true := by rw [Gate.isEmpty_of_size]; simpa using hz0
                  have HDT : Hid (Gate.deepS ts (k) = true) := by unfold Hid; rw [HDS.out, hz]; simpa [Gate.climbS] using hz0
                  clear hz hz0
                  go_wp2_with fail
                  exact ⟨⟨k + 1, by omega, by go_num, HS.out HT.out HDT.out, HB1.out⟩, by simp [intOf]; omega⟩
                · have hze : z.toList.isEmpty = false := by rw [Gate.isEmpty_of_size]; simpa using hz0
                  have HDT : Hid (Gate.deepS ts (k) = false) := by unfold Hid; rw [HDS.out, hz]; simpa [Gate.climbS] using hz0
                  clear hz hz0
                  go_wp2_with fail
                  go_ret
                  exact ⟨ret_bool (HD.out HDT.out).symm, HB1.out⟩
        · have HI : Hid (Gate.hasTeam ts ts[k].ov = false) := by simpa [Hid] using hit
          have HF : Hid (Gate.teamAt ts k = false) := by unfold Hid; rw [HA.out, HI.out, hov']; rfl
          clear hit
          rcases hgood with hg | ⟨hg, hk1, hk2, hkm, hls', d0⟩
          · go_wp2_with fail
            go_quiet (first | (go_at_call 39; exact Calls.quiet_of_same (as_bool HNm.out (l1NameOk_any _ _ hsn))) | (go_at_call 64; exact Calls.quiet_of_same (as_bool HI.out (l4Team_any _ _ ts _ _ (by exact HWr.out _ _)))))
            go_wp2_with fail
            go_ret
            exact ⟨ret_bool (HN.out HF.out).symm, HB.out.trans ((HBx.out _ _).mono hsz)⟩
          · go_wp2_with fail
            go_quiet (first | (go_at_call 39; exact Calls.quiet_of_same (as_bool HNm.out (l1NameOk_any _ _ hsn))) | (go_at_call 64; exact Calls.quiet_of_same (as_bool HI.out (l4Team_any _ _ ts _ _ (by exact HWr.out _ _)))))
            go_wp2_with fail
            go_ret
            exact ⟨ret_bool (HN.out HF.out).symm, HB.out.trans ((HBx.out _ _).mono hsz)⟩
    · have HF : Hid (Gate.teamsOkS ts = true) := by
        have e : k = ts.length := by omega
        subst e; rw [Hid, HG.out, hup]
      clear hup
      go_wp2_with fail
      go_ret
      exact ⟨ret_bool HF.out.symm, hB⟩

end Go.Proofs.YtcdlcddjoohcnaaGreat

namespace Go.Proofs.YtcdlcddjoohcnaaGreat
open Go.RowKit

theorem ownsRow_same {w w' : World} {base : Nat} {e : TypeId} {size : Nat} {v : Value} {n : Nat} {xs : List Value} (h : w.ownsRow base e size v n xs) (hb : ∀ g, v.ownBlock = some g → w'.heap[g]? = w.heap[g]?) : w'.ownsRow base e size v n xs := by
  obtain ⟨h0, h1 | ⟨g, cap, cur, rfl, h2, h3, h4⟩⟩ := h
  · exact ⟨h0, Or.inl h1⟩
  · exact ⟨h0, Or.inr ⟨g, cap, cur, rfl, h2, (hb g rfl).trans h3, h4⟩⟩

theorem ownsRow_later {w w' : World} {base : Nat} {e : TypeId} {size : Nat} {v : Value} {n : Nat} {xs : List Value} (h : w.ownsRow base e size v n xs) (hb : Below w.heap.size w w') : w'.ownsRow base e size v n xs :=
  ownsRow_same h fun g hg => hb.block g (h.lt g hg).2

theorem ownsRow_low {w : World} {base base' : Nat} {e : TypeId} {size : Nat} {v : Value} {n : Nat} {xs : List Value} (h : w.ownsRow base e size v n xs) (hb : base' ≤ base) : w.ownsRow base' e size v n xs := by
  obtain ⟨h0, h1 | ⟨g, cap, cur, rfl, h2, h3, h4⟩⟩ := h
  · exact ⟨h0, Or.inl h1⟩
  · exact ⟨h0, Or.inr ⟨g, cap, cur, rfl, Nat.le_trans hb h2, h3, h4⟩⟩

theorem one_news (w : World) (x : Value) (t : TypeId) : ∀ j u, [x][j]? = some u → (w.alloc (.cells #[x] t)).cell? ((⟨w.heap.size, 0, none⟩ : Addr).add j) = some u := by
  intro j u hj
  rcases j with _ | j
  · have e : (⟨w.heap.size, 0, none⟩ : Addr).add 0 = ⟨w.heap.size, 0, none⟩ := rfl
    rw [e, World.cell?_alloc_at (hn := rfl)]
    simpa using hj
  · simp at hj

theorem grown_block {w w1 : World} {row : Option Nat} {b : Nat} (hg : w.grownBy w1 row) (hb : b < w.heap.size) (h : ∀ g, row = some g → b ≠ g) : w1.heap[b]? = w.heap[b]? :=
  hg.block b hb (fun e => h b e.symm rfl)

/-- What an append of one new element leaves. -/
theorem grown_below {B : Nat} {w0 w w1 : World} {v x : Value} {t : TypeId} (h : Below B w0 w) (hB : B ≤ w.heap.size) (hg : (w.alloc (.cells #[x] t)).grownBy w1 v.ownBlock) (hr : ∀ k, v.ownBlock = some k → B ≤ k) : Below B w0 w1 :=
  (h.alloc hB _).grown hg (by simp; omega) hr

namespace Gate
def isSet (s : ByteArray) : Bool := !s.toList.isEmpty
/-- The names of the fields that a mend looks at. -/
def readNames (m : Mnd) : List ByteArray := [m.wh, m.fr].filter isSet
def turns (m : Mnd) (s : Shp) (p : Nat) : Bool := decide (m.kd = s.kd) && decide (m.fd = (s.fs.getD p noField).nm)
end Gate

theorem Tryz.infoInt : (Tryz.prog.info? 3).map (fun i => (i.zero, i.size, i.bytes)) = some (some (.int .i64 0), 1, 8) := by kernel_rfl

set_option maxRecDepth 20000 in
set_option maxHeartbeats 2000000 in
theorem readNames_any (m : Mnd) (w : World) :
    Calls Tryz.prog 105 #[.agg m.cells] w fun e w' => ∃ v, e = .returned v ∧ w'.ownsRow w.heap.size 9 1 v (Gate.readNames m).length ((Gate.readNames m).map Value.string) ∧ Below w.heap.size w w' := by
  unfold Mnd.cells
  obtain ⟨i0, hi, hz0, hz1', hz2⟩ := info_parts Tryz.infoString
  go_enter Tryz.func105, Tryz.ntmps105
  go_wp2_with fail
  go_loopw [3, 12] (fun nv0 iv wr => ∃ (k : Nat) (nv : Value), nv = nv0 ∧ k ≤ 2 ∧ iv = .int .i64 k ∧ wr.ownsRow (w.heap.size + 2) 9 1 nv (([m.wh, m.fr].take k).filter Gate.isSet).length ((([m.wh, m.fr].take k).filter Gate.isSet).map Value.string) ∧ wr.heap[w.heap.size + 1]? = some (.cells #[.string m.wh, .string m.fr] 9) ∧ Below w.heap.size w wr) (fun _ iv _ => 2 - (intOf iv).toNat)
  case atStart => exact ⟨0, _, rfl, by omega, rfl, World.ownsRow_nil _ _ _ _, (two_blocks _ _ _).2, below2' _ _ _⟩
  case round =>
    obtain ⟨k, nv, hnv, hk, rfl, hown, hlit, hB⟩ := hrel
    subst hnv
    by_cases hlt : k < 2
    · have hltI : (k : Int) < 2 := by omega
      obtain ⟨x, hx, HT⟩ : ∃ x, (#[.string m.wh, .string m.fr] : Array Value)[k]? = some (.string x) ∧ Hid (([m.wh, m.fr].take (k + 1)).filter Gate.isSet = ([m.wh, m.fr].take k).filter Gate.isSet ++ if Gate.isSet x = true then [x] else []) := by
        rcases k with _ | _ | k
        · refine ⟨m.wh, rfl, ?_⟩
          by_cases h : Gate.isSet m.wh = true <;> simp [Hid, h]
        · refine ⟨m.fr, rfl, ?_⟩
          by_cases h : Gate.isSet m.fr = true <;> by_cases h' : Gate.isSet m.wh = true <;> simp [Hid, h, h']
        · omega
      have hcx : wr.cell? ⟨w.heap.size + 1, k, none⟩ = some (.string x) := by rw [cell_of_block hlit]; exact hx
      have hlen : (([m.wh, m.fr].take k).filter Gate.isSet).length ≤ 2 := Nat.le_trans (List.length_filter_le _ _) (by simp; omega)
      have HB : Hid (wr.heap[w.heap.size + 1]? = some (.cells #[.string m.wh, .string m.fr] 9) ∧ Below w.heap.size w wr ∧ w.heap.size + 1 < wr.heap.size) := ⟨hlit, hB, (Array.getElem?_eq_some_iff.1 hlit).1⟩
      have HW : Hid (wr.ownsRow (w.heap.size + 2) 9 1 nv (([m.wh, m.fr].take k).filter Gate.isSet).length ((([m.wh, m.fr].take k).filter Gate.isSet).map Value.string)) := hown
      clear hlit hB hx hown
      by_cases hs : x.toList.isEmpty = true
      · have HE : Hid (Gate.isSet x = false) := by unfold Hid Gate.isSet; rw [hs]; rfl
        go_wp2_with fail
        have HT' : ([m.wh, m.fr].take (k + 1)).filter Gate.isSet = ([m.wh, m.fr].take k).filter Gate.isSet := by rw [HT.out, HE.out]; simp
        exact ⟨⟨k + 1, _, rfl, by omega, by go_num, by rw [HT']; exact HW.out, HB.out.1, HB.out.2.1⟩, step_less' hlt⟩
      · have hs' : x.toList.isEmpty = false := by simpa using hs
        have HE : Hid (Gate.isSet x = true) := by unfold Hid Gate.isSet; rw [hs']; rfl
        clear hs
        go_wp2_with (at_builtin; refine wpList_append_own _ rfl (.tmp 18) (.tmp 20) 27 rfl (w.heap.size + 2) 9 i0 (.string ByteArray.empty) 1 16 Tryz.underlying27 hi hz0 hz1' hz2 rfl (by decide) _ _ _ rfl (HW.out.alloc _) ⟨wr.heap.size, 0, none⟩ 1 1 [.string x] rfl rfl (one_news _ _ _) (by intro u hu; simp at hu; subst hu; rfl) (by unfold maxLen; omega) (by omega) (by have := HB.out.2.2; simp; omega) ?_; intro v' w1 hown' hgr _)
        have HT' : ([m.wh, m.fr].take (k + 1)).filter Gate.isSet = ([m.wh, m.fr].take k).filter Gate.isSet ++ [x] := by rw [HT.out, HE.out]; simp
        have hgb : ∀ g, nv.ownBlock = some g → w.heap.size + 2 ≤ g := fun g hg => (HW.out.lt g hg).1
        refine ⟨⟨k + 1, _, rfl, by omega, by go_num, ?_, ?_, grown_below HB.out.2.1 HB.out.2.1.size hgr (fun g hg => by have := hgb g hg; omega)⟩, step_less' hlt⟩
        · rw [HT', List.length_append, List.map_append]; exact hown'
        · rw [grown_block hgr (by have := HB.out.2.2; simp; omega) (fun g hg => by have := hgb g hg; omega), Below.heap_alloc _ _ _ HB.out.2.2]; exact HB.out.1
    · have e : k = 2 := by omega
      subst e
      have HF : Hid (wr.ownsRow w.heap.size 9 1 nv (Gate.readNames m).length ((Gate.readNames m).map Value.string) ∧ Below w.heap.size w wr) := ⟨ownsRow_low hown (by omega), hB⟩
      clear hown hlit hB
      go_wp2_with fail
      go_ret
      exact ⟨nv, rfl, HF.out⟩

set_option maxHeartbeats 1000000 in
theorem turns_any (m : Mnd) (s : Shp) (fa : Option Addr) (fcap p : Nat) (w : World) (hf : FldsAt w fa s.fs) (hp : p < s.fs.length) :
    Calls Tryz.prog 110 #[.agg m.cells, .agg #[.string s.kd, .slice fa s.fs.length fcap], .int .i64 p] w fun e w' => e = .returned (.bool (Gate.turns m s p)) ∧ Below w.heap.size w w' := by
  unfold Mnd.cells
  have hB : ∀ o1 o2, Below w.heap.size w ((w.alloc o1).alloc o2) := fun o1 o2 => below2' w o1 o2
  have hl := hf.len
  unfold maxLen at hl
  obtain ⟨b, off, rfl, hb, hr⟩ := hf.rows (by intro e; rw [e] at hp; simp at hp)
  obtain ⟨wa, wcap, hf0⟩ := hr p hp
  obtain ⟨c0, c1, c2, c3, c4, c5, c6, c7, c8, c9, c10⟩ := hf0.load
  have hpI : (p : Int) < (s.fs.length : Int) := by omega
  have HD : Hid ((s.fs.getD p Gate.noField).nm = s.fs[p].nm) := by unfold Hid; rw [Gate.getD_at _ _ _ hp]
  clear hf hr hf0 c1 c2 c3 c4 c5 c6 c7 c8 c9 c10
  by_cases h1 : m.kd = s.kd
  · by_cases h2 : m.fd = s.fs[p].nm
    · have HR : Hid (Gate.turns m s p = true) := by unfold Hid Gate.turns; rw [HD.out]; simp [h1, h2]
      have hq : (m.kd.toList == s.kd.toList) = true := by rw [Gate.beq_toList]; simpa using h1
      have hr : (m.fd.toList == s.fs[p].nm.toList) = true := by rw [Gate.beq_toList]; simpa using h2
      clear h1 h2
      go_enter Tryz.func110, Tryz.ntmps110
      go_wp2_with fail
      go_quiet (fail)
      go_wp2_with fail
      go_ret
      exact ⟨by rw [HR.out]; rfl, below_drewN (hB _ _) _⟩
    · have HR : Hid (Gate.turns m s p = false) := by unfold Hid Gate.turns; rw [HD.out]; simp [h1, h2]
      have hq : (m.kd.toList == s.kd.toList) = true := by rw [Gate.beq_toList]; simpa using h1
      have hr : (m.fd.toList == s.fs[p].nm.toList) = false := by rw [Gate.beq_toList]; simpa using h2
      clear h1 h2
      go_enter Tryz.func110, Tryz.ntmps110
      go_wp2_with fail
      go_quiet (fail)
      go_wp2_with fail
      go_ret
      exact ⟨by rw [HR.out]; rfl, below_drewN (hB _ _) _⟩
  · have HR : Hid (Gate.turns m s p = false) := by unfold Hid Gate.turns; rw [HD.out]; simp [h1]
    have hq : (m.kd.toList == s.kd.toList) = false := by rw [Gate.beq_toList]; simpa using h1
    clear h1
    go_enter Tryz.func110, Tryz.ntmps110
    go_wp2_with fail
    go_quiet (fail)
    go_wp2_with fail
    go_ret
    exact ⟨by rw [HR.out]; rfl, below_drewN (hB _ _) _⟩

end Go.Proofs.YtcdlcddjoohcnaaGreat

namespace Go.Proofs.YtcdlcddjoohcnaaGreat
open Go.RowKit

set_option maxHeartbeats 2000000 in
theorem specField_1 (a0 : Option Addr) (cap0 : Nat) (ss : List Shp) (nm : ByteArray) (ls ms : Int) (a : Option Addr) (cap : Nat) (ws : List ByteArray) (to : ByteArray) (rl : Int) (mu fx : Bool) (df wg : ByteArray) (w : World) (hnm : nm.size ≤ maxLen) (hdf : df.size ≤ maxLen) (hwg : wg.size ≤ maxLen) (hws : StrsAt w a ws) :
    Calls Tryz.prog 92 #[.slice a0 ss.length cap0, .agg #[.string nm, .int .i64 1, .int .i64 ls, .int .i64 ms, .slice a ws.length cap, .string to, .int .i64 rl, .bool mu, .bool fx, .string df, .string wg]] w
      fun e w' => e = .returned (.bool (Gate.nameOk nm && Gate.fieldOk ss ⟨nm, 1, ls, ms, ws, to, rl, mu, fx, df, wg⟩)) ∧ Below w.heap.size w w' := by
  have HO : Hid ((Gate.nameOk nm && Gate.fieldOk ss ⟨nm, 1, ls, ms, ws, to, rl, mu, fx, df, wg⟩) = (Gate.nameOk nm && (Gate.bareOf 1 ls ms ws.length to rl wg && Gate.soundOf ss ⟨nm, 1, ls, ms, ws, to, rl, mu, fx, df, wg⟩ && (df.toList.isEmpty || Gate.fits 1 ls ms ws df)))) := rfl
  generalize (Gate.nameOk nm && Gate.fieldOk ss ⟨nm, 1, ls, ms, ws, to, rl, mu, fx, df, wg⟩) = res at HO
  by_cases hn : Gate.nameOk nm = true
  rotate_left
  · have HNm : Hid (Gate.nameOk nm = false) := by simpa [Hid] using hn
    clear hn
    go_enter Tryz.func92, Tryz.ntmps92
    go_wp2_with fail
    refine (as_bool HNm.out (l1NameOk_any _ _ hnm)).mono ?_
    rintro e w1 ⟨rfl, rfl⟩
    go_wp2_with fail
    go_ret
    exact ⟨ret_bool (by rw [HO.out, HNm.out]; rfl), (Below.refl _ _).alloc (Nat.le_refl _) _⟩
  have HNm : Hid (Gate.nameOk nm = true) := hn
  clear hn
  by_cases hbare : Gate.bareOf 1 ls ms ws.length to rl wg = true
  rotate_left
  · have HBare : Hid (Gate.bareOf 1 ls ms ws.length to rl wg = false) := by simpa [Hid] using hbare
    clear hbare
    go_enter Tryz.func92, Tryz.ntmps92
    go_wp2_with fail
    refine (as_bool HNm.out (l1NameOk_any _ _ hnm)).mono ?_
    rintro e w1 ⟨rfl, rfl⟩
    go_wp2_with fail
    refine (as_bool HBare.out (specBare_1 _ _ _ _ _ _ _ _ _ _ _ _ _)).mono ?_
    rintro e w2 ⟨rfl, hb2⟩
    have hX2 := box_later (box_new w _ _) (by simp) hb2
    have hz2 : w.heap.size < w2.heap.size := by have := hb2.size; simp at this; omega
    have hB2 : Below w.heap.size w w2 := ((Below.refl _ _).alloc (Nat.le_refl _) _).trans (hb2.mono (by simp))
    clear hb2
    go_wp2_with fail
    go_ret
    exact ⟨ret_bool (by rw [HO.out, HNm.out, HBare.out]; rfl), hB2⟩
  have HBare : Hid (Gate.bareOf 1 ls ms ws.length to rl wg = true) := hbare
  clear hbare
  by_cases hd : df.toList.isEmpty = true
  · have HD : Hid (df.toList.isEmpty = true) := hd
    have HR : Hid (res = Gate.soundOf ss ⟨nm, 1, ls, ms, ws, to, rl, mu, fx, df, wg⟩) := by unfold Hid; rw [HO.out, HNm.out, HBare.out, hd]; simp
    clear HO
    go_enter Tryz.func92, Tryz.ntmps92
    go_wp2_with fail
    refine (as_bool HNm.out (l1NameOk_any _ _ hnm)).mono ?_
    rintro e w1 ⟨rfl, rfl⟩
    go_wp2_with fail
    refine (as_bool HBare.out (specBare_1 _ _ _ _ _ _ _ _ _ _ _ _ _)).mono ?_
    rintro e w2 ⟨rfl, hb2⟩
    have hX2 := box_later (box_new w _ _) (by simp) hb2
    have hz2 : w.heap.size < w2.heap.size := by have := hb2.size; simp at this; omega
    have hB2 : Below w.heap.size w w2 := ((Below.refl _ _).alloc (Nat.le_refl _) _).trans (hb2.mono (by simp))
    clear hb2
    go_wp2_with (go_at_call 39; refine (l1NameOk_any _ _ hwg).mono ?_; rintro e w5 ⟨rfl, rfl⟩)
    all_goals
      go_ret
      refine ⟨ret_bool ?_, hB2⟩
      rw [HR.out]
      simp_all [Gate.soundOf, Gate.rangeOk]
      try omega
  have hd' : df.toList.isEmpty = false := by simpa using hd
  have HD : Hid (df.toList.isEmpty = false) := hd'
  clear hd
  by_cases hfit : Gate.fits 1 ls ms ws df = true
  rotate_left
  · have HFit : Hid (Gate.fits 1 ls ms ws df = false) := by simpa [Hid] using hfit
    clear hfit
    go_enter Tryz.func92, Tryz.ntmps92
    go_wp2_with fail
    refine (as_bool HNm.out (l1NameOk_any _ _ hnm)).mono ?_
    rintro e w1 ⟨rfl, rfl⟩
    go_wp2_with fail
    refine (as_bool HBare.out (specBare_1 _ _ _ _ _ _ _ _ _ _ _ _ _)).mono ?_
    rintro e w2 ⟨rfl, hb2⟩
    have hX2 := box_later (box_new w _ _) (by simp) hb2
    have hz2 : w.heap.size < w2.heap.size := by have := hb2.size; simp at this; omega
    have hB2 : Below w.heap.size w w2 := ((Below.refl _ _).alloc (Nat.le_refl _) _).trans (hb2.mono (by simp))
    clear hb2
    go_wp2_with fail
    refine (as_bool HFit.out (specFits_any _ _ _ _ _ _ _ _ _ _ _ _ _ _ _ hdf (hws.mono hB2))).mono ?_
    rintro e w3 ⟨rfl, hb3⟩
    have hX3 := box_later hX2 hz2 hb3
    have hz3 : w.heap.size < w3.heap.size := by have := hb3.size; omega
    have hB3 : Below w.heap.size w w3 := hB2.trans (hb3.mono (by omega))
    clear hb3 hX2 hz2 hB2
    go_wp2_with fail
    go_ret
    exact ⟨ret_bool (by rw [HO.out, HNm.out, HBare.out, HD.out, HFit.out]; simp), hB3⟩
  · have HFit : Hid (Gate.fits 1 ls ms ws df = true) := hfit
    have HR : Hid (res = Gate.soundOf ss ⟨nm, 1, ls, ms, ws, to, rl, mu, fx, df, wg⟩) := by unfold Hid; rw [HO.out, HNm.out, HBare.out, HD.out, hfit]; simp
    clear hfit HO
    go_enter Tryz.func92, Tryz.ntmps92
    go_wp2_with fail
    refine (as_bool HNm.out (l1NameOk_any _ _ hnm)).mono ?_
    rintro e w1 ⟨rfl, rfl⟩
    go_wp2_with fail
    refine (as_bool HBare.out (specBare_1 _ _ _ _ _ _ _ _ _ _ _ _ _)).mono ?_
    rintro e w2 ⟨rfl, hb2⟩
    have hX2 := box_later (box_new w _ _) (by simp) hb2
    have hz2 : w.heap.size < w2.heap.size := by have := hb2.size; simp at this; omega
    have hB2 : Below w.heap.size w w2 := ((Below.refl _ _).alloc (Nat.le_refl _) _).trans (hb2.mono (by simp))
    clear hb2
    go_wp2_with fail
    refine (as_bool HFit.out (specFits_any _ _ _ _ _ _ _ _ _ _ _ _ _ _ _ hdf (hws.mono hB2))).mono ?_
    rintro e w3 ⟨rfl, hb3⟩
    have hX3 := box_later hX2 hz2 hb3
    have hz3 : w.heap.size < w3.heap.size := by have := hb3.size; omega
    have hB3 : Below w.heap.size w w3 := hB2.trans (hb3.mono (by omega))
    clear hb3 hX2 hz2 hB2
    go_wp2_with (go_at_call 39; refine (l1NameOk_any _ _ hwg).mono ?_; rintro e w5 ⟨rfl, rfl⟩)
    all_goals
      go_ret
      refine ⟨ret_bool ?_, hB3⟩
      rw [HR.out]
      simp_all [Gate.soundOf, Gate.rangeOk]
      try omega

end Go.Proofs.YtcdlcddjoohcnaaGreat

namespace Go.Proofs.YtcdlcddjoohcnaaGreat
open Go.RowKit

set_option maxHeartbeats 2000000 in
theorem specField_2 (a0 : Option Addr) (cap0 : Nat) (ss : List Shp) (nm : ByteArray) (ls ms : Int) (a : Option Addr) (cap : Nat) (ws : List ByteArray) (to : ByteArray) (rl : Int) (mu fx : Bool) (df wg : ByteArray) (w : World) (hnm : nm.size ≤ maxLen) (hdf : df.size ≤ maxLen) (hws : StrsAt w a ws) :
    Calls Tryz.prog 92 #[.slice a0 ss.length cap0, .agg #[.string nm, .int .i64 2, .int .i64 ls, .int .i64 ms, .slice a ws.length cap, .string to, .int .i64 rl, .bool mu, .bool fx, .string df, .string wg]] w
      fun e w' => e = .returned (.bool (Gate.nameOk nm && Gate.fieldOk ss ⟨nm, 2, ls, ms, ws, to, rl, mu, fx, df, wg⟩)) ∧ Below w.heap.size w w' := by
  have HO : Hid ((Gate.nameOk nm && Gate.fieldOk ss ⟨nm, 2, ls, ms, ws, to, rl, mu, fx, df, wg⟩) = (Gate.nameOk nm && (Gate.bareOf 2 ls ms ws.length to rl wg && Gate.soundOf ss ⟨nm, 2, ls, ms, ws, to, rl, mu, fx, df, wg⟩ && (df.toList.isEmpty || Gate.fits 2 ls ms ws df)))) := rfl
  generalize (Gate.nameOk nm && Gate.fieldOk ss ⟨nm, 2, ls, ms, ws, to, rl, mu, fx, df, wg⟩) = res at HO
  by_cases hn : Gate.nameOk nm = true
  rotate_left
  · have HNm : Hid (Gate.nameOk nm = false) := by simpa [Hid] using hn
    clear hn
    go_enter Tryz.func92, Tryz.ntmps92
    go_wp2_with fail
    refine (as_bool HNm.out (l1NameOk_any _ _ hnm)).mono ?_
    rintro e w1 ⟨rfl, rfl⟩
    go_wp2_with fail
    go_ret
    exact ⟨ret_bool (by rw [HO.out, HNm.out]; rfl), (Below.refl _ _).alloc (Nat.le_refl _) _⟩
  have HNm : Hid (Gate.nameOk nm = true) := hn
  clear hn
  by_cases hbare : Gate.bareOf 2 ls ms ws.length to rl wg = true
  rotate_left
  · have HBare : Hid (Gate.bareOf 2 ls ms ws.length to rl wg = false) := by simpa [Hid] using hbare
    clear hbare
    go_enter Tryz.func92, Tryz.ntmps92
    go_wp2_with fail
    refine (as_bool HNm.out (l1NameOk_any _ _ hnm)).mono ?_
    rintro e w1 ⟨rfl, rfl⟩
    go_wp2_with fail
    refine (as_bool HBare.out (specBare_2 _ _ _ _ _ _ _ _ _ _ _ _ _)).mono ?_
    rintro e w2 ⟨rfl, hb2⟩
    have hX2 := box_later (box_new w _ _) (by simp) hb2
    have hz2 : w.heap.size < w2.heap.size := by have := hb2.size; simp at this; omega
    have hB2 : Below w.heap.size w w2 := ((Below.refl _ _).alloc (Nat.le_refl _) _).trans (hb2.mono (by simp))
    clear hb2
    go_wp2_with fail
    go_ret
    exact ⟨ret_bool (by rw [HO.out, HNm.out, HBare.out]; rfl), hB2⟩
  have HBare : Hid (Gate.bareOf 2 ls ms ws.length to rl wg = true) := hbare
  clear hbare
  by_cases hd : df.toList.isEmpty = true
  · have HD : Hid (df.toList.isEmpty = true) := hd
    have HR : Hid (res = Gate.soundOf ss ⟨nm, 2, ls, ms, ws, to, rl, mu, fx, df, wg⟩) := by unfold Hid; rw [HO.out, HNm.out, HBare.out, hd]; simp
    clear HO
    have HSn : Hid (Gate.soundOf ss ⟨nm, 2, ls, ms, ws, to, rl, mu, fx, df, wg⟩ = (decide (1 ≤ ws.length) && decide (ws.length ≤ 6) && Gate.asc ws)) := by simp [Gate.soundOf, Hid]
    have hl := hws.len
    unfold maxLen at hl
    by_cases h16 : 1 ≤ ws.length ∧ ws.length ≤ 6
    · obtain ⟨h1, h6⟩ := h16
      go_enter Tryz.func92, Tryz.ntmps92
      go_wp2_with fail
      refine (as_bool HNm.out (l1NameOk_any _ _ hnm)).mono ?_
      rintro e w1 ⟨rfl, rfl⟩
      go_wp2_with fail
      refine (as_bool HBare.out (specBare_2 _ _ _ _ _ _ _ _ _ _ _ _ _)).mono ?_
      rintro e w2 ⟨rfl, hb2⟩
      have hX2 := box_later (box_new w _ _) (by simp) hb2
      have hz2 : w.heap.size < w2.heap.size := by have := hb2.size; simp at this; omega
      have hB2 : Below w.heap.size w w2 := ((Below.refl _ _).alloc (Nat.le_refl _) _).trans (hb2.mono (by simp))
      clear hb2
      go_wp2_with fail
      refine (l1In_yes _ _ _ _ (by omega) (by omega)).mono ?_
      rintro e w5 ⟨rfl, rfl⟩
      go_wp2_with fail
      refine (l1Ascending_any _ _ _ _ (hws.mono hB2)).mono ?_
      rintro e w6 ⟨rfl, nd, rfl⟩
      go_wp2_with fail
      go_ret
      exact ⟨ret_bool (by rw [HR.out, HSn.out, decide_eq_true h1, decide_eq_true h6]; rfl), below_drewN hB2 _⟩
    · have HS0 : Hid (Gate.soundOf ss ⟨nm, 2, ls, ms, ws, to, rl, mu, fx, df, wg⟩ = false) := by
        rw [HSn.out]; unfold Hid
        by_cases h1 : 1 ≤ ws.length
        · rw [decide_eq_false (show ¬ ws.length ≤ 6 by omega)]; simp
        · rw [decide_eq_false h1]; rfl
      go_enter Tryz.func92, Tryz.ntmps92
      go_wp2_with fail
      refine (as_bool HNm.out (l1NameOk_any _ _ hnm)).mono ?_
      rintro e w1 ⟨rfl, rfl⟩
      go_wp2_with fail
      refine (as_bool HBare.out (specBare_2 _ _ _ _ _ _ _ _ _ _ _ _ _)).mono ?_
      rintro e w2 ⟨rfl, hb2⟩
      have hX2 := box_later (box_new w _ _) (by simp) hb2
      have hz2 : w.heap.size < w2.heap.size := by have := hb2.size; simp at this; omega
      have hB2 : Below w.heap.size w w2 := ((Below.refl _ _).alloc (Nat.le_refl _) _).trans (hb2.mono (by simp))
      clear hb2
      go_wp2_with fail
      refine (l1In_no _ _ _ _ (by omega)).mono ?_
      rintro e w5 ⟨rfl, rfl⟩
      go_wp2_with fail
      go_ret
      exact ⟨ret_bool (by rw [HR.out, HS0.out]), hB2⟩
  have hd' : df.toList.isEmpty = false := by simpa using hd
  have HD : Hid (df.toList.isEmpty = false) := hd'
  clear hd
  by_cases hfit : Gate.fits 2 ls ms ws df = true
  rotate_left
  · have HFit : Hid (Gate.fits 2 ls ms ws df = false) := by simpa [Hid] using hfit
    clear hfit
    go_enter Tryz.func92, Tryz.ntmps92
    go_wp2_with fail
    refine (as_bool HNm.out (l1NameOk_any _ _ hnm)).mono ?_
    rintro e w1 ⟨rfl, rfl⟩
    go_wp2_with fail
    refine (as_bool HBare.out (specBare_2 _ _ _ _ _ _ _ _ _ _ _ _ _)).mono ?_
    rintro e w2 ⟨rfl, hb2⟩
    have hX2 := box_later (box_new w _ _) (by simp) hb2
    have hz2 : w.heap.size < w2.heap.size := by have := hb2.size; simp at this; omega
    have hB2 : Below w.heap.size w w2 := ((Below.refl _ _).alloc (Nat.le_refl _) _).trans (hb2.mono (by simp))
    clear hb2
    go_wp2_with fail
    refine (as_bool HFit.out (specFits_any _ _ _ _ _ _ _ _ _ _ _ _ _ _ _ hdf (hws.mono hB2))).mono ?_
    rintro e w3 ⟨rfl, hb3⟩
    have hX3 := box_later hX2 hz2 hb3
    have hz3 : w.heap.size < w3.heap.size := by have := hb3.size; omega
    have hB3 : Below w.heap.size w w3 := hB2.trans (hb3.mono (by omega))
    clear hb3 hX2 hz2 hB2
    go_wp2_with fail
    go_ret
    exact ⟨ret_bool (by rw [HO.out, HNm.out, HBare.out, HD.out, HFit.out]; simp), hB3⟩
  · have HFit : Hid (Gate.fits 2 ls ms ws df = true) := hfit
    have HR : Hid (res = Gate.soundOf ss ⟨nm, 2, ls, ms, ws, to, rl, mu, fx, df, wg⟩) := by unfold Hid; rw [HO.out, HNm.out, HBare.out, HD.out, hfit]; simp
    clear hfit HO
    have HSn : Hid (Gate.soundOf ss ⟨nm, 2, ls, ms, ws, to, rl, mu, fx, df, wg⟩ = (decide (1 ≤ ws.length) && decide (ws.length ≤ 6) && Gate.asc ws)) := by simp [Gate.soundOf, Hid]
    have hl := hws.len
    unfold maxLen at hl
    by_cases h16 : 1 ≤ ws.length ∧ ws.length ≤ 6
    · obtain ⟨h1, h6⟩ := h16
      go_enter Tryz.func92, Tryz.ntmps92
      go_wp2_with fail
      refine (as_bool HNm.out (l1NameOk_any _ _ hnm)).mono ?_
      rintro e w1 ⟨rfl, rfl⟩
      go_wp2_with fail
      refine (as_bool HBare.out (specBare_2 _ _ _ _ _ _ _ _ _ _ _ _ _)).mono ?_
      rintro e w2 ⟨rfl, hb2⟩
      have hX2 := box_later (box_new w _ _) (by simp) hb2
      have hz2 : w.heap.size < w2.heap.size := by have := hb2.size; simp at this; omega
      have hB2 : Below w.heap.size w w2 := ((Below.refl _ _).alloc (Nat.le_refl _) _).trans (hb2.mono (by simp))
      clear hb2
      go_wp2_with fail
      refine (as_bool HFit.out (specFits_any _ _ _ _ _ _ _ _ _ _ _ _ _ _ _ hdf (hws.mono hB2))).mono ?_
      rintro e w3 ⟨rfl, hb3⟩
      have hX3 := box_later hX2 hz2 hb3
      have hz3 : w.heap.size < w3.heap.size := by have := hb3.size; omega
      have hB3 : Below w.heap.size w w3 := hB2.trans (hb3.mono (by omega))
      clear hb3 hX2 hz2 hB2
      go_wp2_with fail
      refine (l1In_yes _ _ _ _ (by omega) (by omega)).mono ?_
      rintro e w5 ⟨rfl, rfl⟩
      go_wp2_with fail
      refine (l1Ascending_any _ _ _ _ (hws.mono hB3)).mono ?_
      rintro e w6 ⟨rfl, nd, rfl⟩
      go_wp2_with fail
      go_ret
      exact ⟨ret_bool (by rw [HR.out, HSn.out, decide_eq_true h1, decide_eq_true h6]; rfl), below_drewN hB3 _⟩
    · have HS0 : Hid (Gate.soundOf ss ⟨nm, 2, ls, ms, ws, to, rl, mu, fx, df, wg⟩ = false) := by
        rw [HSn.out]; unfold Hid
        by_cases h1 : 1 ≤ ws.length
        · rw [decide_eq_false (show ¬ ws.length ≤ 6 by omega)]; simp
        · rw [decide_eq_false h1]; rfl
      go_enter Tryz.func92, Tryz.ntmps92
      go_wp2_with fail
      refine (as_bool HNm.out (l1NameOk_any _ _ hnm)).mono ?_
      rintro e w1 ⟨rfl, rfl⟩
      go_wp2_with fail
      refine (as_bool HBare.out (specBare_2 _ _ _ _ _ _ _ _ _ _ _ _ _)).mono ?_
      rintro e w2 ⟨rfl, hb2⟩
      have hX2 := box_later (box_new w _ _) (by simp) hb2
      have hz2 : w.heap.size < w2.heap.size := by have := hb2.size; simp at this; omega
      have hB2 : Below w.heap.size w w2 := ((Below.refl _ _).alloc (Nat.le_refl _) _).trans (hb2.mono (by simp))
      clear hb2
      go_wp2_with fail
      refine (as_bool HFit.out (specFits_any _ _ _ _ _ _ _ _ _ _ _ _ _ _ _ hdf (hws.mono hB2))).mono ?_
      rintro e w3 ⟨rfl, hb3⟩
      have hX3 := box_later hX2 hz2 hb3
      have hz3 : w.heap.size < w3.heap.size := by have := hb3.size; omega
      have hB3 : Below w.heap.size w w3 := hB2.trans (hb3.mono (by omega))
      clear hb3 hX2 hz2 hB2
      go_wp2_with fail
      refine (l1In_no _ _ _ _ (by omega)).mono ?_
      rintro e w5 ⟨rfl, rfl⟩
      go_wp2_with fail
      go_ret
      exact ⟨ret_bool (by rw [HR.out, HS0.out]), hB3⟩

end Go.Proofs.YtcdlcddjoohcnaaGreat

namespace Go.Proofs.YtcdlcddjoohcnaaGreat
open Go.RowKit

set_option maxHeartbeats 2000000 in
theorem specField_3 (a0 : Option Addr) (cap0 : Nat) (ss : List Shp) (nm : ByteArray) (ls ms : Int) (a : Option Addr) (cap : Nat) (ws : List ByteArray) (to : ByteArray) (rl : Int) (mu fx : Bool) (df wg : ByteArray) (w : World) (hnm : nm.size ≤ maxLen) (hdf : df.size ≤ maxLen) (hws : StrsAt w a ws) :
    Calls Tryz.prog 92 #[.slice a0 ss.length cap0, .agg #[.string nm, .int .i64 3, .int .i64 ls, .int .i64 ms, .slice a ws.length cap, .string to, .int .i64 rl, .bool mu, .bool fx, .string df, .string wg]] w
      fun e w' => e = .returned (.bool (Gate.nameOk nm && Gate.fieldOk ss ⟨nm, 3, ls, ms, ws, to, rl, mu, fx, df, wg⟩)) ∧ Below w.heap.size w w' := by
  have HO : Hid ((Gate.nameOk nm && Gate.fieldOk ss ⟨nm, 3, ls, ms, ws, to, rl, mu, fx, df, wg⟩) = (Gate.nameOk nm && (Gate.bareOf 3 ls ms ws.length to rl wg && Gate.soundOf ss ⟨nm, 3, ls, ms, ws, to, rl, mu, fx, df, wg⟩ && (df.toList.isEmpty || Gate.fits 3 ls ms ws df)))) := rfl
  generalize (Gate.nameOk nm && Gate.fieldOk ss ⟨nm, 3, ls, ms, ws, to, rl, mu, fx, df, wg⟩) = res at HO
  by_cases hn : Gate.nameOk nm = true
  rotate_left
  · have HNm : Hid (Gate.nameOk nm = false) := by simpa [Hid] using hn
    clear hn
    go_enter Tryz.func92, Tryz.ntmps92
    go_wp2_with fail
    refine (as_bool HNm.out (l1NameOk_any _ _ hnm)).mono ?_
    rintro e w1 ⟨rfl, rfl⟩
    go_wp2_with fail
    go_ret
    exact ⟨ret_bool (by rw [HO.out, HNm.out]; rfl), (Below.refl _ _).alloc (Nat.le_refl _) _⟩
  have HNm : Hid (Gate.nameOk nm = true) := hn
  clear hn
  by_cases hbare : Gate.bareOf 3 ls ms ws.length to rl wg = true
  rotate_left
  · have HBare : Hid (Gate.bareOf 3 ls ms ws.length to rl wg = false) := by simpa [Hid] using hbare
    clear hbare
    go_enter Tryz.func92, Tryz.ntmps92
    go_wp2_with fail
    refine (as_bool HNm.out (l1NameOk_any _ _ hnm)).mono ?_
    rintro e w1 ⟨rfl, rfl⟩
    go_wp2_with fail
    refine (as_bool HBare.out (specBare_3 _ _ _ _ _ _ _ _ _ _ _ _ _)).mono ?_
    rintro e w2 ⟨rfl, hb2⟩
    have hX2 := box_later (box_new w _ _) (by simp) hb2
    have hz2 : w.heap.size < w2.heap.size := by have := hb2.size; simp at this; omega
    have hB2 : Below w.heap.size w w2 := ((Below.refl _ _).alloc (Nat.le_refl _) _).trans (hb2.mono (by simp))
    clear hb2
    go_wp2_with fail
    go_ret
    exact ⟨ret_bool (by rw [HO.out, HNm.out, HBare.out]; rfl), hB2⟩
  have HBare : Hid (Gate.bareOf 3 ls ms ws.length to rl wg = true) := hbare
  clear hbare
  by_cases hd : df.toList.isEmpty = true
  · have HD : Hid (df.toList.isEmpty = true) := hd
    have HR : Hid (res = Gate.soundOf ss ⟨nm, 3, ls, ms, ws, to, rl, mu, fx, df, wg⟩) := by unfold Hid; rw [HO.out, HNm.out, HBare.out, hd]; simp
    clear HO
    go_enter Tryz.func92, Tryz.ntmps92
    go_wp2_with fail
    refine (as_bool HNm.out (l1NameOk_any _ _ hnm)).mono ?_
    rintro e w1 ⟨rfl, rfl⟩
    go_wp2_with fail
    refine (as_bool HBare.out (specBare_3 _ _ _ _ _ _ _ _ _ _ _ _ _)).mono ?_
    rintro e w2 ⟨rfl, hb2⟩
    have hX2 := box_later (box_new w _ _) (by simp) hb2
    have hz2 : w.heap.size < w2.heap.size := by have := hb2.size; simp at this; omega
    have hB2 : Below w.heap.size w w2 := ((Below.refl _ _).alloc (Nat.le_refl _) _).trans (hb2.mono (by simp))
    clear hb2
    go_wp2_with fail
    all_goals
      go_ret
      refine ⟨ret_bool ?_, hB2⟩
      rw [HR.out]
      simp_all [Gate.soundOf, Gate.rangeOk]
      try omega
  have hd' : df.toList.isEmpty = false := by simpa using hd
  have HD : Hid (df.toList.isEmpty = false) := hd'
  clear hd
  by_cases hfit : Gate.fits 3 ls ms ws df = true
  rotate_left
  · have HFit : Hid (Gate.fits 3 ls ms ws df = false) := by simpa [Hid] using hfit
    clear hfit
    go_enter Tryz.func92, Tryz.ntmps92
    go_wp2_with fail
    refine (as_bool HNm.out (l1NameOk_any _ _ hnm)).mono ?_
    rintro e w1 ⟨rfl, rfl⟩
    go_wp2_with fail
    refine (as_bool HBare.out (specBare_3 _ _ _ _ _ _ _ _ _ _ _ _ _)).mono ?_
    rintro e w2 ⟨rfl, hb2⟩
    have hX2 := box_later (box_new w _ _) (by simp) hb2
    have hz2 : w.heap.size < w2.heap.size := by have := hb2.size; simp at this; omega
    have hB2 : Below w.heap.size w w2 := ((Below.refl _ _).alloc (Nat.le_refl _) _).trans (hb2.mono (by simp))
    clear hb2
    go_wp2_with fail
    refine (as_bool HFit.out (specFits_any _ _ _ _ _ _ _ _ _ _ _ _ _ _ _ hdf (hws.mono hB2))).mono ?_
    rintro e w3 ⟨rfl, hb3⟩
    have hX3 := box_later hX2 hz2 hb3
    have hz3 : w.heap.size < w3.heap.size := by have := hb3.size; omega
    have hB3 : Below w.heap.size w w3 := hB2.trans (hb3.mono (by omega))
    clear hb3 hX2 hz2 hB2
    go_wp2_with fail
    go_ret
    exact ⟨ret_bool (by rw [HO.out, HNm.out, HBare.out, HD.out, HFit.out]; simp), hB3⟩
  · have HFit : Hid (Gate.fits 3 ls ms ws df = true) := hfit
    have HR : Hid (res = Gate.soundOf ss ⟨nm, 3, ls, ms, ws, to, rl, mu, fx, df, wg⟩) := by unfold Hid; rw [HO.out, HNm.out, HBare.out, HD.out, hfit]; simp
    clear hfit HO
    go_enter Tryz.func92, Tryz.ntmps92
    go_wp2_with fail
    refine (as_bool HNm.out (l1NameOk_any _ _ hnm)).mono ?_
    rintro e w1 ⟨rfl, rfl⟩
    go_wp2_with fail
    refine (as_bool HBare.out (specBare_3 _ _ _ _ _ _ _ _ _ _ _ _ _)).mono ?_
    rintro e w2 ⟨rfl, hb2⟩
    have hX2 := box_later (box_new w _ _) (by simp) hb2
    have hz2 : w.heap.size < w2.heap.size := by have := hb2.size; simp at this; omega
    have hB2 : Below w.heap.size w w2 := ((Below.refl _ _).alloc (Nat.le_refl _) _).trans (hb2.mono (by simp))
    clear hb2
    go_wp2_with fail
    refine (as_bool HFit.out (specFits_any _ _ _ _ _ _ _ _ _ _ _ _ _ _ _ hdf (hws.mono hB2))).mono ?_
    rintro e w3 ⟨rfl, hb3⟩
    have hX3 := box_later hX2 hz2 hb3
    have hz3 : w.heap.size < w3.heap.size := by have := hb3.size; omega
    have hB3 : Below w.heap.size w w3 := hB2.trans (hb3.mono (by omega))
    clear hb3 hX2 hz2 hB2
    go_wp2_with fail
    all_goals
      go_ret
      refine ⟨ret_bool ?_, hB3⟩
      rw [HR.out]
      simp_all [Gate.soundOf, Gate.rangeOk]
      try omega

end Go.Proofs.YtcdlcddjoohcnaaGreat
