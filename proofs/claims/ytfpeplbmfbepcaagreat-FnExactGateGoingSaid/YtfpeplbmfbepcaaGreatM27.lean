import Derived.Test.YtfpeplbmfbepcaaGreatM20
namespace Go.Proofs.YtfpeplbmfbepcaaGreat
open Go.RowKit
set_option maxHeartbeats 400000 in
theorem zc9 (a : Option Addr) (cap : Nat) (ts : List Tm) (v : ByteArray) (w : World) (hw : jh w a ts) :
    Calls Tryz.prog 91 #[.slice a ts.length cap, .string v] w fun e w' => e = .returned (.bool (Gate.yh ts v)) /\ w' = w := by
  have hl := hw.len
  unfold maxLen at hl
  go_enter Tryz.func91, Tryz.ntmps91
  go_wp2_with fail
  go_loop [5] (fun i => ∃ k : Nat, k <= ts.length /\ i = .int .i64 k /\ Gate.yh (ts.take k) v = false) (fun i => ts.length - (intOf i).toNat)
  case atStart => exact ⟨0, Nat.zero_le _, rfl, rfl⟩
  case round =>
    obtain ⟨k, hk, rfl, hall⟩ := hrel
    by_cases hlt : k < ts.length
    · obtain ⟨b, off, rfl, hb, c0, c1⟩ := hw.load (Below.refl _ _) k hlt
      clear hw
      have HS : Hid (Gate.yh (ts.take (k + 1)) v = (false || decide (ts[k].nm = v))) := by rw [Gate.zdE ts v k hlt, hall]; rfl
      have hltI : (k : Int) < (ts.length : Int) := by omega
      by_cases he : ts[k].nm = v
      · have hbe : (ts[k].nm.toList == v.toList) = true := by rw [Gate.beq_toList]; simpa using he
        have HR := hid (Gate.znm ts v k hlt he)
        clear he hall
        go_wp2_with fail
        go_ret
        exact ⟨ze HR.out.symm, rfl⟩
      · have hbe : (ts[k].nm.toList == v.toList) = false := by rw [Gate.beq_toList]; simpa using he
        have HE := hid he
        clear he hall
        go_wp2_with fail
        go_round
        case rel => exact ⟨k + 1, by omega, by go_num, by rw [HS.out, decide_eq_false HE.out]; rfl⟩
        case measure => simp [intOf]; omega
    · have HR : Hid (Gate.yh ts v = false) := by rw [<- Gate.zeq ts v k (by omega)]; exact hall
      clear hall hw
      go_wp2_with fail
      go_ret
      exact ⟨ze HR.out.symm, rfl⟩
theorem Gate.zfu (ts : List Tm) (m : Nat) (z : ByteArray) (h : z.size = 0) : Gate.ji ts m z = z := by
  cases m with
  | zero => rfl
  | succ m => unfold Gate.ji; rw [if_pos h]
theorem Gate.zgL (ts : List Tm) (m : Nat) (z : ByteArray) (h : ¬ z.size = 0) : Gate.ji ts (m + 1) z = Gate.ji ts m (Gate.over ts z) := by
  rw [Gate.ji, if_neg h]
set_option maxHeartbeats 1000000 in
theorem zhg (a : Option Addr) (cap : Nat) (ts : List Tm) (w : World) (hw : jh w a ts) :
    Calls Tryz.prog 89 #[.slice a ts.length cap] w fun e w' => e = .returned (.bool (Gate.zas ts)) /\ Below w.heap.size w w' := by
  have hl := hw.len
  unfold maxLen at hl
  by_cases h12 : ts.length <= 12
  rotate_left
  · have HF : Hid (Gate.zas ts = false) := by simp [Hid, Gate.zas, h12]
    clear hw
    go_enter Tryz.func89, Tryz.ntmps89
    go_wp2_with fail
    go_ret
    exact ⟨ze HF.out.symm, Below.refl _ _⟩
  have HG : Hid (Gate.zas ts = Gate.up (Gate.zbC ts) ts.length) := by simp [Hid, Gate.zas, h12]
  have h12I : (ts.length : Int) <= 12 := by omega
  have HW0 := hid hw
  clear hw
  go_enter Tryz.func89, Tryz.ntmps89
  go_wp2_with fail
  go_loopw [3] (fun i wr => ∃ k : Nat, k <= ts.length /\ i = .int .i64 k /\ Gate.up (Gate.zbC ts) k = true /\ Below w.heap.size w wr) (fun i _ => ts.length - (intOf i).toNat)
  case atStart => exact ⟨0, Nat.zero_le _, rfl, rfl, Below.refl _ _⟩
  case round =>
    obtain ⟨k, hk, rfl, hup, hB⟩ := hrel
    obtain ⟨W0, rfl⟩ : ∃ W0, W0 = wr := ⟨wr, rfl⟩
    have hsz := hB.size
    by_cases hlt : k < ts.length
    · obtain ⟨b, off, rfl, hb, c0, c1⟩ := HW0.out.load hB k hlt
      have hbr : b < W0.heap.size := by omega
      have hsm := HW0.out.small k hlt
      have hsn := hsm.nm
      have HS : Hid (Gate.yV ts k = true -> Gate.zcQ ts k = true -> Gate.up (Gate.zbC ts) (k + 1) = true) := fun h h' => by rw [Gate.jG, hup, Gate.zbC, h, h']; rfl
      have HN : Hid (Gate.yV ts k = false -> Gate.zas ts = false) := fun h => by rw [HG.out]; exact Gate.zbg hlt (by rw [Gate.zbC, h]; rfl)
      have HD : Hid (Gate.zcQ ts k = false -> Gate.zas ts = false) := fun h => by rw [HG.out]; exact Gate.zbg hlt (by rw [Gate.zbC, h, Bool.and_false])
      have HDS : Hid (Gate.zcQ ts k = decide ((Gate.ji ts 5 ts[k].nm).size = 0)) := by unfold Hid Gate.zcQ; rw [Gate.getD_at ts k _ hlt]
      have hltI : (k : Int) < (ts.length : Int) := by omega
      have HB := hid hB
      have HBx : Hid (∀ (ob : Obj) (n : Nat), Below W0.heap.size W0 ((W0.alloc ob).drewN n)) := fun ob n => below_drewN ((Below.refl _ _).alloc (Nat.le_refl _) _) _
      have HWr : Hid (∀ (ob : Obj) (n : Nat), jh ((W0.alloc ob).drewN n) (some ⟨b, off, none⟩) ts) := fun ob n => (HW0.out.mono hB).mono (below_drewN ((Below.refl _ _).alloc (Nat.le_refl _) _) _)
      clear hup hsm hB
      by_cases hn : Gate.zy ts[k].nm = true
      rotate_left
      · have HNm : Hid (Gate.zy ts[k].nm = false) := by simpa [Hid] using hn
        have HF : Hid (Gate.yV ts k = false) := by unfold Hid; rw [Gate.zb0 ts k hlt _ rfl, HNm.out]; rfl
        clear hn
        go_wp2_with fail
        go_quiet ((go_at_call 97; exact Calls.quiet_of_same (zw HNm.out (zS _ _ hsn))))
        go_wp2_with fail
        go_ret
        exact ⟨ze (HN.out HF.out).symm, HB.out.trans ((HBx.out _ _).mono hsz)⟩
      have HNm : Hid (Gate.zy ts[k].nm = true) := hn
      clear hn
      by_cases hbad : 0 < k /\ Gate.less (ts.getD (k - 1) Gate.za1).nm ts[k].nm = false
      · obtain ⟨hkpos, hls⟩ := hbad
        have HF : Hid (Gate.yV ts k = false) := by
          unfold Hid; rw [Gate.zb0 ts k hlt false (by rw [hls, decide_eq_false (show ¬ k = 0 by omega)]; rfl)]; simp
        obtain ⟨m, rfl⟩ : ∃ m, k = m + 1 := ⟨k - 1, by omega⟩
        rw [Nat.add_sub_cancel, Gate.getD_at ts m _ (by omega)] at hls
        obtain ⟨b', off', e', hb', d0, d1⟩ := HW0.out.load HB.out m (by omega)
        simp only [Option.some.injEq, Addr.mk.injEq] at e'
        obtain ⟨rfl, rfl, _⟩ := e'
        have hls' : Op.bytesLess ts[m].nm.toList ts[m + 1].nm.toList = false := hls
        have hmI : (m : Int) < 12 := by omega
        have hm0 : (0 : Int) <= (m : Int) := by omega
        have hml : (m : Int) < (ts.length : Int) := by omega
        have hmw : IntKind.i64.wrap (m : Int) = m := by rw [IntKind.wrap_i64]; omega
        clear hls
        go_wp2_with fail
        go_quiet ((go_at_call 97; exact Calls.quiet_of_same (zw HNm.out (zS _ _ hsn))))
        go_wp2_with fail
        go_ret
        exact ⟨ze (HN.out HF.out).symm, HB.out.trans ((HBx.out _ _).mono hsz)⟩
      have hgd : (decide (k = 0) || Gate.less (ts.getD (k - 1) Gate.za1).nm ts[k].nm) = true := by
        by_cases hk0 : k = 0
        · simp [hk0]
        · cases hq : Gate.less (ts.getD (k - 1) Gate.za1).nm ts[k].nm
          · exact absurd ⟨by omega, hq⟩ hbad
          · simp
      have HA : Hid (Gate.yV ts k = (ts[k].ov.toList.isEmpty || Gate.yh ts ts[k].ov)) := by
        unfold Hid; rw [Gate.zb0 ts k hlt true hgd, HNm.out]; rfl
      have hgood : (decide (0 < k) = false) \/ (decide (0 < k) = true /\ (0 : Int) <= (k : Int) - 1 /\ (k : Int) - 1 < (ts.length : Int) /\ ∃ h : k - 1 < ts.length, Op.bytesLess ts[k - 1].nm.toList ts[k].nm.toList = true /\ W0.cell? ⟨b, off + (k - 1) * 2, none⟩ = some (.string ts[k - 1].nm)) := by
        by_cases hk0 : k = 0
        · exact Or.inl (by simp; omega)
        · refine Or.inr ⟨by simp; omega, by omega, by omega, by omega, ?_, ?_⟩
          · rw [decide_eq_false hk0, Gate.getD_at ts (k - 1) _ (by omega)] at hgd
            exact hgd
          · obtain ⟨b', off', e', hb', d0, d1⟩ := HW0.out.load HB.out (k - 1) (by omega)
            simp only [Option.some.injEq, Addr.mk.injEq] at e'
            obtain ⟨rfl, rfl, _⟩ := e'
            exact d0
      clear hbad hgd
      by_cases hov : ts[k].ov.toList.isEmpty = true
      · have HT : Hid (Gate.yV ts k = true) := by unfold Hid; rw [HA.out, hov]; rfl
        rcases hgood with hg | ⟨hg, hk1, hk2, hkm, hls', d0⟩
        focus
          go_wp2_with fail
        rotate_left
        focus
          go_wp2_with fail
        all_goals
          go_quiet ((go_at_call 97; exact Calls.quiet_of_same (zw HNm.out (zS _ _ hsn))))
          go_wp2_with fail
          obtain ⟨W1, hW1⟩ : ∃ W1, W1 = (W0.alloc (.cells #[.string ts[k].nm, .string ts[k].ov] 127)).drewN nq := ⟨_, rfl⟩
          have HB1 : Hid (Below w.heap.size w W1) := by unfold Hid; rw [hW1]; exact HB.out.trans ((HBx.out _ _).mono hsz)
          have HW1 := hid (HW0.out.mono HB1.out)
          rw [<- hW1]
          clear hW1
          go_loopw [5, 6] (fun p i wi => ∃ (n : Nat) (z : ByteArray), n <= 5 /\ p = .string z /\ i = .int .i64 n /\ Gate.ji ts 5 ts[k].nm = Gate.ji ts (5 - n) z /\ wi = W1) (fun _ i _ => 5 - (intOf i).toNat)
          case atStart => exact ⟨0, ts[k].nm, Nat.zero_le _, rfl, rfl, rfl, rfl⟩
          case round =>
            obtain ⟨n, z, hn5, rfl, rfl, hz, rfl⟩ := hrel
            by_cases hn : n < 5
            · have hnI : (n : Int) <= 4 := by omega
              by_cases hz0 : z.size = 0
              · have hze : z.toList.isEmpty = true := by rw [Gate.zu]; simpa using hz0
                have HDT : Hid (Gate.zcQ ts (k) = true) := by unfold Hid; rw [HDS.out, hz, Gate.zfu ts _ z hz0]; simpa using hz0
                clear hz hz0
                go_wp2_with fail
                exact ⟨⟨k + 1, by omega, by go_num, HS.out HT.out HDT.out, HB1.out⟩, by simp [intOf]; omega⟩
              · have hze : z.toList.isEmpty = false := by rw [Gate.zu]; simpa using hz0
                have HZ : Hid (Gate.ji ts 5 ts[k].nm = Gate.ji ts (5 - (n + 1)) (Gate.over ts z)) := by
                  obtain ⟨q, hq⟩ : ∃ q, 5 - n = q + 1 := ⟨4 - n, by omega⟩
                  rw [Hid, hz, hq, Gate.zgL ts q z hz0, show 5 - (n + 1) = q by omega]
                clear hz hz0
                go_wp2_with (go_at_call 128; refine (zb7 _ _ ts _ _ HW1.out).mono ?_; rintro e w' ⟨rfl, rfl⟩)
                exact ⟨⟨n + 1, Gate.over ts z, by omega, rfl, by go_num, HZ.out, trivial⟩, by simp [intOf]; omega⟩
            · have e5 : 5 - n = 0 := by omega
              rw [e5] at hz
              have hnI : ¬ (n : Int) <= 4 := by omega
              by_cases hz0 : z.size = 0
              · have hze : z.toList.isEmpty = true := by rw [Gate.zu]; simpa using hz0
                have HDT : Hid (Gate.zcQ ts (k) = true) := by unfold Hid; rw [HDS.out, hz]; simpa [Gate.ji] using hz0
                clear hz hz0
                go_wp2_with fail
                exact ⟨⟨k + 1, by omega, by go_num, HS.out HT.out HDT.out, HB1.out⟩, by simp [intOf]; omega⟩
              · have hze : z.toList.isEmpty = false := by rw [Gate.zu]; simpa using hz0
                have HDT : Hid (Gate.zcQ ts (k) = false) := by unfold Hid; rw [HDS.out, hz]; simpa [Gate.ji] using hz0
                clear hz hz0
                go_wp2_with fail
                go_ret
                exact ⟨ze (HD.out HDT.out).symm, HB1.out⟩
      · have hov' : ts[k].ov.toList.isEmpty = false := by simpa using hov
        clear hov
        by_cases hit : Gate.yh ts ts[k].ov = true
        · have HI := hid hit
          have HT : Hid (Gate.yV ts k = true) := by unfold Hid; rw [HA.out, hit]; simp
          clear hit
          rcases hgood with hg | ⟨hg, hk1, hk2, hkm, hls', d0⟩
          focus
            go_wp2_with fail
          rotate_left
          focus
            go_wp2_with fail
          all_goals
            go_quiet (first | (go_at_call 97; exact Calls.quiet_of_same (zw HNm.out (zS _ _ hsn))) | (go_at_call 91; exact Calls.quiet_of_same (zw HI.out (zc9 _ _ ts _ _ (by exact HWr.out _ _)))))
            go_wp2_with fail
            obtain ⟨W1, hW1⟩ : ∃ W1, W1 = (W0.alloc (.cells #[.string ts[k].nm, .string ts[k].ov] 127)).drewN nq := ⟨_, rfl⟩
            have HB1 : Hid (Below w.heap.size w W1) := by unfold Hid; rw [hW1]; exact HB.out.trans ((HBx.out _ _).mono hsz)
            have HW1 := hid (HW0.out.mono HB1.out)
            rw [<- hW1]
            clear hW1
            go_loopw [5, 6] (fun p i wi => ∃ (n : Nat) (z : ByteArray), n <= 5 /\ p = .string z /\ i = .int .i64 n /\ Gate.ji ts 5 ts[k].nm = Gate.ji ts (5 - n) z /\ wi = W1) (fun _ i _ => 5 - (intOf i).toNat)
            case atStart => exact ⟨0, ts[k].nm, Nat.zero_le _, rfl, rfl, rfl, rfl⟩
            case round =>
              obtain ⟨n, z, hn5, rfl, rfl, hz, rfl⟩ := hrel
              by_cases hn : n < 5
              · have hnI : (n : Int) <= 4 := by omega
                by_cases hz0 : z.size = 0
                · have hze : z.toList.isEmpty = true := by rw [Gate.zu]; simpa using hz0
                  have HDT : Hid (Gate.zcQ ts (k) = true) := by unfold Hid; rw [HDS.out, hz, Gate.zfu ts _ z hz0]; simpa using hz0
                  clear hz hz0
                  go_wp2_with fail
                  exact ⟨⟨k + 1, by omega, by go_num, HS.out HT.out HDT.out, HB1.out⟩, by simp [intOf]; omega⟩
                · have hze : z.toList.isEmpty = false := by rw [Gate.zu]; simpa using hz0
                  have HZ : Hid (Gate.ji ts 5 ts[k].nm = Gate.ji ts (5 - (n + 1)) (Gate.over ts z)) := by
                    obtain ⟨q, hq⟩ : ∃ q, 5 - n = q + 1 := ⟨4 - n, by omega⟩
                    rw [Hid, hz, hq, Gate.zgL ts q z hz0, show 5 - (n + 1) = q by omega]
                  clear hz hz0
                  go_wp2_with (go_at_call 128; refine (zb7 _ _ ts _ _ HW1.out).mono ?_; rintro e w' ⟨rfl, rfl⟩)
                  exact ⟨⟨n + 1, Gate.over ts z, by omega, rfl, by go_num, HZ.out, trivial⟩, by simp [intOf]; omega⟩
              · have e5 : 5 - n = 0 := by omega
                rw [e5] at hz
                have hnI : ¬ (n : Int) <= 4 := by omega
                by_cases hz0 : z.size = 0
                · have hze : z.toList.isEmpty = true := by rw [Gate.zu]; simpa using hz0
                  have HDT : Hid (Gate.zcQ ts (k) = true) := by unfold Hid; rw [HDS.out, hz]; simpa [Gate.ji] using hz0
                  clear hz hz0
                  go_wp2_with fail
                  exact ⟨⟨k + 1, by omega, by go_num, HS.out HT.out HDT.out, HB1.out⟩, by simp [intOf]; omega⟩
                · have hze : z.toList.isEmpty = false := by rw [Gate.zu]; simpa using hz0
                  have HDT : Hid (Gate.zcQ ts (k) = false) := by unfold Hid; rw [HDS.out, hz]; simpa [Gate.ji] using hz0
                  clear hz hz0
                  go_wp2_with fail
                  go_ret
                  exact ⟨ze (HD.out HDT.out).symm, HB1.out⟩
        · have HI : Hid (Gate.yh ts ts[k].ov = false) := by simpa [Hid] using hit
          have HF : Hid (Gate.yV ts k = false) := by unfold Hid; rw [HA.out, HI.out, hov']; rfl
          clear hit
          rcases hgood with hg | ⟨hg, hk1, hk2, hkm, hls', d0⟩
          focus
            go_wp2_with fail
          rotate_left
          focus
            go_wp2_with fail
          all_goals
            go_quiet (first | (go_at_call 97; exact Calls.quiet_of_same (zw HNm.out (zS _ _ hsn))) | (go_at_call 91; exact Calls.quiet_of_same (zw HI.out (zc9 _ _ ts _ _ (by exact HWr.out _ _)))))
            go_wp2_with fail
            go_ret
            exact ⟨ze (HN.out HF.out).symm, HB.out.trans ((HBx.out _ _).mono hsz)⟩
    · have HF : Hid (Gate.zas ts = true) := by
        have e : k = ts.length := by omega
        subst e; rw [Hid, HG.out, hup]
      clear hup
      go_wp2_with fail
      go_ret
      exact ⟨ze HF.out.symm, hB⟩
end Go.Proofs.YtfpeplbmfbepcaaGreat
