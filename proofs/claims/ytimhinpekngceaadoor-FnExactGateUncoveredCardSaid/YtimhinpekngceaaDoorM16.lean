import Derived.Test.YtimhinpekngceaaDoorM15
namespace Go.Proofs.YtimhinpekngceaaDoor
open Go.RowKit

theorem Gate.any_deep (ts : List Tm) : (!(ts.any fun t => !Gate.deepOk ts t)) = Gate.up (Gate.deepAt ts) ts.length := by
  rw [Bool.eq_iff_iff, Gate.up_eq_true]
  simp only [Bool.not_eq_true', List.any_eq_false]
  constructor
  · intro h i hi
    have := h ts[i] (List.getElem_mem hi)
    unfold Gate.deepAt
    rw [Gate.getD_at ts i _ hi]
    simpa using this
  · intro h x hx
    obtain ⟨k, hk, rfl⟩ := List.mem_iff_getElem.1 hx
    have := h k hk
    unfold Gate.deepAt at this
    rw [Gate.getD_at ts k _ hk] at this
    simp [this]

theorem Gate.teamAt_at (ts : List Tm) (k : Nat) (h : k < ts.length) (b : Bool) (hb : (decide (k = 0) || Gate.less (ts.getD (k - 1) Gate.noTeam).nm ts[k].nm) = b) :
    Gate.teamAt ts k = (Gate.nameOk ts[k].nm && b && (ts[k].ov.toList.isEmpty || Gate.hasTeam ts ts[k].ov)) := by
  unfold Gate.teamAt; rw [Gate.getD_at ts k _ h, hb]

set_option maxHeartbeats 4000000 in
theorem implTeamsOk_any (a : Option Addr) (cap : Nat) (ts : List Tm) (w : World) (hw : TmsAt w a ts) :
    Calls Tryd.prog 30 #[.slice a ts.length cap] w fun e w' => e = .returned (.bool (Gate.teamsOk ts)) ∧ Below w.heap.size w w' := by
  have hl := hw.len
  unfold maxLen at hl
  by_cases h12 : ts.length ≤ 12
  rotate_left
  · have HF : Hid (Gate.teamsOk ts = false) := by simp [Hid, Gate.teamsOk, h12]
    clear hw
    go_enter Tryd.func30, Tryd.ntmps30
    go_wp2_with fail
    go_ret
    exact ⟨ret_bool HF.out.symm, (Below.refl _ _).alloc (Nat.le_refl _) _⟩
  have HG : Hid (Gate.teamsOk ts = (Gate.up (Gate.teamAt ts) ts.length && Gate.up (Gate.deepAt ts) ts.length)) := by simp [Hid, Gate.teamsOk, h12]
  have h12I : (ts.length : Int) ≤ 12 := by omega
  go_enter Tryd.func30, Tryd.ntmps30
  go_wp2_with fail
  have hB00 : Below w.heap.size w (w.alloc (.cells #[.slice a ts.length cap] 34)) := (Below.refl _ _).alloc (Nat.le_refl _) _
  have hX00 := box_new w #[.slice a ts.length cap] 34
  have hz00 : w.heap.size < (w.alloc (.cells #[.slice a ts.length cap] 34)).heap.size := by simp
  obtain ⟨w0, hw0⟩ : ∃ w0, w0 = w.alloc (.cells #[.slice a ts.length cap] 34) := ⟨_, rfl⟩
  rw [← hw0] at hB00 hX00 hz00 ⊢
  have HW0 : Hid (TmsAt w0 a ts) := hw.mono hB00
  have HB00 : Hid (Below w.heap.size w w0) := hB00
  clear hw0 hw hB00
  go_loopw [10] (fun i wr => ∃ k : Nat, k ≤ ts.length ∧ i = .int .i64 k ∧ Gate.up (Gate.teamAt ts) k = true ∧ Below w0.heap.size w0 wr) (fun i _ => ts.length - (intOf i).toNat)
  case atStart => exact ⟨0, Nat.zero_le _, rfl, rfl, Below.refl _ _⟩
  case round =>
    obtain ⟨k, hk, rfl, hup, hB⟩ := hrel
    have hsz := hB.size
    have hX := box_later hX00 hz00 hB
    have hX0 : wr.cell? ⟨w.heap.size, 0, none⟩ = some (.slice a ts.length cap) := hX 0
    have hzr : w.heap.size < wr.heap.size := by omega
    have HBr : Hid (Below w.heap.size w wr) := HB00.out.trans (hB.mono (by omega))
    clear hX hX00
    by_cases hlt : k < ts.length
    · obtain ⟨b, off, rfl, hb, c0, c1⟩ := HW0.out.load hB k hlt
      have hbr : b < wr.heap.size := by omega
      have hsm := HW0.out.small k hlt
      have hsn := hsm.nm
      have HS : Hid (Gate.teamAt ts k = true → Gate.up (Gate.teamAt ts) (k + 1) = true) := fun h => by rw [Gate.up_succ, hup, h]; rfl
      have HN : Hid (Gate.teamAt ts k = false → Gate.teamsOk ts = false) := fun h => by rw [HG.out, Gate.up_not hlt h]; rfl
      have hltI : (k : Int) < (ts.length : Int) := by omega
      have HB : Hid (Below w0.heap.size w0 wr) := hB
      clear hup hsm hB
      by_cases hn : Gate.nameOk ts[k].nm = true
      rotate_left
      · have HNm : Hid (Gate.nameOk ts[k].nm = false) := by simpa [Hid] using hn
        have HF : Hid (Gate.teamAt ts k = false) := by unfold Hid; rw [Gate.teamAt_at ts k hlt _ rfl, HNm.out]; rfl
        clear hn
        go_wp2_with fail
        go_quiet ((go_at_call 54; exact Calls.quiet_of_same (as_bool HNm.out (isName_any _ _ hsn))))
        go_wp2_with fail
        go_ret
        exact ⟨ret_bool (HN.out HF.out).symm, below_drewN (HBr.out.alloc (by omega) _) _⟩
      have HNm : Hid (Gate.nameOk ts[k].nm = true) := hn
      clear hn
      by_cases hbad : 0 < k ∧ Gate.less (ts.getD (k - 1) Gate.noTeam).nm ts[k].nm = false
      · obtain ⟨hkpos, hls⟩ := hbad
        have HF : Hid (Gate.teamAt ts k = false) := by
          unfold Hid; rw [Gate.teamAt_at ts k hlt false (by rw [hls, decide_eq_false (show ¬ k = 0 by omega)]; rfl)]; simp
        obtain ⟨m, rfl⟩ : ∃ m, k = m + 1 := ⟨k - 1, by omega⟩
        rw [Nat.add_sub_cancel, Gate.getD_at ts m _ (by omega)] at hls
        obtain ⟨b', off', e', hb', d0, d1⟩ := HW0.out.load HB.out m (by omega)
        simp only [Option.some.injEq, Addr.mk.injEq] at e'
        obtain ⟨rfl, rfl, _⟩ := e'
        have hls' : Op.bytesLess ts[m].nm.toList ts[m + 1].nm.toList = false := hls
        have hmI : (m : Int) < 12 := by omega
        have hm0 : (0 : Int) ≤ (m : Int) := by omega
        have hml : (m : Int) < (ts.length : Int) := by omega
        have hmw : IntKind.i64.wrap (m : Int) = m := by rw [IntKind.wrap_i64]; omega
        clear hls
        go_wp2_with fail
        go_quiet ((go_at_call 54; exact Calls.quiet_of_same (as_bool HNm.out (isName_any _ _ hsn))))
        go_wp2_with fail
        go_ret
        exact ⟨ret_bool (HN.out HF.out).symm, below_drewN (HBr.out.alloc (by omega) _) _⟩
      have hgd : (decide (k = 0) || Gate.less (ts.getD (k - 1) Gate.noTeam).nm ts[k].nm) = true := by
        by_cases hk0 : k = 0
        · simp [hk0]
        · cases hq : Gate.less (ts.getD (k - 1) Gate.noTeam).nm ts[k].nm
          · exact absurd ⟨by omega, hq⟩ hbad
          · simp
      have HA : Hid (Gate.teamAt ts k = (ts[k].ov.toList.isEmpty || Gate.hasTeam ts ts[k].ov)) := by
        unfold Hid; rw [Gate.teamAt_at ts k hlt true hgd, HNm.out]; rfl
      have hgood : (decide (0 < k) = false) ∨ (decide (0 < k) = true ∧ ∃ m, k = m + 1 ∧ ∃ h : m < ts.length, Op.bytesLess ts[m].nm.toList ts[k].nm.toList = true ∧ wr.cell? ⟨b, off + m * 2, none⟩ = some (.string ts[m].nm)) := by
        by_cases hk0 : k = 0
        · exact Or.inl (by simp; omega)
        · refine Or.inr ⟨by simp; omega, k - 1, by omega, by omega, ?_, ?_⟩
          · rw [decide_eq_false hk0, Gate.getD_at ts (k - 1) _ (by omega)] at hgd
            exact hgd
          · obtain ⟨b', off', e', hb', d0, d1⟩ := HW0.out.load HB.out (k - 1) (by omega)
            simp only [Option.some.injEq, Addr.mk.injEq] at e'
            obtain ⟨rfl, rfl, _⟩ := e'
            exact d0
      clear hbad hgd
      have HBx : Hid (∀ (ob : Obj) (n : Nat), Below wr.heap.size wr ((wr.alloc ob).drewN n)) := fun ob n => below_drewN ((Below.refl _ _).alloc (Nat.le_refl _) _) _
      by_cases hov : ts[k].ov.toList.isEmpty = true
      · have HT : Hid (Gate.teamAt ts k = true) := by unfold Hid; rw [HA.out, hov]; rfl
        rcases hgood with hg | ⟨hg, m, rfl, hm, hls', d0⟩
        · go_wp2_with fail
          go_quiet ((go_at_call 54; exact Calls.quiet_of_same (as_bool HNm.out (isName_any _ _ hsn))))
          go_wp2_with fail
          exact ⟨⟨k + 1, by omega, by go_num, HS.out HT.out, HB.out.trans ((HBx.out _ _).mono hsz)⟩, by simp [intOf]; omega⟩
        · have hmI : (m : Int) < 12 := by omega
          have hm0 : (0 : Int) ≤ (m : Int) := by omega
          have hml : (m : Int) < (ts.length : Int) := by omega
          have hmw : IntKind.i64.wrap (m : Int) = m := by rw [IntKind.wrap_i64]; omega
          go_wp2_with fail
          go_quiet ((go_at_call 54; exact Calls.quiet_of_same (as_bool HNm.out (isName_any _ _ hsn))))
          go_wp2_with fail
          exact ⟨⟨m + 1 + 1, by omega, by go_num, HS.out HT.out, HB.out.trans ((HBx.out _ _).mono hsz)⟩, by simp [intOf]; omega⟩
      · have hov' : ts[k].ov.toList.isEmpty = false := by simpa using hov
        clear hov
        by_cases hit : Gate.hasTeam ts ts[k].ov = true
        · have HI : Hid (Gate.hasTeam ts ts[k].ov = true) := hit
          have HT : Hid (Gate.teamAt ts k = true) := by unfold Hid; rw [HA.out, hit]; simp
          clear hit
          rcases hgood with hg | ⟨hg, m, rfl, hm, hls', d0⟩
          · go_wp2_with fail
            go_quiet ((go_at_call 54; exact Calls.quiet_of_same (as_bool HNm.out (isName_any _ _ hsn))))
            go_wp2_with fail
            refine (as_bool HI.out (isTeam_any _ _ ts _ _ ((HW0.out.mono HB.out).mono (HBx.out _ _)))).mono ?_
            rintro e w3 ⟨rfl, hb3⟩
            have hB3 : Below w0.heap.size w0 w3 := (HB.out.trans ((HBx.out _ _).mono hsz)).trans (hb3.mono (by simp; omega))
            clear hb3
            go_wp2_with fail
            exact ⟨⟨k + 1, by omega, by go_num, HS.out HT.out, hB3⟩, by simp [intOf]; omega⟩
          · have hmI : (m : Int) < 12 := by omega
            have hm0 : (0 : Int) ≤ (m : Int) := by omega
            have hml : (m : Int) < (ts.length : Int) := by omega
            have hmw : IntKind.i64.wrap (m : Int) = m := by rw [IntKind.wrap_i64]; omega
            go_wp2_with fail
            go_quiet ((go_at_call 54; exact Calls.quiet_of_same (as_bool HNm.out (isName_any _ _ hsn))))
            go_wp2_with fail
            refine (as_bool HI.out (isTeam_any _ _ ts _ _ ((HW0.out.mono HB.out).mono (HBx.out _ _)))).mono ?_
            rintro e w3 ⟨rfl, hb3⟩
            have hB3 : Below w0.heap.size w0 w3 := (HB.out.trans ((HBx.out _ _).mono hsz)).trans (hb3.mono (by simp; omega))
            clear hb3
            go_wp2_with fail
            exact ⟨⟨m + 1 + 1, by omega, by go_num, HS.out HT.out, hB3⟩, by simp [intOf]; omega⟩
        · have HI : Hid (Gate.hasTeam ts ts[k].ov = false) := by simpa [Hid] using hit
          have HF : Hid (Gate.teamAt ts k = false) := by unfold Hid; rw [HA.out, HI.out, hov']; rfl
          clear hit
          rcases hgood with hg | ⟨hg, m, rfl, hm, hls', d0⟩
          · go_wp2_with fail
            go_quiet ((go_at_call 54; exact Calls.quiet_of_same (as_bool HNm.out (isName_any _ _ hsn))))
            go_wp2_with fail
            refine (as_bool HI.out (isTeam_any _ _ ts _ _ ((HW0.out.mono HB.out).mono (HBx.out _ _)))).mono ?_
            rintro e w3 ⟨rfl, hb3⟩
            have hB3 : Below w.heap.size w w3 := (HBr.out.trans ((HBx.out _ _).mono (by omega))).trans (hb3.mono (by simp; omega))
            clear hb3
            go_wp2_with fail
            go_ret
            exact ⟨ret_bool (HN.out HF.out).symm, hB3⟩
          · have hmI : (m : Int) < 12 := by omega
            have hm0 : (0 : Int) ≤ (m : Int) := by omega
            have hml : (m : Int) < (ts.length : Int) := by omega
            have hmw : IntKind.i64.wrap (m : Int) = m := by rw [IntKind.wrap_i64]; omega
            go_wp2_with fail
            go_quiet ((go_at_call 54; exact Calls.quiet_of_same (as_bool HNm.out (isName_any _ _ hsn))))
            go_wp2_with fail
            refine (as_bool HI.out (isTeam_any _ _ ts _ _ ((HW0.out.mono HB.out).mono (HBx.out _ _)))).mono ?_
            rintro e w3 ⟨rfl, hb3⟩
            have hB3 : Below w.heap.size w w3 := (HBr.out.trans ((HBx.out _ _).mono (by omega))).trans (hb3.mono (by simp; omega))
            clear hb3
            go_wp2_with fail
            go_ret
            exact ⟨ret_bool (HN.out HF.out).symm, hB3⟩
    · have HF : Hid (Gate.teamsOk ts = !(ts.any fun t => !Gate.deepOk ts t)) := by
        have e : k = ts.length := by omega
        subst e; rw [Hid, HG.out, hup, Gate.any_deep]; rfl
      have HWr : Hid (TmsAt wr a ts) := HW0.out.mono hB
      clear hup hB
      go_wp2_with fail
      refine (ContainsFuncU_any _ _ ts _ _ _ HWr.out (deepFn_fn _ _ ts _ _ HWr.out hzr hX0)).mono ?_
      rintro e w3 ⟨rfl, hb3⟩
      have hB3 : Below w.heap.size w w3 := HBr.out.trans (hb3.mono (by omega))
      clear hb3
      go_wp2_with fail
      go_ret
      exact ⟨ret_bool HF.out.symm, hB3⟩

end Go.Proofs.YtimhinpekngceaaDoor

namespace Go.Proofs.YtimhinpekngceaaDoor
open Go.RowKit

set_option maxHeartbeats 400000 in
theorem l4Team_any (a : Option Addr) (cap : Nat) (ts : List Tm) (v : ByteArray) (w : World) (hw : TmsAt w a ts) :
    Calls Tryd.prog 75 #[.slice a ts.length cap, .string v] w fun e w' => e = .returned (.bool (Gate.hasTeam ts v)) ∧ w' = w := by
  have hl := hw.len
  unfold maxLen at hl
  go_enter Tryd.func75, Tryd.ntmps75
  go_wp2_with fail
  go_loop [5] (fun i => ∃ k : Nat, k ≤ ts.length ∧ i = .int .i64 k ∧ Gate.hasTeam (ts.take k) v = false) (fun i => ts.length - (intOf i).toNat)
  case atStart => exact ⟨0, Nat.zero_le _, rfl, rfl⟩
  case round =>
    obtain ⟨k, hk, rfl, hall⟩ := hrel
    by_cases hlt : k < ts.length
    · obtain ⟨b, off, rfl, hb, c0, c1⟩ := hw.load (Below.refl _ _) k hlt
      clear hw
      have HS : Hid (Gate.hasTeam (ts.take (k + 1)) v = (false || decide (ts[k].nm = v))) := by rw [Gate.hasTeam_snoc ts v k hlt, hall]; rfl
      have hltI : (k : Int) < (ts.length : Int) := by omega
      by_cases he : ts[k].nm = v
      · have hbe : (ts[k].nm.toList == v.toList) = true := by rw [Gate.beq_toList]; simpa using he
        have HR : Hid (Gate.hasTeam ts v = true) := Gate.hasTeam_at ts v k hlt he
        clear he hall
        go_wp2_with fail
        go_ret
        exact ⟨ret_bool HR.out.symm, rfl⟩
      · have hbe : (ts[k].nm.toList == v.toList) = false := by rw [Gate.beq_toList]; simpa using he
        have HE : Hid (¬ ts[k].nm = v) := he
        clear he hall
        go_wp2_with fail
        go_round
        case rel => exact ⟨k + 1, by omega, by go_num, by rw [HS.out, decide_eq_false HE.out]; rfl⟩
        case measure => simp [intOf]; omega
    · have HR : Hid (Gate.hasTeam ts v = false) := by rw [← Gate.hasTeam_all ts v k (by omega)]; exact hall
      clear hall hw
      go_wp2_with fail
      go_ret
      exact ⟨ret_bool HR.out.symm, rfl⟩

theorem Gate.climbS_empty (ts : List Tm) (m : Nat) (z : ByteArray) (h : z.size = 0) : Gate.climbS ts m z = z := by
  cases m with
  | zero => rfl
  | succ m => unfold Gate.climbS; rw [if_pos h]
theorem Gate.climbS_step (ts : List Tm) (m : Nat) (z : ByteArray) (h : ¬ z.size = 0) : Gate.climbS ts (m + 1) z = Gate.climbS ts m (Gate.over ts z) := by
  rw [Gate.climbS, if_neg h]

set_option maxHeartbeats 1000000 in
theorem specTeamsOk_any (a : Option Addr) (cap : Nat) (ts : List Tm) (w : World) (hw : TmsAt w a ts) :
    Calls Tryd.prog 48 #[.slice a ts.length cap] w fun e w' => e = .returned (.bool (Gate.teamsOkS ts)) ∧ Below w.heap.size w w' := by
  have hl := hw.len
  unfold maxLen at hl
  by_cases h12 : ts.length ≤ 12
  rotate_left
  · have HF : Hid (Gate.teamsOkS ts = false) := by simp [Hid, Gate.teamsOkS, h12]
    clear hw
    go_enter Tryd.func48, Tryd.ntmps48
    go_wp2_with fail
    go_ret
    exact ⟨ret_bool HF.out.symm, Below.refl _ _⟩
  have HG : Hid (Gate.teamsOkS ts = Gate.up (Gate.teamAtS ts) ts.length) := by simp [Hid, Gate.teamsOkS, h12]
  have h12I : (ts.length : Int) ≤ 12 := by omega
  have HW0 : Hid (TmsAt w a ts) := hw
  clear hw
  go_enter Tryd.func48, Tryd.ntmps48
  go_wp2_with fail
  go_loopw [3] (fun i wr => ∃ k : Nat, k ≤ ts.length ∧ i = .int .i64 k ∧ Gate.up (Gate.teamAtS ts) k = true ∧ Below w.heap.size w wr) (fun i _ => ts.length - (intOf i).toNat)
  case atStart => exact ⟨0, Nat.zero_le _, rfl, rfl, Below.refl _ _⟩
  case round =>
    obtain ⟨k, hk, rfl, hup, hB⟩ := hrel
    obtain ⟨W0, rfl⟩ : ∃ W0, W0 = wr := ⟨wr, rfl⟩
    have hsz := hB.size
    by_cases hlt : k < ts.length
    · obtain ⟨b, off, rfl, hb, c0, c1⟩ := HW0.out.load hB k hlt
      have hbr : b < W0.heap.size := by omega
      have hsm := HW0.out.small k hlt
      have hsn := hsm.nm
      have HS : Hid (Gate.teamAt ts k = true → Gate.deepS ts k = true → Gate.up (Gate.teamAtS ts) (k + 1) = true) := fun h h' => by rw [Gate.up_succ, hup, Gate.teamAtS, h, h']; rfl
      have HN : Hid (Gate.teamAt ts k = false → Gate.teamsOkS ts = false) := fun h => by rw [HG.out]; exact Gate.up_not hlt (by rw [Gate.teamAtS, h]; rfl)
      have HD : Hid (Gate.deepS ts k = false → Gate.teamsOkS ts = false) := fun h => by rw [HG.out]; exact Gate.up_not hlt (by rw [Gate.teamAtS, h, Bool.and_false])
      have HDS : Hid (Gate.deepS ts k = decide ((Gate.climbS ts 5 ts[k].nm).size = 0)) := by unfold Hid Gate.deepS; rw [Gate.getD_at ts k _ hlt]
      have hltI : (k : Int) < (ts.length : Int) := by omega
      have HB : Hid (Below w.heap.size w W0) := hB
      have HBx : Hid (∀ (ob : Obj) (n : Nat), Below W0.heap.size W0 ((W0.alloc ob).drewN n)) := fun ob n => below_drewN ((Below.refl _ _).alloc (Nat.le_refl _) _) _
      have HWr : Hid (∀ (ob : Obj) (n : Nat), TmsAt ((W0.alloc ob).drewN n) (some ⟨b, off, none⟩) ts) := fun ob n => (HW0.out.mono hB).mono (below_drewN ((Below.refl _ _).alloc (Nat.le_refl _) _) _)
      clear hup hsm hB
      by_cases hn : Gate.nameOk ts[k].nm = true
      rotate_left
      · have HNm : Hid (Gate.nameOk ts[k].nm = false) := by simpa [Hid] using hn
        have HF : Hid (Gate.teamAt ts k = false) := by unfold Hid; rw [Gate.teamAt_at ts k hlt _ rfl, HNm.out]; rfl
        clear hn
        go_wp2_with fail
        go_quiet ((go_at_call 74; exact Calls.quiet_of_same (as_bool HNm.out (l1NameOk_any _ _ hsn))))
        go_wp2_with fail
        go_ret
        exact ⟨ret_bool (HN.out HF.out).symm, HB.out.trans ((HBx.out _ _).mono hsz)⟩
      have HNm : Hid (Gate.nameOk ts[k].nm = true) := hn
      clear hn
      by_cases hbad : 0 < k ∧ Gate.less (ts.getD (k - 1) Gate.noTeam).nm ts[k].nm = false
      · obtain ⟨hkpos, hls⟩ := hbad
        have HF : Hid (Gate.teamAt ts k = false) := by
          unfold Hid; rw [Gate.teamAt_at ts k hlt false (by rw [hls, decide_eq_false (show ¬ k = 0 by omega)]; rfl)]; simp
        obtain ⟨m, rfl⟩ : ∃ m, k = m + 1 := ⟨k - 1, by omega⟩
        rw [Nat.add_sub_cancel, Gate.getD_at ts m _ (by omega)] at hls
        obtain ⟨b', off', e', hb', d0, d1⟩ := HW0.out.load HB.out m (by omega)
        simp only [Option.some.injEq, Addr.mk.injEq] at e'
        obtain ⟨rfl, rfl, _⟩ := e'
        have hls' : Op.bytesLess ts[m].nm.toList ts[m + 1].nm.toList = false := hls
        have hmI : (m : Int) < 12 := by omega
        have hm0 : (0 : Int) ≤ (m : Int) := by omega
        have hml : (m : Int) < (ts.length : Int) := by omega
        have hmw : IntKind.i64.wrap (m : Int) = m := by rw [IntKind.wrap_i64]; omega
        clear hls
        go_wp2_with fail
        go_quiet ((go_at_call 74; exact Calls.quiet_of_same (as_bool HNm.out (l1NameOk_any _ _ hsn))))
        go_wp2_with fail
        go_ret
        exact ⟨ret_bool (HN.out HF.out).symm, HB.out.trans ((HBx.out _ _).mono hsz)⟩
      have hgd : (decide (k = 0) || Gate.less (ts.getD (k - 1) Gate.noTeam).nm ts[k].nm) = true := by
        by_cases hk0 : k = 0
        · simp [hk0]
        · cases hq : Gate.less (ts.getD (k - 1) Gate.noTeam).nm ts[k].nm
          · exact absurd ⟨by omega, hq⟩ hbad
          · simp
      have HA : Hid (Gate.teamAt ts k = (ts[k].ov.toList.isEmpty || Gate.hasTeam ts ts[k].ov)) := by
        unfold Hid; rw [Gate.teamAt_at ts k hlt true hgd, HNm.out]; rfl
      have hgood : (decide (0 < k) = false) ∨ (decide (0 < k) = true ∧ (0 : Int) ≤ (k : Int) - 1 ∧ (k : Int) - 1 < (ts.length : Int) ∧ ∃ h : k - 1 < ts.length, Op.bytesLess ts[k - 1].nm.toList ts[k].nm.toList = true ∧ W0.cell? ⟨b, off + (k - 1) * 2, none⟩ = some (.string ts[k - 1].nm)) := by
        by_cases hk0 : k = 0
        · exact Or.inl (by simp; omega)
        · refine Or.inr ⟨by simp; omega, by omega, by omega, by omega, ?_, ?_⟩
          · rw [decide_eq_false hk0, Gate.getD_at ts (k - 1) _ (by omega)] at hgd
            exact hgd
          · obtain ⟨b', off', e', hb', d0, d1⟩ := HW0.out.load HB.out (k - 1) (by omega)
            simp only [Option.some.injEq, Addr.mk.injEq] at e'
            obtain ⟨rfl, rfl, _⟩ := e'
            exact d0
      clear hbad hgd
      by_cases hov : ts[k].ov.toList.isEmpty = true
      · have HT : Hid (Gate.teamAt ts k = true) := by unfold Hid; rw [HA.out, hov]; rfl
        rcases hgood with hg | ⟨hg, hk1, hk2, hkm, hls', d0⟩
        · go_wp2_with fail
          go_quiet ((go_at_call 74; exact Calls.quiet_of_same (as_bool HNm.out (l1NameOk_any _ _ hsn))))
          go_wp2_with fail
          obtain ⟨W1, hW1⟩ : ∃ W1, W1 = (W0.alloc (.cells #[.string ts[k].nm, .string ts[k].ov] 60)).drewN nq := ⟨_, rfl⟩
          have HB1 : Hid (Below w.heap.size w W1) := by unfold Hid; rw [hW1]; exact HB.out.trans ((HBx.out _ _).mono hsz)
          have HW1 : Hid (TmsAt W1 (some ⟨b, off, none⟩) ts) := HW0.out.mono HB1.out
          rw [← hW1]
          clear hW1
          go_loopw [5, 6] (fun p i wi => ∃ (n : Nat) (z : ByteArray), n ≤ 5 ∧ p = .string z ∧ i = .int .i64 n ∧ Gate.climbS ts 5 ts[k].nm = Gate.climbS ts (5 - n) z ∧ wi = W1) (fun _ i _ => 5 - (intOf i).toNat)
          case atStart => exact ⟨0, ts[k].nm, Nat.zero_le _, rfl, rfl, rfl, rfl⟩
          case round =>
            obtain ⟨n, z, hn5, rfl, rfl, hz, rfl⟩ := hrel
            by_cases hn : n < 5
            · have hnI : (n : Int) ≤ 4 := by omega
              by_cases hz0 : z.size = 0
              · have hze : z.toList.isEmpty = true := by rw [Gate.isEmpty_of_size]; simpa using hz0
                have HDT : Hid (Gate.deepS ts (k) = true) := by unfold Hid; rw [HDS.out, hz, Gate.climbS_empty ts _ z hz0]; simpa using hz0
                clear hz hz0
                go_wp2_with fail
                exact ⟨⟨k + 1, by omega, by go_num, HS.out HT.out HDT.out, HB1.out⟩, by simp [intOf]; omega⟩
              · have hze : z.toList.isEmpty = false := by rw [Gate.isEmpty_of_size]; simpa using hz0
                have HZ : Hid (Gate.climbS ts 5 ts[k].nm = Gate.climbS ts (5 - (n + 1)) (Gate.over ts z)) := by
                  obtain ⟨q, hq⟩ : ∃ q, 5 - n = q + 1 := ⟨4 - n, by omega⟩
                  rw [Hid, hz, hq, Gate.climbS_step ts q z hz0, show 5 - (n + 1) = q by omega]
                clear hz hz0
                go_wp2_with (go_at_call 76; refine (l4Over_any _ _ ts _ _ HW1.out).mono ?_; rintro e w' ⟨rfl, rfl⟩)
                exact ⟨⟨n + 1, Gate.over ts z, by omega, rfl, by go_num, HZ.out, trivial⟩, by simp [intOf]; omega⟩
            · have e5 : 5 - n = 0 := by omega
              rw [e5] at hz
              have hnI : ¬ (n : Int) ≤ 4 := by omega
              by_cases hz0 : z.size = 0
              · have hze : z.toList.isEmpty = true := by rw [Gate.isEmpty_of_size]; simpa using hz0
                have HDT : Hid (Gate.deepS ts (k) = true) := by unfold Hid; rw [HDS.out, hz]; simpa [Gate.climbS] using hz0
                clear hz hz0
                go_wp2_with fail
                exact ⟨⟨k + 1, by omega, by go_num, HS.out HT.out HDT.out, HB1.out⟩, by simp [intOf]; omega⟩
              · have hze : z.toList.isEmpty = false := by rw [Gate.isEmpty_of_size]; simpa using hz0
                have HDT : Hid (Gate.deepS ts (k) = false) := by unfold Hid; rw [HDS.out, hz]; simpa [Gate.climbS] using hz0
                clear hz hz0
                go_wp2_with fail
                go_ret
                exact ⟨ret_bool (HD.out HDT.out).symm, HB1.out⟩
        · go_wp2_with fail
          go_quiet ((go_at_call 74; exact Calls.quiet_of_same (as_bool HNm.out (l1NameOk_any _ _ hsn))))
          go_wp2_with fail
          obtain ⟨W1, hW1⟩ : ∃ W1, W1 = (W0.alloc (.cells #[.string ts[k].nm, .string ts[k].ov] 60)).drewN nq := ⟨_, rfl⟩
          have HB1 : Hid (Below w.heap.size w W1) := by unfold Hid; rw [hW1]; exact HB.out.trans ((HBx.out _ _).mono hsz)
          have HW1 : Hid (TmsAt W1 (some ⟨b, off, none⟩) ts) := HW0.out.mono HB1.out
          rw [← hW1]
          clear hW1
          go_loopw [5, 6] (fun p i wi => ∃ (n : Nat) (z : ByteArray), n ≤ 5 ∧ p = .string z ∧ i = .int .i64 n ∧ Gate.climbS ts 5 ts[k].nm = Gate.climbS ts (5 - n) z ∧ wi = W1) (fun _ i _ => 5 - (intOf i).toNat)
          case atStart => exact ⟨0, ts[k].nm, Nat.zero_le _, rfl, rfl, rfl, rfl⟩
          case round =>
            obtain ⟨n, z, hn5, rfl, rfl, hz, rfl⟩ := hrel
            by_cases hn : n < 5
            · have hnI : (n : Int) ≤ 4 := by omega
              by_cases hz0 : z.size = 0
              · have hze : z.toList.isEmpty = true := by rw [Gate.isEmpty_of_size]; simpa using hz0
                have HDT : Hid (Gate.deepS ts (k) = true) := by unfold Hid; rw [HDS.out, hz, Gate.climbS_empty ts _ z hz0]; simpa using hz0
                clear hz hz0
                go_wp2_with fail
                exact ⟨⟨k + 1, by omega, by go_num, HS.out HT.out HDT.out, HB1.out⟩, by simp [intOf]; omega⟩
              · have hze : z.toList.isEmpty = false := by rw [Gate.isEmpty_of_size]; simpa using hz0
                have HZ : Hid (Gate.climbS ts 5 ts[k].nm = Gate.climbS ts (5 - (n + 1)) (Gate.over ts z)) := by
                  obtain ⟨q, hq⟩ : ∃ q, 5 - n = q + 1 := ⟨4 - n, by omega⟩
                  rw [Hid, hz, hq, Gate.climbS_step ts q z hz0, show 5 - (n + 1) = q by omega]
                clear hz hz0
                go_wp2_with (go_at_call 76; refine (l4Over_any _ _ ts _ _ HW1.out).mono ?_; rintro e w' ⟨rfl, rfl⟩)
                exact ⟨⟨n + 1, Gate.over ts z, by omega, rfl, by go_num, HZ.out, trivial⟩, by simp [intOf]; omega⟩
            · have e5 : 5 - n = 0 := by omega
              rw [e5] at hz
              have hnI : ¬ (n : Int) ≤ 4 := by omega
              by_cases hz0 : z.size = 0
              · have hze : z.toList.isEmpty = true := by rw [Gate.isEmpty_of_size]; simpa using hz0
                have HDT : Hid (Gate.deepS ts (k) = true) := by unfold Hid; rw [HDS.out, hz]; simpa [Gate.climbS] using hz0
                clear hz hz0
                go_wp2_with fail
                exact ⟨⟨k + 1, by omega, by go_num, HS.out HT.out HDT.out, HB1.out⟩, by simp [intOf]; omega⟩
              · have hze : z.toList.isEmpty = false := by rw [Gate.isEmpty_of_size]; simpa using hz0
                have HDT : Hid (Gate.deepS ts (k) = false) := by unfold Hid; rw [HDS.out, hz]; simpa [Gate.climbS] using hz0
                clear hz hz0
                go_wp2_with fail
                go_ret
                exact ⟨ret_bool (HD.out HDT.out).symm, HB1.out⟩
      · have hov' : ts[k].ov.toList.isEmpty = false := by simpa using hov
        clear hov
        by_cases hit : Gate.hasTeam ts ts[k].ov = true
        · have HI : Hid (Gate.hasTeam ts ts[k].ov = true) := hit
          have HT : Hid (Gate.teamAt ts k = true) := by unfold Hid; rw [HA.out, hit]; simp
          clear hit
          rcases hgood with hg | ⟨hg, hk1, hk2, hkm, hls', d0⟩
          · go_wp2_with fail
            go_quiet (first | (go_at_call 74; exact Calls.quiet_of_same (as_bool HNm.out (l1NameOk_any _ _ hsn))) | (go_at_call 75; exact Calls.quiet_of_same (as_bool HI.out (l4Team_any _ _ ts _ _ (by exact HWr.out _ _)))))
            go_wp2_with fail
            obtain ⟨W1, hW1⟩ : ∃ W1, W1 = (W0.alloc (.cells #[.string ts[k].nm, .string ts[k].ov] 60)).drewN nq := ⟨_, rfl⟩
            have HB1 : Hid (Below w.heap.size w W1) := by unfold Hid; rw [hW1]; exact HB.out.trans ((HBx.out _ _).mono hsz)
            have HW1 : Hid (TmsAt W1 (some ⟨b, off, none⟩) ts) := HW0.out.mono HB1.out
            rw [← hW1]
            clear hW1
            go_loopw [5, 6] (fun p i wi => ∃ (n : Nat) (z : ByteArray), n ≤ 5 ∧ p = .string z ∧ i = .int .i64 n ∧ Gate.climbS ts 5 ts[k].nm = Gate.climbS ts (5 - n) z ∧ wi = W1) (fun _ i _ => 5 - (intOf i).toNat)
            case atStart => exact ⟨0, ts[k].nm, Nat.zero_le _, rfl, rfl, rfl, rfl⟩
            case round =>
              obtain ⟨n, z, hn5, rfl, rfl, hz, rfl⟩ := hrel
              by_cases hn : n < 5
              · have hnI : (n : Int) ≤ 4 := by omega
                by_cases hz0 : z.size = 0
                · have hze : z.toList.isEmpty = true := by rw [Gate.isEmpty_of_size]; simpa using hz0
                  have HDT : Hid (Gate.deepS ts (k) = true) := by unfold Hid; rw [HDS.out, hz, Gate.climbS_empty ts _ z hz0]; simpa using hz0
                  clear hz hz0
                  go_wp2_with fail
                  exact ⟨⟨k + 1, by omega, by go_num, HS.out HT.out HDT.out, HB1.out⟩, by simp [intOf]; omega⟩
                · have hze : z.toList.isEmpty = false := by rw [Gate.isEmpty_of_size]; simpa using hz0
                  have HZ : Hid (Gate.climbS ts 5 ts[k].nm = Gate.climbS ts (5 - (n + 1)) (Gate.over ts z)) := by
                    obtain ⟨q, hq⟩ : ∃ q, 5 - n = q + 1 := ⟨4 - n, by omega⟩
                    rw [Hid, hz, hq, Gate.climbS_step ts q z hz0, show 5 - (n + 1) = q by omega]
                  clear hz hz0
                  go_wp2_with (go_at_call 76; refine (l4Over_any _ _ ts _ _ HW1.out).mono ?_; rintro e w' ⟨rfl, rfl⟩)
                  exact ⟨⟨n + 1, Gate.over ts z, by omega, rfl, by go_num, HZ.out, trivial⟩, by simp [intOf]; omega⟩
              · have e5 : 5 - n = 0 := by omega
                rw [e5] at hz
                have hnI : ¬ (n : Int) ≤ 4 := by omega
                by_cases hz0 : z.size = 0
                · have hze : z.toList.isEmpty = true := by rw [Gate.isEmpty_of_size]; simpa using hz0
                  have HDT : Hid (Gate.deepS ts (k) = true) := by unfold Hid; rw [HDS.out, hz]; simpa [Gate.climbS] using hz0
                  clear hz hz0
                  go_wp2_with fail
                  exact ⟨⟨k + 1, by omega, by go_num, HS.out HT.out HDT.out, HB1.out⟩, by simp [intOf]; omega⟩
                · have hze : z.toList.isEmpty = false := by rw [Gate.isEmpty_of_size]; simpa using hz0
                  have HDT : Hid (Gate.deepS ts (k) = false) := by unfold Hid; rw [HDS.out, hz]; simpa [Gate.climbS] using hz0
                  clear hz hz0
                  go_wp2_with fail
                  go_ret
                  exact ⟨ret_bool (HD.out HDT.out).symm, HB1.out⟩
          · go_wp2_with fail
            go_quiet (first | (go_at_call 74; exact Calls.quiet_of_same (as_bool HNm.out (l1NameOk_any _ _ hsn))) | (go_at_call 75; exact Calls.quiet_of_same (as_bool HI.out (l4Team_any _ _ ts _ _ (by exact HWr.out _ _)))))
            go_wp2_with fail
            obtain ⟨W1, hW1⟩ : ∃ W1, W1 = (W0.alloc (.cells #[.string ts[k].nm, .string ts[k].ov] 60)).drewN nq := ⟨_, rfl⟩
            have HB1 : Hid (Below w.heap.size w W1) := by unfold Hid; rw [hW1]; exact HB.out.trans ((HBx.out _ _).mono hsz)
            have HW1 : Hid (TmsAt W1 (some ⟨b, off, none⟩) ts) := HW0.out.mono HB1.out
            rw [← hW1]
            clear hW1
            go_loopw [5, 6] (fun p i wi => ∃ (n : Nat) (z : ByteArray), n ≤ 5 ∧ p = .string z ∧ i = .int .i64 n ∧ Gate.climbS ts 5 ts[k].nm = Gate.climbS ts (5 - n) z ∧ wi = W1) (fun _ i _ => 5 - (intOf i).toNat)
            case atStart => exact ⟨0, ts[k].nm, Nat.zero_le _, rfl, rfl, rfl, rfl⟩
            case round =>
              obtain ⟨n, z, hn5, rfl, rfl, hz, rfl⟩ := hrel
              by_cases hn : n < 5
              · have hnI : (n : Int) ≤ 4 := by omega
                by_cases hz0 : z.size = 0
                · have hze : z.toList.isEmpty = true := by rw [Gate.isEmpty_of_size]; simpa using hz0
                  have HDT : Hid (Gate.deepS ts (k) = true) := by unfold Hid; rw [HDS.out, hz, Gate.climbS_empty ts _ z hz0]; simpa using hz0
                  clear hz hz0
                  go_wp2_with fail
                  exact ⟨⟨k + 1, by omega, by go_num, HS.out HT.out HDT.out, HB1.out⟩, by simp [intOf]; omega⟩
                · have hze : z.toList.isEmpty = false := by rw [Gate.isEmpty_of_size]; simpa using hz0
                  have HZ : Hid (Gate.climbS ts 5 ts[k].nm = Gate.climbS ts (5 - (n + 1)) (Gate.over ts z)) := by
                    obtain ⟨q, hq⟩ : ∃ q, 5 - n = q + 1 := ⟨4 - n, by omega⟩
                    rw [Hid, hz, hq, Gate.climbS_step ts q z hz0, show 5 - (n + 1) = q by omega]
                  clear hz hz0
                  go_wp2_with (go_at_call 76; refine (l4Over_any _ _ ts _ _ HW1.out).mono ?_; rintro e w' ⟨rfl, rfl⟩)
                  exact ⟨⟨n + 1, Gate.over ts z, by omega, rfl, by go_num, HZ.out, trivial⟩, by simp [intOf]; omega⟩
              · have e5 : 5 - n = 0 := by omega
                rw [e5] at hz
                have hnI : ¬ (n : Int) ≤ 4 := by omega
                by_cases hz0 : z.size = 0
                · have hze : z.toList.isEmpty = true := by rw [Gate.isEmpty_of_size]; simpa using hz0
                  have HDT : Hid (Gate.deepS ts (k) = true) := by unfold Hid; rw [HDS.out, hz]; simpa [Gate.climbS] using hz0
                  clear hz hz0
                  go_wp2_with fail
                  exact ⟨⟨k + 1, by omega, by go_num, HS.out HT.out HDT.out, HB1.out⟩, by simp [intOf]; omega⟩
                · have hze : z.toList.isEmpty = false := by rw [Gate.isEmpty_of_size]; simpa using hz0
                  have HDT : Hid (Gate.deepS ts (k) = false) := by unfold Hid; rw [HDS.out, hz]; simpa [Gate.climbS] using hz0
                  clear hz hz0
                  go_wp2_with fail
                  go_ret
                  exact ⟨ret_bool (HD.out HDT.out).symm, HB1.out⟩
        · have HI : Hid (Gate.hasTeam ts ts[k].ov = false) := by simpa [Hid] using hit
          have HF : Hid (Gate.teamAt ts k = false) := by unfold Hid; rw [HA.out, HI.out, hov']; rfl
          clear hit
          rcases hgood with hg | ⟨hg, hk1, hk2, hkm, hls', d0⟩
          · go_wp2_with fail
            go_quiet (first | (go_at_call 74; exact Calls.quiet_of_same (as_bool HNm.out (l1NameOk_any _ _ hsn))) | (go_at_call 75; exact Calls.quiet_of_same (as_bool HI.out (l4Team_any _ _ ts _ _ (by exact HWr.out _ _)))))
            go_wp2_with fail
            go_ret
            exact ⟨ret_bool (HN.out HF.out).symm, HB.out.trans ((HBx.out _ _).mono hsz)⟩
          · go_wp2_with fail
            go_quiet (first | (go_at_call 74; exact Calls.quiet_of_same (as_bool HNm.out (l1NameOk_any _ _ hsn))) | (go_at_call 75; exact Calls.quiet_of_same (as_bool HI.out (l4Team_any _ _ ts _ _ (by exact HWr.out _ _)))))
            go_wp2_with fail
            go_ret
            exact ⟨ret_bool (HN.out HF.out).symm, HB.out.trans ((HBx.out _ _).mono hsz)⟩
    · have HF : Hid (Gate.teamsOkS ts = true) := by
        have e : k = ts.length := by omega
        subst e; rw [Hid, HG.out, hup]
      clear hup
      go_wp2_with fail
      go_ret
      exact ⟨ret_bool HF.out.symm, hB⟩

end Go.Proofs.YtimhinpekngceaaDoor
