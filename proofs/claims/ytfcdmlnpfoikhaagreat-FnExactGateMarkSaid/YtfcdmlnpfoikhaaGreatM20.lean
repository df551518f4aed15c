import Derived.Test.YtfcdmlnpfoikhaaGreatM17
namespace Go.Proofs.YtfcdmlnpfoikhaaGreat
open Go.RowKit
theorem Gate.zoq (ts : List Tm) : (!(ts.any fun t => !Gate.zdg ts t)) = Gate.up (Gate.zeB ts) ts.length := by
  rw [Bool.eq_iff_iff, Gate.zb6]
  simp only [Bool.not_eq_true', List.any_eq_false]
  constructor
  · intro h i hi
    have := h ts[i] (List.getElem_mem hi)
    unfold Gate.zeB
    rw [Gate.getD_at ts i _ hi]
    simpa using this
  · intro h x hx
    obtain ⟨k, hk, rfl⟩ := List.mem_iff_getElem.1 hx
    have := h k hk
    unfold Gate.zeB at this
    rw [Gate.getD_at ts k _ hk] at this
    simp [this]
theorem Gate.zbN (ts : List Tm) (k : Nat) (h : k < ts.length) (b : Bool) (hb : (decide (k = 0) || Gate.less (ts.getD (k - 1) Gate.zaP).nm ts[k].nm) = b) :
    Gate.yU ts k = (Gate.zy ts[k].nm && b && (ts[k].ov.toList.isEmpty || Gate.yh ts ts[k].ov)) := by
  unfold Gate.yU; rw [Gate.getD_at ts k _ h, hb]
set_option maxHeartbeats 4000000 in
theorem zhe (a : Option Addr) (cap : Nat) (ts : List Tm) (w : World) (hw : jg w a ts) :
    Calls Tryz.prog 105 #[.slice a ts.length cap] w fun e w' => e = .returned (.bool (Gate.za8 ts)) /\ Below w.heap.size w w' := by
  have hl := hw.len
  unfold maxLen at hl
  by_cases h12 : ts.length <= 12
  rotate_left
  · have HF : Hid (Gate.za8 ts = false) := by simp [Hid, Gate.za8, h12]
    clear hw
    go_enter Tryz.func105, Tryz.ntmps105
    go_wp2_with fail
    go_ret
    exact ⟨ze HF.out.symm, (Below.refl _ _).alloc (Nat.le_refl _) _⟩
  have HG : Hid (Gate.za8 ts = (Gate.up (Gate.yU ts) ts.length && Gate.up (Gate.zeB ts) ts.length)) := by simp [Hid, Gate.za8, h12]
  have h12I : (ts.length : Int) <= 12 := by omega
  go_enter Tryz.func105, Tryz.ntmps105
  go_wp2_with fail
  have hB00 : Below w.heap.size w (w.alloc (.cells #[.slice a ts.length cap] 39)) := (Below.refl _ _).alloc (Nat.le_refl _) _
  have hX00 := zH w #[.slice a ts.length cap] 39
  have hz00 : w.heap.size < (w.alloc (.cells #[.slice a ts.length cap] 39)).heap.size := by simp
  obtain ⟨w0, hw0⟩ : ∃ w0, w0 = w.alloc (.cells #[.slice a ts.length cap] 39) := ⟨_, rfl⟩
  rw [<- hw0] at hB00 hX00 hz00 ⊢
  have HW0 : Hid (jg w0 a ts) := hw.mono hB00
  have HB00 : Hid (Below w.heap.size w w0) := hB00
  clear hw0 hw hB00
  go_loopw [10] (fun i wr => ∃ k : Nat, k <= ts.length /\ i = .int .i64 k /\ Gate.up (Gate.yU ts) k = true /\ Below w0.heap.size w0 wr) (fun i _ => ts.length - (intOf i).toNat)
  case atStart => exact ⟨0, Nat.zero_le _, rfl, rfl, Below.refl _ _⟩
  case round =>
    obtain ⟨k, hk, rfl, hup, hB⟩ := hrel
    have hsz := hB.size
    have hX := za hX00 hz00 hB
    have hX0 : wr.cell? ⟨w.heap.size, 0, none⟩ = some (.slice a ts.length cap) := hX 0
    have hzr : w.heap.size < wr.heap.size := by omega
    have HBr : Hid (Below w.heap.size w wr) := HB00.out.trans (hB.mono (by omega))
    clear hX hX00
    by_cases hlt : k < ts.length
    · obtain ⟨b, off, rfl, hb, c0, c1⟩ := HW0.out.load hB k hlt
      have hbr : b < wr.heap.size := by omega
      have hsm := HW0.out.small k hlt
      have hsn := hsm.nm
      have HS : Hid (Gate.yU ts k = true -> Gate.up (Gate.yU ts) (k + 1) = true) := fun h => by rw [Gate.jF, hup, h]; rfl
      have HN : Hid (Gate.yU ts k = false -> Gate.za8 ts = false) := fun h => by rw [HG.out, Gate.za4 hlt h]; rfl
      have hltI : (k : Int) < (ts.length : Int) := by omega
      have HB : Hid (Below w0.heap.size w0 wr) := hB
      clear hup hsm hB
      by_cases hn : Gate.zy ts[k].nm = true
      rotate_left
      · have HNm : Hid (Gate.zy ts[k].nm = false) := by simpa [Hid] using hn
        have HF : Hid (Gate.yU ts k = false) := by unfold Hid; rw [Gate.zbN ts k hlt _ rfl, HNm.out]; rfl
        clear hn
        go_wp2_with fail
        go_quiet ((go_at_call 140; exact Calls.quiet_of_same (zw HNm.out (zN _ _ hsn))))
        go_wp2_with fail
        go_ret
        exact ⟨ze (HN.out HF.out).symm, below_drewN (HBr.out.alloc (by omega) _) _⟩
      have HNm : Hid (Gate.zy ts[k].nm = true) := hn
      clear hn
      by_cases hbad : 0 < k /\ Gate.less (ts.getD (k - 1) Gate.zaP).nm ts[k].nm = false
      · obtain ⟨hkpos, hls⟩ := hbad
        have HF : Hid (Gate.yU ts k = false) := by
          unfold Hid; rw [Gate.zbN ts k hlt false (by rw [hls, decide_eq_false (show ¬ k = 0 by omega)]; rfl)]; simp
        obtain ⟨m, rfl⟩ : ∃ m, k = m + 1 := ⟨k - 1, by omega⟩
        rw [Nat.add_sub_cancel, Gate.getD_at ts m _ (by omega)] at hls
        obtain ⟨b', off', e', hb', d0, d1⟩ := HW0.out.load HB.out m (by omega)
        simp only [Option.some.injEq, Addr.mk.injEq] at e'
        obtain ⟨rfl, rfl, _⟩ := e'
        have hls' : Op.bytesLess ts[m].nm.toList ts[m + 1].nm.toList = false := hls
        have hmI : (m : Int) < 12 := by omega
        have hm0 : (0 : Int) <= (m : Int) := by omega
        have hml : (m : Int) < (ts.length : Int) := by omega
        have hmw : IntKind.i64.wrap (m : Int) = m := by rw [IntKind.wrap_i64]; omega
        clear hls
        go_wp2_with fail
        go_quiet ((go_at_call 140; exact Calls.quiet_of_same (zw HNm.out (zN _ _ hsn))))
        go_wp2_with fail
        go_ret
        exact ⟨ze (HN.out HF.out).symm, below_drewN (HBr.out.alloc (by omega) _) _⟩
      have hgd : (decide (k = 0) || Gate.less (ts.getD (k - 1) Gate.zaP).nm ts[k].nm) = true := by
        by_cases hk0 : k = 0
        · simp [hk0]
        · cases hq : Gate.less (ts.getD (k - 1) Gate.zaP).nm ts[k].nm
          · exact absurd ⟨by omega, hq⟩ hbad
          · simp
      have HA : Hid (Gate.yU ts k = (ts[k].ov.toList.isEmpty || Gate.yh ts ts[k].ov)) := by
        unfold Hid; rw [Gate.zbN ts k hlt true hgd, HNm.out]; rfl
      have hgood : (decide (0 < k) = false) \/ (decide (0 < k) = true /\ ∃ m, k = m + 1 /\ ∃ h : m < ts.length, Op.bytesLess ts[m].nm.toList ts[k].nm.toList = true /\ wr.cell? ⟨b, off + m * 2, none⟩ = some (.string ts[m].nm)) := by
        by_cases hk0 : k = 0
        · exact Or.inl (by simp; omega)
        · refine Or.inr ⟨by simp; omega, k - 1, by omega, by omega, ?_, ?_⟩
          · rw [decide_eq_false hk0, Gate.getD_at ts (k - 1) _ (by omega)] at hgd
            exact hgd
          · obtain ⟨b', off', e', hb', d0, d1⟩ := HW0.out.load HB.out (k - 1) (by omega)
            simp only [Option.some.injEq, Addr.mk.injEq] at e'
            obtain ⟨rfl, rfl, _⟩ := e'
            exact d0
      clear hbad hgd
      have HBx : Hid (∀ (ob : Obj) (n : Nat), Below wr.heap.size wr ((wr.alloc ob).drewN n)) := fun ob n => below_drewN ((Below.refl _ _).alloc (Nat.le_refl _) _) _
      by_cases hov : ts[k].ov.toList.isEmpty = true
      · have HT : Hid (Gate.yU ts k = true) := by unfold Hid; rw [HA.out, hov]; rfl
        rcases hgood with hg | ⟨hg, m, rfl, hm, hls', d0⟩
        · go_wp2_with fail
          go_quiet ((go_at_call 140; exact Calls.quiet_of_same (zw HNm.out (zN _ _ hsn))))
          go_wp2_with fail
          exact ⟨⟨k + 1, by omega, by go_num, HS.out HT.out, HB.out.trans ((HBx.out _ _).mono hsz)⟩, by simp [intOf]; omega⟩
        · have hmI : (m : Int) < 12 := by omega
          have hm0 : (0 : Int) <= (m : Int) := by omega
          have hml : (m : Int) < (ts.length : Int) := by omega
          have hmw : IntKind.i64.wrap (m : Int) = m := by rw [IntKind.wrap_i64]; omega
          go_wp2_with fail
          go_quiet ((go_at_call 140; exact Calls.quiet_of_same (zw HNm.out (zN _ _ hsn))))
          go_wp2_with fail
          exact ⟨⟨m + 1 + 1, by omega, by go_num, HS.out HT.out, HB.out.trans ((HBx.out _ _).mono hsz)⟩, by simp [intOf]; omega⟩
      · have hov' : ts[k].ov.toList.isEmpty = false := by simpa using hov
        clear hov
        by_cases hit : Gate.yh ts ts[k].ov = true
        · have HI : Hid (Gate.yh ts ts[k].ov = true) := hit
          have HT : Hid (Gate.yU ts k = true) := by unfold Hid; rw [HA.out, hit]; simp
          clear hit
          rcases hgood with hg | ⟨hg, m, rfl, hm, hls', d0⟩
          · go_wp2_with fail
            go_quiet ((go_at_call 140; exact Calls.quiet_of_same (zw HNm.out (zN _ _ hsn))))
            go_wp2_with fail
            refine (zw HI.out (zbY _ _ ts _ _ ((HW0.out.mono HB.out).mono (HBx.out _ _)))).mono ?_
            rintro e w3 ⟨rfl, hb3⟩
            have hB3 : Below w0.heap.size w0 w3 := (HB.out.trans ((HBx.out _ _).mono hsz)).trans (hb3.mono (by simp; omega))
            clear hb3
            go_wp2_with fail
            exact ⟨⟨k + 1, by omega, by go_num, HS.out HT.out, hB3⟩, by simp [intOf]; omega⟩
          · have hmI : (m : Int) < 12 := by omega
            have hm0 : (0 : Int) <= (m : Int) := by omega
            have hml : (m : Int) < (ts.length : Int) := by omega
            have hmw : IntKind.i64.wrap (m : Int) = m := by rw [IntKind.wrap_i64]; omega
            go_wp2_with fail
            go_quiet ((go_at_call 140; exact Calls.quiet_of_same (zw HNm.out (zN _ _ hsn))))
            go_wp2_with fail
            refine (zw HI.out (zbY _ _ ts _ _ ((HW0.out.mono HB.out).mono (HBx.out _ _)))).mono ?_
            rintro e w3 ⟨rfl, hb3⟩
            have hB3 : Below w0.heap.size w0 w3 := (HB.out.trans ((HBx.out _ _).mono hsz)).trans (hb3.mono (by simp; omega))
            clear hb3
            go_wp2_with fail
            exact ⟨⟨m + 1 + 1, by omega, by go_num, HS.out HT.out, hB3⟩, by simp [intOf]; omega⟩
        · have HI : Hid (Gate.yh ts ts[k].ov = false) := by simpa [Hid] using hit
          have HF : Hid (Gate.yU ts k = false) := by unfold Hid; rw [HA.out, HI.out, hov']; rfl
          clear hit
          rcases hgood with hg | ⟨hg, m, rfl, hm, hls', d0⟩
          focus
            go_wp2_with fail
          rotate_left
          focus
            have hmI : (m : Int) < 12 := by omega
            have hm0 : (0 : Int) <= (m : Int) := by omega
            have hml : (m : Int) < (ts.length : Int) := by omega
            have hmw : IntKind.i64.wrap (m : Int) = m := by rw [IntKind.wrap_i64]; omega
            go_wp2_with fail
          all_goals
            go_quiet ((go_at_call 140; exact Calls.quiet_of_same (zw HNm.out (zN _ _ hsn))))
            go_wp2_with fail
            refine (zw HI.out (zbY _ _ ts _ _ ((HW0.out.mono HB.out).mono (HBx.out _ _)))).mono ?_
            rintro e w3 ⟨rfl, hb3⟩
            have hB3 : Below w.heap.size w w3 := (HBr.out.trans ((HBx.out _ _).mono (by omega))).trans (hb3.mono (by simp; omega))
            clear hb3
            go_wp2_with fail
            go_ret
            exact ⟨ze (HN.out HF.out).symm, hB3⟩
    · have HF : Hid (Gate.za8 ts = !(ts.any fun t => !Gate.zdg ts t)) := by
        have e : k = ts.length := by omega
        subst e; rw [Hid, HG.out, hup, Gate.zoq]; rfl
      have HWr : Hid (jg wr a ts) := HW0.out.mono hB
      clear hup hB
      go_wp2_with fail
      refine (zfx _ _ ts _ _ _ HWr.out (znD _ _ ts _ _ HWr.out hzr hX0)).mono ?_
      rintro e w3 ⟨rfl, hb3⟩
      have hB3 : Below w.heap.size w w3 := HBr.out.trans (hb3.mono (by omega))
      clear hb3
      go_wp2_with fail
      go_ret
      exact ⟨ze HF.out.symm, hB3⟩
end Go.Proofs.YtfcdmlnpfoikhaaGreat
