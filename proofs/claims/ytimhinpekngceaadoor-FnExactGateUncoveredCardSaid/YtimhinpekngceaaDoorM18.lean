import Derived.Test.YtimhinpekngceaaDoorM08
import Derived.Test.YtimhinpekngceaaDoorM17
namespace Go.Proofs.YtimhinpekngceaaDoor
open Go.RowKit

set_option maxHeartbeats 400000 in
theorem areRulesFn_any (r : Rl) (a : Option Addr) (cap : Nat) (w : World) (hm : r.Small) (hi : IntsAt w a r.vs) :
    Calls Tryd.prog 62 #[.agg (r.cells a cap)] w fun e w' => e = .returned (.bool (!Gate.ruleOk r)) ∧ Below w.heap.size w w' := by
  unfold Rl.cells
  go_enter Tryd.func62, Tryd.ntmps62
  go_wp2_with fail
  refine (isRule_any r _ _ _ hm (hi.mono ((Below.refl _ _).alloc (Nat.le_refl _) _))).mono ?_
  rintro e w2 ⟨rfl, hb2⟩
  go_wp2_with fail
  go_ret
  exact ⟨rfl, ((Below.refl _ _).alloc (Nat.le_refl _) _).trans (hb2.mono (by simp))⟩

set_option maxHeartbeats 1000000 in
theorem IndexFuncR_any (a : Option Addr) (cap : Nat) (rs : List Rl) (w : World) (hw : RlsAt w a rs) :
    Calls Tryd.prog 83 #[.slice a rs.length cap, .func (.func 62) #[] #[]] w fun e w' => ∃ r : Int, e = .returned (.int .i64 r) ∧ decide (0 ≤ r) = (rs.any fun q => !Gate.ruleOk q) ∧ Below w.heap.size w w' := by
  have hl := hw.len
  unfold maxLen at hl
  go_enter Tryd.func83, Tryd.ntmps83
  go_wp2_with fail
  go_loopw [8] (fun i wr => ∃ k : Nat, k ≤ rs.length ∧ i = .int .i64 k ∧ ((rs.take k).any fun q => !Gate.ruleOk q) = false ∧ Below w.heap.size w wr) (fun i _ => rs.length - (intOf i).toNat)
  case atStart => exact ⟨0, Nat.zero_le _, rfl, rfl, Below.refl _ _⟩
  case round =>
    obtain ⟨k, hk, rfl, hno, hB⟩ := hrel
    by_cases hlt : k < rs.length
    · obtain ⟨b, off, va, vcap, rfl, hb, hsm, hI, c0, c1, c2, c3⟩ := hw.load hB k hlt
      have hltI : (k : Int) < (rs.length : Int) := by omega
      have hbr : b < wr.heap.size := Nat.lt_of_lt_of_le hb hB.size
      clear hw
      by_cases he : (!Gate.ruleOk rs[k]) = true
      · have HA : Hid ((rs.any fun q => !Gate.ruleOk q) = true) := any_at _ rs k hlt he
        have HE : Hid ((!Gate.ruleOk rs[k]) = true) := he
        clear he hno
        go_wp2_with fail
        refine (as_bool HE.out (areRulesFn_any rs[k] va vcap _ hsm hI)).mono ?_
        rintro e w2 ⟨rfl, hb2⟩
        go_wp2_with fail
        go_ret
        exact ⟨_, rfl, by rw [HA.out]; simp, hB.trans (hb2.mono hB.size)⟩
      · have he' : (!Gate.ruleOk rs[k]) = false := by simpa using he
        have HS : Hid (((rs.take (k + 1)).any fun q => !Gate.ruleOk q) = false) := by unfold Hid; rw [any_take_snoc _ rs k hlt, hno, he']; rfl
        have HE : Hid ((!Gate.ruleOk rs[k]) = false) := he'
        clear he he' hno
        go_wp2_with fail
        refine (as_bool HE.out (areRulesFn_any rs[k] va vcap _ hsm hI)).mono ?_
        rintro e w2 ⟨rfl, hb2⟩
        go_wp2_with fail
        exact ⟨⟨k + 1, by omega, by go_num, HS.out, hB.trans (hb2.mono hB.size)⟩, by simp [intOf]; omega⟩
    · have HA : Hid ((rs.any fun q => !Gate.ruleOk q) = false) := by unfold Hid; rw [← hno, List.take_of_length_le (by omega)]
      clear hno hw
      go_wp2_with fail
      go_ret
      exact ⟨_, rfl, by rw [HA.out]; rfl, hB⟩

set_option maxHeartbeats 400000 in
theorem areRules_any (a : Option Addr) (cap : Nat) (rs : List Rl) (w : World) (hw : RlsAt w a rs) :
    Calls Tryd.prog 32 #[.slice a rs.length cap] w fun e w' => e = .returned (.bool (Gate.rulesOk rs)) ∧ Below w.heap.size w w' := by
  have HF : Hid ((!(rs.any fun q => !Gate.ruleOk q)) = Gate.rulesOk rs) := Gate.not_any_not _ _
  have hc : Calls Tryd.prog 61 #[.slice a rs.length cap, .func (.func 62) #[] #[]] w fun e w' => e = .returned (.bool (rs.any fun q => !Gate.ruleOk q)) ∧ Below w.heap.size w w' := by
    go_enter Tryd.func61, Tryd.ntmps61
    go_wp2_with fail
    refine (IndexFuncR_any _ _ _ _ hw).mono ?_
    rintro e w2 ⟨r, rfl, hr, hb2⟩
    go_wp2_with fail
    go_ret
    exact ⟨rfl, hb2⟩
  go_enter Tryd.func32, Tryd.ntmps32
  go_wp2_with fail
  refine hc.mono ?_
  rintro e w2 ⟨rfl, hb2⟩
  go_wp2_with fail
  go_ret
  exact ⟨ret_bool HF.out, hb2⟩

set_option maxHeartbeats 2000000 in
theorem uncovered_any (ta : Option Addr) (tcap : Nat) (ts : List Tm) (ra : Option Addr) (rcap : Nat) (rs : List Rl) (r : Rl) (a : Option Addr) (cap : Nat) (w : World) (hw : TmsAt w ta ts) (hr : RlsAt w ra rs) (hm : r.Small) (hi : IntsAt w a r.vs) (hv : Gate.verbsOk r.vs = true) (hrs : Gate.rulesOk rs = true) :
    Calls Tryd.prog 33 #[.slice ta ts.length tcap, .slice ra rs.length rcap, .agg (r.cells a cap)] w fun e w' => e = .returned (.int .u8 (Gate.leftBits ts rs r)) ∧ Below w.heap.size w w' := by
  have hl := hr.len
  unfold maxLen at hl
  have HVS : Hid (∀ i (h : i < rs.length), Gate.verbsOk rs[i].vs = true) := fun i h => by
    unfold Gate.rulesOk at hrs; rw [List.all_eq_true] at hrs; exact Gate.ruleOk_verbs (hrs _ (List.getElem_mem h))
  have HT : Hid (TmsAt w ta ts) := hw
  have HR : Hid (RlsAt w ra rs) := hr
  have HM : Hid r.Small := hm
  have HI : Hid (∀ ob, IntsAt (w.alloc ob) a r.vs) := fun ob => hi.mono ((Below.refl _ _).alloc (Nat.le_refl _) _)
  clear hw hr hm hi hrs
  unfold Rl.cells
  go_enter Tryd.func33, Tryd.ntmps33
  go_wp2_with (go_at_call 63; refine (verbsOf_any _ _ r.vs _ (HI.out _) hv).mono ?_; rintro e w' ⟨rfl, rfl⟩)
  have hB0 : Below w.heap.size w (w.alloc (.cells #[.slice a r.vs.length cap, .string r.kd, .string r.tm, .string r.px] 38)) := (Below.refl _ _).alloc (Nat.le_refl _) _
  have hX0 := box_new w #[.slice a r.vs.length cap, .string r.kd, .string r.tm, .string r.px] 38
  obtain ⟨W0, hW0⟩ : ∃ W0, W0 = w.alloc (.cells #[.slice a r.vs.length cap, .string r.kd, .string r.tm, .string r.px] 38) := ⟨_, rfl⟩
  have hz0 : w.heap.size < W0.heap.size := by rw [hW0]; simp
  rw [← hW0] at hB0 hX0 ⊢
  clear hW0
  go_loopw [7, 15] (fun s i wr => ∃ k : Nat, k ≤ rs.length ∧ i = .int .i64 k ∧ s = .int .u8 (Gate.leftBits ts (rs.take k) r) ∧ Below W0.heap.size W0 wr) (fun _ i _ => rs.length - (intOf i).toNat)
  case atStart => exact ⟨0, Nat.zero_le _, rfl, by rw [List.take_zero, Gate.left_zero], Below.refl _ _⟩
  case round =>
    obtain ⟨k, hk, rfl, rfl, hB1⟩ := hrel
    have hB2 := hB0.trans (hB1.mono (by omega))
    have hX2 := box_later hX0 hz0 hB1
    have hz2 := Nat.lt_of_lt_of_le hz0 hB1.size
    clear hX0
    by_cases hlt : k < rs.length
    · obtain ⟨b, off, va, vcap, rfl, hb, hsm, hI, c0, c1, c2, c3⟩ := HR.out.load hB2 k hlt
      have hltI : (k : Int) < (rs.length : Int) := by omega
      have hbr : b < wr.heap.size := Nat.lt_of_lt_of_le hb hB2.size
      have HS : Hid (Gate.leftBits ts (rs.take (k + 1)) r = Gate.clrI (Gate.leftBits ts (rs.take k) r) (Gate.rightBits ts rs[k] r.kd r.tm r.px)) := Gate.left_snoc ts rs r k hlt
      go_wp2_with fail
      have hb3 : Below wr.heap.size wr (wr.alloc (.cells #[.slice va rs[k].vs.length vcap, .string rs[k].kd, .string rs[k].tm, .string rs[k].px] 38)) := (Below.refl _ _).alloc (Nat.le_refl _) _
      have hY0 := box_new wr #[.slice va rs[k].vs.length vcap, .string rs[k].kd, .string rs[k].tm, .string rs[k].px] 38
      obtain ⟨W3, hW3⟩ : ∃ W3, W3 = wr.alloc (.cells #[.slice va rs[k].vs.length vcap, .string rs[k].kd, .string rs[k].tm, .string rs[k].px] 38) := ⟨_, rfl⟩
      have hy0 : wr.heap.size < W3.heap.size := by rw [hW3]; simp
      rw [← hW3] at hb3 hY0 ⊢
      clear hW3 c0 c1 c2 c3
      have hX := box_later (box_later hX2 hz2 hb3) (by omega) (Below.refl W3.heap.size W3).drew
      have hY := box_later hY0 hy0 (Below.refl W3.heap.size W3).drew
      have hz : w.heap.size < W3.drew.heap.size := Nat.lt_of_lt_of_le hz2 hb3.size
      have hy : wr.heap.size < W3.drew.heap.size := hy0
      have hB := (hB1.trans (hb3.mono hB1.size)).drew
      have hBw := (hB2.trans (hb3.mono hB2.size)).drew
      have hIq := (hI.mono hb3).mono (Below.refl W3.heap.size W3).drew
      clear hX2 hY0 hy0 hb3 hB2 hz2 hI hB1
      go_region_held3 (fun w' => (∀ j, w'.cell? ⟨w.heap.size, j, none⟩ = (#[.slice a r.vs.length cap, .string r.kd, .string r.tm, .string r.px] : Array Value)[j]?) ∧ ∀ j, w'.cell? ⟨wr.heap.size, j, none⟩ = (#[.slice va rs[k].vs.length vcap, .string rs[k].kd, .string rs[k].tm, .string rs[k].px] : Array Value)[j]?) (exact ⟨hX, hY⟩) (first
        | (go_at_call 45; refine (rightOf_any _ _ ts rs[k] _ _ _ (by exact hIq) (HVS.out k hlt)).mono ?_; rintro e w3 ⟨rfl, hb⟩; have hX := box_later hX hz hb; have hY := box_later hY hy hb; have hB := hB.trans (hb.mono hB.size); have hBw := hBw.trans (hb.mono hBw.size); have hz := Nat.lt_of_lt_of_le hz hb.size; have hy := Nat.lt_of_lt_of_le hy hb.size; clear hb)
        | (go_at_call 71; refine (verbsFor_any _ _ ts rs[k] _ _ r.kd r.tm r.px _ (by exact HT.out.mono hBw) hsm HM.out.px).mono ?_; rintro e w4 ⟨rfl, hb⟩; have hX := box_later hX hz hb; have hY := box_later hY hy hb; have hB := hB.trans (hb.mono hB.size); have hBw := hBw.trans (hb.mono hBw.size); have hz := Nat.lt_of_lt_of_le hz hb.size; have hy := Nat.lt_of_lt_of_le hy hb.size; clear hb))
      go_wp2_with fail
      exact ⟨⟨k + 1, by omega, by go_num, by rw [HS.out]; rfl, hB⟩, by simp [intOf]; omega⟩
    · have HF : Hid (Gate.leftBits ts (rs.take k) r = Gate.leftBits ts rs r) := by unfold Hid; rw [List.take_of_length_le (by omega)]
      go_wp2_with fail
      go_ret
      exact ⟨ret_int HF.out, hB2⟩

end Go.Proofs.YtimhinpekngceaaDoor

namespace Go.Proofs.YtimhinpekngceaaDoor
open Go.RowKit

theorem Gate.covers_no {ts : List Tm} {rs : List Rl} {r : Rl} (h : Gate.allOk ts rs r = false) : Gate.covers ts rs r = false := by unfold Gate.covers; rw [h]; rfl

set_option maxHeartbeats 2000000 in
theorem implCovers_any (ta : Option Addr) (tcap : Nat) (ts : List Tm) (ra : Option Addr) (rcap : Nat) (rs : List Rl) (r : Rl) (a : Option Addr) (cap : Nat) (w : World) (hw : TmsAt w ta ts) (hr : RlsAt w ra rs) (hm : r.Small) (hi : IntsAt w a r.vs) :
    Calls Tryd.prog 18 #[.slice ta ts.length tcap, .slice ra rs.length rcap, .agg (r.cells a cap)] w fun e w' => e = .returned (.bool (Gate.covers ts rs r)) ∧ Below w.heap.size w w' := by
  have HB : Hid (∀ o1, Below w.heap.size w (w.alloc o1)) := fun _ => (Below.refl _ _).alloc (Nat.le_refl _) _
  have HT : Hid (TmsAt w ta ts) := hw
  have HR : Hid (RlsAt w ra rs) := hr
  have HI : Hid (IntsAt w a r.vs) := hi
  have HM : Hid r.Small := hm
  clear hw hr hi hm
  by_cases hok : Gate.teamsOk ts = true
  rotate_left
  · have HK : Hid (Gate.teamsOk ts = false) := by simpa [Hid] using hok
    have HF : Hid (Gate.covers ts rs r = false) := Gate.covers_no (by unfold Gate.allOk; rw [HK.out]; rfl)
    clear hok
    unfold Rl.cells
    go_enter Tryd.func18, Tryd.ntmps18
    go_wp2_with fail
    refine (as_bool HK.out (implTeamsOk_any _ _ ts _ (HT.out.mono (HB.out _)))).mono ?_
    rintro e w1 ⟨rfl, hb1⟩
    have HB1 : Hid (Below w.heap.size w w1) := (HB.out _).trans (hb1.mono (by simp))
    clear hb1
    go_wp2_with fail
    go_ret
    exact ⟨ret_bool HF.out.symm, HB1.out⟩
  have HK : Hid (Gate.teamsOk ts = true) := hok
  clear hok
  by_cases hro : Gate.ruleOk r = true
  rotate_left
  · have HRo : Hid (Gate.ruleOk r = false) := by simpa [Hid] using hro
    have HF : Hid (Gate.covers ts rs r = false) := Gate.covers_no (by unfold Gate.allOk; rw [HRo.out]; simp)
    clear hro
    unfold Rl.cells
    go_enter Tryd.func18, Tryd.ntmps18
    go_wp2_with fail
    refine (as_bool HK.out (implTeamsOk_any _ _ ts _ (HT.out.mono (HB.out _)))).mono ?_
    rintro e w1 ⟨rfl, hb1⟩
    have HB1 : Hid (Below w.heap.size w w1) := (HB.out _).trans (hb1.mono (by simp))
    have hX1 := box_later (box_new w _ _) (by simp) hb1
    have hz : w.heap.size < w1.heap.size := by have := hb1.size; simp at this; omega
    clear hb1
    go_wp2_with fail
    refine (as_bool HRo.out (isRule_any r _ _ _ HM.out (HI.out.mono HB1.out))).mono ?_
    rintro e w2 ⟨rfl, hb2⟩
    have HB2 : Hid (Below w.heap.size w w2) := HB1.out.trans (hb2.mono HB1.out.size)
    clear hb2
    go_wp2_with fail
    go_ret
    exact ⟨ret_bool HF.out.symm, HB2.out⟩
  have HRo : Hid (Gate.ruleOk r = true) := hro
  have HV : Hid (Gate.verbsOk r.vs = true) := Gate.ruleOk_verbs hro
  clear hro
  by_cases hrs : Gate.rulesOk rs = true
  rotate_left
  · have HRs : Hid (Gate.rulesOk rs = false) := by simpa [Hid] using hrs
    have HF : Hid (Gate.covers ts rs r = false) := Gate.covers_no (by unfold Gate.allOk; rw [HRs.out]; simp)
    clear hrs
    unfold Rl.cells
    go_enter Tryd.func18, Tryd.ntmps18
    go_wp2_with fail
    refine (as_bool HK.out (implTeamsOk_any _ _ ts _ (HT.out.mono (HB.out _)))).mono ?_
    rintro e w1 ⟨rfl, hb1⟩
    have HB1 : Hid (Below w.heap.size w w1) := (HB.out _).trans (hb1.mono (by simp))
    have hX1 := box_later (box_new w _ _) (by simp) hb1
    have hz : w.heap.size < w1.heap.size := by have := hb1.size; simp at this; omega
    clear hb1
    go_wp2_with fail
    refine (as_bool HRo.out (isRule_any r _ _ _ HM.out (HI.out.mono HB1.out))).mono ?_
    rintro e w2 ⟨rfl, hb2⟩
    have HB2 : Hid (Below w.heap.size w w2) := HB1.out.trans (hb2.mono HB1.out.size)
    clear hb2
    go_wp2_with fail
    refine (as_bool HRs.out (areRules_any _ _ rs _ (HR.out.mono HB2.out))).mono ?_
    rintro e w3 ⟨rfl, hb3⟩
    have HB3 : Hid (Below w.heap.size w w3) := HB2.out.trans (hb3.mono HB2.out.size)
    clear hb3
    go_wp2_with fail
    go_ret
    exact ⟨ret_bool HF.out.symm, HB3.out⟩
  have HRs : Hid (Gate.rulesOk rs = true) := hrs
  have HF : Hid (Gate.covers ts rs r = (Gate.leftBits ts rs r == 0)) := by unfold Hid Gate.covers Gate.allOk; rw [HK.out, HRo.out, HRs.out]; rfl
  clear hrs
  unfold Rl.cells
  go_enter Tryd.func18, Tryd.ntmps18
  go_wp2_with fail
  refine (as_bool HK.out (implTeamsOk_any _ _ ts _ (HT.out.mono (HB.out _)))).mono ?_
  rintro e w1 ⟨rfl, hb1⟩
  have HB1 : Hid (Below w.heap.size w w1) := (HB.out _).trans (hb1.mono (by simp))
  have hX1 := box_later (box_new w _ _) (by simp) hb1
  have hz : w.heap.size < w1.heap.size := by have := hb1.size; simp at this; omega
  clear hb1
  go_wp2_with fail
  refine (as_bool HRo.out (isRule_any r _ _ _ HM.out (HI.out.mono HB1.out))).mono ?_
  rintro e w2 ⟨rfl, hb2⟩
  have HB2 : Hid (Below w.heap.size w w2) := HB1.out.trans (hb2.mono HB1.out.size)
  have hX2 := box_later hX1 hz hb2
  have hz2 := Nat.lt_of_lt_of_le hz hb2.size
  clear hb2 hX1 hz
  go_wp2_with fail
  refine (as_bool HRs.out (areRules_any _ _ rs _ (HR.out.mono HB2.out))).mono ?_
  rintro e w3 ⟨rfl, hb3⟩
  have HB3 : Hid (Below w.heap.size w w3) := HB2.out.trans (hb3.mono HB2.out.size)
  have hX3 := box_later hX2 hz2 hb3
  have hz3 := Nat.lt_of_lt_of_le hz2 hb3.size
  clear hb3 hX2 hz2
  go_wp2_with fail
  refine (uncovered_any _ _ ts _ _ rs r _ _ _ (HT.out.mono HB3.out) (HR.out.mono HB3.out) HM.out (HI.out.mono HB3.out) HV.out HRs.out).mono ?_
  rintro e w4 ⟨rfl, hb4⟩
  have HB4 : Hid (Below w.heap.size w w4) := HB3.out.trans (hb4.mono HB3.out.size)
  clear hb4
  go_wp2_with fail
  go_ret
  exact ⟨ret_bool HF.out.symm, HB4.out⟩

end Go.Proofs.YtimhinpekngceaaDoor
