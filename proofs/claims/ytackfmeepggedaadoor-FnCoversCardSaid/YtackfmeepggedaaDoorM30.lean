import Derived.Test.YtackfmeepggedaaDoorM27
import Derived.Test.YtackfmeepggedaaDoorM25
namespace Go.Proofs.YtackfmeepggedaaDoor
open Go.RowKit

theorem Gate.covers_no {ts : List Tm} {rs : List Rl} {r : Rl} (h : Gate.allOk ts rs r = false) : Gate.covers ts rs r = false := by unfold Gate.covers; rw [h]; rfl

set_option maxHeartbeats 2000000 in
theorem implCovers_any (ta : Option Addr) (tcap : Nat) (ts : List Tm) (ra : Option Addr) (rcap : Nat) (rs : List Rl) (r : Rl) (a : Option Addr) (cap : Nat) (w : World) (hw : TmsAt w ta ts) (hr : RlsAt w ra rs) (hm : r.Small) (hi : IntsAt w a r.vs) :
    Calls Tryd.prog 5 #[.slice ta ts.length tcap, .slice ra rs.length rcap, .agg (r.cells a cap)] w fun e w' => e = .returned (.bool (Gate.covers ts rs r)) ∧ Below w.heap.size w w' := by
  have HB : Hid (∀ o1, Below w.heap.size w (w.alloc o1)) := fun _ => (Below.refl _ _).alloc (Nat.le_refl _) _
  have HT : Hid (TmsAt w ta ts) := hw
  have HR : Hid (RlsAt w ra rs) := hr
  have HI : Hid (IntsAt w a r.vs) := hi
  have HM : Hid r.Small := hm
  clear hw hr hi hm
  by_cases hok : Gate.teamsOk ts = true
  rotate_left
  · have HK : Hid (Gate.teamsOk ts = false) := by simpa [Hid] using hok
    have HF : Hid (Gate.covers ts rs r = false) := Gate.covers_no (by unfold Gate.allOk; rw [HK.out]; rfl)
    clear hok
    unfold Rl.cells
    go_enter Tryd.func5, Tryd.ntmps5
    go_wp2_with fail
    refine (as_bool HK.out (implTeamsOk_any _ _ ts _ (HT.out.mono (HB.out _)))).mono ?_
    rintro e w1 ⟨rfl, hb1⟩
    have HB1 : Hid (Below w.heap.size w w1) := (HB.out _).trans (hb1.mono (by simp))
    clear hb1
    go_wp2_with fail
    go_ret
    exact ⟨ret_bool HF.out.symm, HB1.out⟩
  have HK : Hid (Gate.teamsOk ts = true) := hok
  clear hok
  by_cases hro : Gate.ruleOk r = true
  rotate_left
  · have HRo : Hid (Gate.ruleOk r = false) := by simpa [Hid] using hro
    have HF : Hid (Gate.covers ts rs r = false) := Gate.covers_no (by unfold Gate.allOk; rw [HRo.out]; simp)
    clear hro
    unfold Rl.cells
    go_enter Tryd.func5, Tryd.ntmps5
    go_wp2_with fail
    refine (as_bool HK.out (implTeamsOk_any _ _ ts _ (HT.out.mono (HB.out _)))).mono ?_
    rintro e w1 ⟨rfl, hb1⟩
    have HB1 : Hid (Below w.heap.size w w1) := (HB.out _).trans (hb1.mono (by simp))
    have hX1 := box_later (box_new w _ _) (by simp) hb1
    have hz : w.heap.size < w1.heap.size := by have := hb1.size; simp at this; omega
    clear hb1
    go_wp2_with fail
    refine (as_bool HRo.out (isRule_any r _ _ _ HM.out (HI.out.mono HB1.out))).mono ?_
    rintro e w2 ⟨rfl, hb2⟩
    have HB2 : Hid (Below w.heap.size w w2) := HB1.out.trans (hb2.mono HB1.out.size)
    clear hb2
    go_wp2_with fail
    go_ret
    exact ⟨ret_bool HF.out.symm, HB2.out⟩
  have HRo : Hid (Gate.ruleOk r = true) := hro
  have HV : Hid (Gate.verbsOk r.vs = true) := Gate.ruleOk_verbs hro
  clear hro
  by_cases hrs : Gate.rulesOk rs = true
  rotate_left
  · have HRs : Hid (Gate.rulesOk rs = false) := by simpa [Hid] using hrs
    have HF : Hid (Gate.covers ts rs r = false) := Gate.covers_no (by unfold Gate.allOk; rw [HRs.out]; simp)
    clear hrs
    unfold Rl.cells
    go_enter Tryd.func5, Tryd.ntmps5
    go_wp2_with fail
    refine (as_bool HK.out (implTeamsOk_any _ _ ts _ (HT.out.mono (HB.out _)))).mono ?_
    rintro e w1 ⟨rfl, hb1⟩
    have HB1 : Hid (Below w.heap.size w w1) := (HB.out _).trans (hb1.mono (by simp))
    have hX1 := box_later (box_new w _ _) (by simp) hb1
    have hz : w.heap.size < w1.heap.size := by have := hb1.size; simp at this; omega
    clear hb1
    go_wp2_with fail
    refine (as_bool HRo.out (isRule_any r _ _ _ HM.out (HI.out.mono HB1.out))).mono ?_
    rintro e w2 ⟨rfl, hb2⟩
    have HB2 : Hid (Below w.heap.size w w2) := HB1.out.trans (hb2.mono HB1.out.size)
    clear hb2
    go_wp2_with fail
    refine (as_bool HRs.out (areRules_any _ _ rs _ (HR.out.mono HB2.out))).mono ?_
    rintro e w3 ⟨rfl, hb3⟩
    have HB3 : Hid (Below w.heap.size w w3) := HB2.out.trans (hb3.mono HB2.out.size)
    clear hb3
    go_wp2_with fail
    go_ret
    exact ⟨ret_bool HF.out.symm, HB3.out⟩
  have HRs : Hid (Gate.rulesOk rs = true) := hrs
  have HF : Hid (Gate.covers ts rs r = (Gate.leftBits ts rs r == 0)) := by unfold Hid Gate.covers Gate.allOk; rw [HK.out, HRo.out, HRs.out]; rfl
  clear hrs
  unfold Rl.cells
  go_enter Tryd.func5, Tryd.ntmps5
  go_wp2_with fail
  refine (as_bool HK.out (implTeamsOk_any _ _ ts _ (HT.out.mono (HB.out _)))).mono ?_
  rintro e w1 ⟨rfl, hb1⟩
  have HB1 : Hid (Below w.heap.size w w1) := (HB.out _).trans (hb1.mono (by simp))
  have hX1 := box_later (box_new w _ _) (by simp) hb1
  have hz : w.heap.size < w1.heap.size := by have := hb1.size; simp at this; omega
  clear hb1
  go_wp2_with fail
  refine (as_bool HRo.out (isRule_any r _ _ _ HM.out (HI.out.mono HB1.out))).mono ?_
  rintro e w2 ⟨rfl, hb2⟩
  have HB2 : Hid (Below w.heap.size w w2) := HB1.out.trans (hb2.mono HB1.out.size)
  have hX2 := box_later hX1 hz hb2
  have hz2 := Nat.lt_of_lt_of_le hz hb2.size
  clear hb2 hX1 hz
  go_wp2_with fail
  refine (as_bool HRs.out (areRules_any _ _ rs _ (HR.out.mono HB2.out))).mono ?_
  rintro e w3 ⟨rfl, hb3⟩
  have HB3 : Hid (Below w.heap.size w w3) := HB2.out.trans (hb3.mono HB2.out.size)
  have hX3 := box_later hX2 hz2 hb3
  have hz3 := Nat.lt_of_lt_of_le hz2 hb3.size
  clear hb3 hX2 hz2
  go_wp2_with fail
  refine (uncovered_any _ _ ts _ _ rs r _ _ _ (HT.out.mono HB3.out) (HR.out.mono HB3.out) HM.out (HI.out.mono HB3.out) HV.out HRs.out).mono ?_
  rintro e w4 ⟨rfl, hb4⟩
  have HB4 : Hid (Below w.heap.size w w4) := HB3.out.trans (hb4.mono HB3.out.size)
  clear hb4
  go_wp2_with fail
  go_ret
  exact ⟨ret_bool HF.out.symm, HB4.out⟩

end Go.Proofs.YtackfmeepggedaaDoor

namespace Go.Proofs.YtackfmeepggedaaDoor
open Go.RowKit

set_option maxHeartbeats 2000000 in
theorem l4AllOk_any (ta : Option Addr) (tcap : Nat) (ts : List Tm) (ra : Option Addr) (rcap : Nat) (rs : List Rl) (r : Rl) (a : Option Addr) (cap : Nat) (w : World) (hw : TmsAt w ta ts) (hr : RlsAt w ra rs) (hm : r.Small) (hi : IntsAt w a r.vs) :
    Calls Tryd.prog 24 #[.slice ta ts.length tcap, .slice ra rs.length rcap, .agg (r.cells a cap)] w fun e w' => e = .returned (.bool (Gate.allOk ts rs r)) ∧ Below w.heap.size w w' := by
  have hl := hr.len
  unfold maxLen at hl
  have HB : Hid (∀ o1, Below w.heap.size w (w.alloc o1)) := fun _ => (Below.refl _ _).alloc (Nat.le_refl _) _
  have HT : Hid (TmsAt w ta ts) := hw
  have HR : Hid (RlsAt w ra rs) := hr
  have HI : Hid (IntsAt w a r.vs) := hi
  have HM : Hid r.Small := hm
  clear hw hr hi hm
  by_cases hok : Gate.teamsOk ts = true
  rotate_left
  · have HK : Hid (Gate.teamsOkS ts = false) := by rw [Hid, ← Gate.teamsOk_same]; simpa using hok
    have HF : Hid (Gate.allOk ts rs r = false) := by unfold Hid Gate.allOk; rw [Gate.teamsOk_same, HK.out]; rfl
    clear hok
    unfold Rl.cells
    go_enter Tryd.func24, Tryd.ntmps24
    go_wp2_with fail
    refine (as_bool HK.out (specTeamsOk_any _ _ ts _ (HT.out.mono (HB.out _)))).mono ?_
    rintro e w1 ⟨rfl, hb1⟩
    have HB1 : Hid (Below w.heap.size w w1) := (HB.out _).trans (hb1.mono (by simp))
    clear hb1
    go_wp2_with fail
    go_ret
    exact ⟨ret_bool HF.out.symm, HB1.out⟩
  have HK : Hid (Gate.teamsOkS ts = true) := by rw [Hid, ← Gate.teamsOk_same]; exact hok
  have HK' : Hid (Gate.teamsOk ts = true) := hok
  clear hok
  by_cases hro : Gate.ruleOk r = true
  rotate_left
  · have HRo : Hid (Gate.ruleOk r = false) := by simpa [Hid] using hro
    have HF : Hid (Gate.allOk ts rs r = false) := by unfold Hid Gate.allOk; rw [HRo.out]; simp
    clear hro
    unfold Rl.cells
    go_enter Tryd.func24, Tryd.ntmps24
    go_wp2_with fail
    refine (as_bool HK.out (specTeamsOk_any _ _ ts _ (HT.out.mono (HB.out _)))).mono ?_
    rintro e w1 ⟨rfl, hb1⟩
    have HB1 : Hid (Below w.heap.size w w1) := (HB.out _).trans (hb1.mono (by simp))
    have hX1 := box_later (box_new w _ _) (by simp) hb1
    have hz : w.heap.size < w1.heap.size := by have := hb1.size; simp at this; omega
    clear hb1
    go_wp2_with fail
    refine (as_bool HRo.out (l4RuleOk_any r _ _ _ HM.out (HI.out.mono HB1.out))).mono ?_
    rintro e w2 ⟨rfl, hb2⟩
    have HB2 : Hid (Below w.heap.size w w2) := HB1.out.trans (hb2.mono HB1.out.size)
    clear hb2
    go_wp2_with fail
    go_ret
    exact ⟨ret_bool HF.out.symm, HB2.out⟩
  have HRo : Hid (Gate.ruleOk r = true) := hro
  have HF : Hid (Gate.allOk ts rs r = Gate.rulesOk rs) := by unfold Hid Gate.allOk; rw [HK'.out, HRo.out]; rfl
  clear hro
  unfold Rl.cells
  go_enter Tryd.func24, Tryd.ntmps24
  go_wp2_with fail
  refine (as_bool HK.out (specTeamsOk_any _ _ ts _ (HT.out.mono (HB.out _)))).mono ?_
  rintro e w1 ⟨rfl, hb1⟩
  have HB1 : Hid (Below w.heap.size w w1) := (HB.out _).trans (hb1.mono (by simp))
  have hX1 := box_later (box_new w _ _) (by simp) hb1
  have hz : w.heap.size < w1.heap.size := by have := hb1.size; simp at this; omega
  clear hb1
  go_wp2_with fail
  refine (as_bool HRo.out (l4RuleOk_any r _ _ _ HM.out (HI.out.mono HB1.out))).mono ?_
  rintro e w2 ⟨rfl, hb2⟩
  have HB2 : Hid (Below w.heap.size w w2) := HB1.out.trans (hb2.mono HB1.out.size)
  clear hb2 hX1 hz
  go_wp2_with fail
  go_loopw [7] (fun i wr => ∃ k : Nat, k ≤ rs.length ∧ i = .int .i64 k ∧ (rs.take k).all Gate.ruleOk = true ∧ Below w.heap.size w wr) (fun i _ => rs.length - (intOf i).toNat)
  case atStart => exact ⟨0, Nat.zero_le _, rfl, rfl, HB2.out⟩
  case round =>
    obtain ⟨k, hk, rfl, hall, hB⟩ := hrel
    by_cases hlt : k < rs.length
    · obtain ⟨b, off, va, vcap, rfl, hb, hsm, hIk, c0, c1, c2, c3⟩ := HR.out.load hB k hlt
      have hltI : (k : Int) < (rs.length : Int) := by omega
      have hbr : b < wr.heap.size := Nat.lt_of_lt_of_le hb hB.size
      by_cases he : Gate.ruleOk rs[k] = true
      · have HE : Hid (Gate.ruleOk rs[k] = true) := he
        have HS : Hid ((rs.take (k + 1)).all Gate.ruleOk = true) := by rw [Hid, Gate.all_take_snoc _ rs k hlt, hall, he]; rfl
        clear he hall
        go_wp2_with fail
        refine (as_bool HE.out (l4RuleOk_any rs[k] va vcap _ hsm hIk)).mono ?_
        rintro e w3 ⟨rfl, hb3⟩
        have HB3 : Hid (Below w.heap.size w w3) := hB.trans (hb3.mono hB.size)
        clear hb3
        go_wp2_with fail
        exact ⟨⟨k + 1, by omega, by go_num, HS.out, HB3.out⟩, by simp [intOf]; omega⟩
      · have HE : Hid (Gate.ruleOk rs[k] = false) := by simpa [Hid] using he
        have HS : Hid (Gate.rulesOk rs = false) := Gate.all_at_no _ rs k hlt HE.out
        clear he hall
        go_wp2_with fail
        refine (as_bool HE.out (l4RuleOk_any rs[k] va vcap _ hsm hIk)).mono ?_
        rintro e w3 ⟨rfl, hb3⟩
        have HB3 : Hid (Below w.heap.size w w3) := hB.trans (hb3.mono hB.size)
        clear hb3
        go_wp2_with fail
        go_ret
        exact ⟨ret_bool (HF.out.trans HS.out).symm, HB3.out⟩
    · have HS : Hid (Gate.rulesOk rs = true) := by rw [Hid, Gate.rulesOk, ← hall, List.take_of_length_le (by omega)]
      have hltI : ¬ (k : Int) < (rs.length : Int) := by omega
      clear hall
      go_wp2_with fail
      go_ret
      exact ⟨ret_bool (HF.out.trans HS.out).symm, hB⟩

end Go.Proofs.YtackfmeepggedaaDoor
