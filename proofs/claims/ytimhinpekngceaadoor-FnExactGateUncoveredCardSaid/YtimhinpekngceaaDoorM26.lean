import Derived.Test.YtimhinpekngceaaDoorM17
import Derived.Test.YtimhinpekngceaaDoorM18
import Derived.Test.YtimhinpekngceaaDoorM23
import Derived.Test.YtimhinpekngceaaDoorM25
namespace Go.Proofs.YtimhinpekngceaaDoor
open Go.RowKit

set_option maxHeartbeats 2000000 in
theorem l4AllOk_any (ta : Option Addr) (tcap : Nat) (ts : List Tm) (ra : Option Addr) (rcap : Nat) (rs : List Rl) (r : Rl) (a : Option Addr) (cap : Nat) (w : World) (hw : TmsAt w ta ts) (hr : RlsAt w ra rs) (hm : r.Small) (hi : IntsAt w a r.vs) :
    Calls Tryd.prog 25 #[.slice ta ts.length tcap, .slice ra rs.length rcap, .agg (r.cells a cap)] w fun e w' => e = .returned (.bool (Gate.allOk ts rs r)) ∧ Below w.heap.size w w' := by
  have hl := hr.len
  unfold maxLen at hl
  have HB : Hid (∀ o1, Below w.heap.size w (w.alloc o1)) := fun _ => (Below.refl _ _).alloc (Nat.le_refl _) _
  have HT : Hid (TmsAt w ta ts) := hw
  have HR : Hid (RlsAt w ra rs) := hr
  have HI : Hid (IntsAt w a r.vs) := hi
  have HM : Hid r.Small := hm
  clear hw hr hi hm
  by_cases hok : Gate.teamsOk ts = true
  rotate_left
  · have HK : Hid (Gate.teamsOkS ts = false) := by rw [Hid, ← Gate.teamsOk_same]; simpa using hok
    have HF : Hid (Gate.allOk ts rs r = false) := by unfold Hid Gate.allOk; rw [Gate.teamsOk_same, HK.out]; rfl
    clear hok
    unfold Rl.cells
    go_enter Tryd.func25, Tryd.ntmps25
    go_wp2_with fail
    refine (as_bool HK.out (specTeamsOk_any _ _ ts _ (HT.out.mono (HB.out _)))).mono ?_
    rintro e w1 ⟨rfl, hb1⟩
    have HB1 : Hid (Below w.heap.size w w1) := (HB.out _).trans (hb1.mono (by simp))
    clear hb1
    go_wp2_with fail
    go_ret
    exact ⟨ret_bool HF.out.symm, HB1.out⟩
  have HK : Hid (Gate.teamsOkS ts = true) := by rw [Hid, ← Gate.teamsOk_same]; exact hok
  have HK' : Hid (Gate.teamsOk ts = true) := hok
  clear hok
  by_cases hro : Gate.ruleOk r = true
  rotate_left
  · have HRo : Hid (Gate.ruleOk r = false) := by simpa [Hid] using hro
    have HF : Hid (Gate.allOk ts rs r = false) := by unfold Hid Gate.allOk; rw [HRo.out]; simp
    clear hro
    unfold Rl.cells
    go_enter Tryd.func25, Tryd.ntmps25
    go_wp2_with fail
    refine (as_bool HK.out (specTeamsOk_any _ _ ts _ (HT.out.mono (HB.out _)))).mono ?_
    rintro e w1 ⟨rfl, hb1⟩
    have HB1 : Hid (Below w.heap.size w w1) := (HB.out _).trans (hb1.mono (by simp))
    have hX1 := box_later (box_new w _ _) (by simp) hb1
    have hz : w.heap.size < w1.heap.size := by have := hb1.size; simp at this; omega
    clear hb1
    go_wp2_with fail
    refine (as_bool HRo.out (l4RuleOk_any r _ _ _ HM.out (HI.out.mono HB1.out))).mono ?_
    rintro e w2 ⟨rfl, hb2⟩
    have HB2 : Hid (Below w.heap.size w w2) := HB1.out.trans (hb2.mono HB1.out.size)
    clear hb2
    go_wp2_with fail
    go_ret
    exact ⟨ret_bool HF.out.symm, HB2.out⟩
  have HRo : Hid (Gate.ruleOk r = true) := hro
  have HF : Hid (Gate.allOk ts rs r = Gate.rulesOk rs) := by unfold Hid Gate.allOk; rw [HK'.out, HRo.out]; rfl
  clear hro
  unfold Rl.cells
  go_enter Tryd.func25, Tryd.ntmps25
  go_wp2_with fail
  refine (as_bool HK.out (specTeamsOk_any _ _ ts _ (HT.out.mono (HB.out _)))).mono ?_
  rintro e w1 ⟨rfl, hb1⟩
  have HB1 : Hid (Below w.heap.size w w1) := (HB.out _).trans (hb1.mono (by simp))
  have hX1 := box_later (box_new w _ _) (by simp) hb1
  have hz : w.heap.size < w1.heap.size := by have := hb1.size; simp at this; omega
  clear hb1
  go_wp2_with fail
  refine (as_bool HRo.out (l4RuleOk_any r _ _ _ HM.out (HI.out.mono HB1.out))).mono ?_
  rintro e w2 ⟨rfl, hb2⟩
  have HB2 : Hid (Below w.heap.size w w2) := HB1.out.trans (hb2.mono HB1.out.size)
  clear hb2 hX1 hz
  go_wp2_with fail
  go_loopw [7] (fun i wr => ∃ k : Nat, k ≤ rs.length ∧ i = .int .i64 k ∧ (rs.take k).all Gate.ruleOk = true ∧ Below w.heap.size w wr) (fun i _ => rs.length - (intOf i).toNat)
  case atStart => exact ⟨0, Nat.zero_le _, rfl, rfl, HB2.out⟩
  case round =>
    obtain ⟨k, hk, rfl, hall, hB⟩ := hrel
    by_cases hlt : k < rs.length
    · obtain ⟨b, off, va, vcap, rfl, hb, hsm, hIk, c0, c1, c2, c3⟩ := HR.out.load hB k hlt
      have hltI : (k : Int) < (rs.length : Int) := by omega
      have hbr : b < wr.heap.size := Nat.lt_of_lt_of_le hb hB.size
      by_cases he : Gate.ruleOk rs[k] = true
      · have HE : Hid (Gate.ruleOk rs[k] = true) := he
        have HS : Hid ((rs.take (k + 1)).all Gate.ruleOk = true) := by rw [Hid, Gate.all_take_snoc _ rs k hlt, hall, he]; rfl
        clear he hall
        go_wp2_with fail
        refine (as_bool HE.out (l4RuleOk_any rs[k] va vcap _ hsm hIk)).mono ?_
        rintro e w3 ⟨rfl, hb3⟩
        have HB3 : Hid (Below w.heap.size w w3) := hB.trans (hb3.mono hB.size)
        clear hb3
        go_wp2_with fail
        exact ⟨⟨k + 1, by omega, by go_num, HS.out, HB3.out⟩, by simp [intOf]; omega⟩
      · have HE : Hid (Gate.ruleOk rs[k] = false) := by simpa [Hid] using he
        have HS : Hid (Gate.rulesOk rs = false) := Gate.all_at_no _ rs k hlt HE.out
        clear he hall
        go_wp2_with fail
        refine (as_bool HE.out (l4RuleOk_any rs[k] va vcap _ hsm hIk)).mono ?_
        rintro e w3 ⟨rfl, hb3⟩
        have HB3 : Hid (Below w.heap.size w w3) := hB.trans (hb3.mono hB.size)
        clear hb3
        go_wp2_with fail
        go_ret
        exact ⟨ret_bool (HF.out.trans HS.out).symm, HB3.out⟩
    · have HS : Hid (Gate.rulesOk rs = true) := by rw [Hid, Gate.rulesOk, ← hall, List.take_of_length_le (by omega)]
      have hltI : ¬ (k : Int) < (rs.length : Int) := by omega
      clear hall
      go_wp2_with fail
      go_ret
      exact ⟨ret_bool (HF.out.trans HS.out).symm, hB⟩

end Go.Proofs.YtimhinpekngceaaDoor

namespace Go.Proofs.YtimhinpekngceaaDoor
open Go.RowKit

set_option maxHeartbeats 2000000 in
theorem specUncovered_bad (ta : Option Addr) (tcap : Nat) (ts : List Tm) (ra : Option Addr) (rcap : Nat) (rs : List Rl) (r : Rl) (a : Option Addr) (cap : Nat) (w : World) (hw : TmsAt w ta ts) (hr : RlsAt w ra rs) (hm : r.Small) (hi : IntsAt w a r.vs) (hno : Gate.allOk ts rs r = false) :
    Calls Tryd.prog 8 #[.slice ta ts.length tcap, .slice ra rs.length rcap, .agg (r.cells a cap)] w fun e w' => e = .returned (.tuple #[.agg Gate.noAct.cells, .bool false]) ∧ Below w.heap.size w w' := by
  have HB : Hid (∀ o1 o2, Below w.heap.size w ((w.alloc o1).alloc o2)) := fun _ _ => ((Below.refl _ _).alloc (Nat.le_refl _) _).alloc (by simp) _
  have HT : Hid (TmsAt w ta ts) := hw
  have HR : Hid (RlsAt w ra rs) := hr
  have HI : Hid (IntsAt w a r.vs) := hi
  have HM : Hid r.Small := hm
  have HK : Hid (Gate.allOk ts rs r = false) := hno
  clear hw hr hi hm hno
  unfold Rl.cells
  go_enter Tryd.func8, Tryd.ntmps8
  go_wp2_with fail
  refine (as_bool HK.out (l4AllOk_any _ _ ts _ _ rs r _ _ _ (HT.out.mono (HB.out _ _)) (HR.out.mono (HB.out _ _)) HM.out (HI.out.mono (HB.out _ _)))).mono ?_
  rintro e w1 ⟨rfl, hb1⟩
  have HB1 : Hid (Below w.heap.size w w1) := (HB.out _ _).trans (hb1.mono (by simp; omega))
  have HR1 : Hid (_) := res_later hb1
  have hX1 := box_later (box_new w _ _) (by simp) (((Below.refl _ _).alloc (Nat.le_refl _) _).trans (hb1.mono (by simp)))
  have hz1 : w.heap.size + 1 < w1.heap.size := by have := hb1.size; simp at this; omega
  clear hb1
  have hRc := fun j => cell_of_block (o := j) HR1.out
  have hRf := fun j => frozen_of_block (o := j) HR1.out
  clear hX1 hz1
  go_wp2_with fail
  refine bodyPost_ret (v := (.tuple #[.agg Gate.noAct.cells, .bool false])) (by simp [results, Tryd.results8, go_sem, hRc]; rfl) rfl ?_
  exact ⟨rfl, act4_below HB1.out (Nat.le_succ _) _ _ _ _⟩

set_option maxHeartbeats 2000000 in
theorem specUncovered_none (ta : Option Addr) (tcap : Nat) (ts : List Tm) (ra : Option Addr) (rcap : Nat) (rs : List Rl) (r : Rl) (a : Option Addr) (cap : Nat) (w : World) (hw : TmsAt w ta ts) (hr : RlsAt w ra rs) (hm : r.Small) (hi : IntsAt w a r.vs) (hok : Gate.allOk ts rs r = true) (hno : Gate.lacksS ts rs r = 0) :
    Calls Tryd.prog 8 #[.slice ta ts.length tcap, .slice ra rs.length rcap, .agg (r.cells a cap)] w fun e w' => e = .returned (.tuple #[.agg Gate.noAct.cells, .bool false]) ∧ Below w.heap.size w w' := by
  have HB : Hid (∀ o1 o2, Below w.heap.size w ((w.alloc o1).alloc o2)) := fun _ _ => ((Below.refl _ _).alloc (Nat.le_refl _) _).alloc (by simp) _
  have HT : Hid (TmsAt w ta ts) := hw
  have HR : Hid (RlsAt w ra rs) := hr
  have HI : Hid (IntsAt w a r.vs) := hi
  have HM : Hid r.Small := hm
  have HK : Hid (Gate.allOk ts rs r = true) := hok
  have HL : Hid (Gate.lacksS ts rs r = 0) := hno
  clear hw hr hi hm hno hok
  unfold Rl.cells
  go_enter Tryd.func8, Tryd.ntmps8
  go_wp2_with fail
  refine (as_bool HK.out (l4AllOk_any _ _ ts _ _ rs r _ _ _ (HT.out.mono (HB.out _ _)) (HR.out.mono (HB.out _ _)) HM.out (HI.out.mono (HB.out _ _)))).mono ?_
  rintro e w1 ⟨rfl, hb1⟩
  have HB1 : Hid (Below w.heap.size w w1) := (HB.out _ _).trans (hb1.mono (by simp; omega))
  have HR1 : Hid (_) := res_later hb1
  have hX1 := box_later (box_new w _ _) (by simp) (((Below.refl _ _).alloc (Nat.le_refl _) _).trans (hb1.mono (by simp)))
  have hz1 : w.heap.size + 1 < w1.heap.size := by have := hb1.size; simp at this; omega
  clear hb1
  go_wp2_with fail
  refine (l4Lacks_any _ _ ts _ _ rs r _ _ _ (HT.out.mono HB1.out) (HR.out.mono HB1.out) HM.out (HI.out.mono HB1.out)).mono ?_
  rintro e w2 ⟨rfl, hb2⟩
  have HB2 : Hid (Below w.heap.size w w2) := HB1.out.trans (hb2.mono HB1.out.size)
  have HR2 : Hid (_) := (hb2.block _ hz1).trans HR1.out
  have hX2 := box_later hX1 (Nat.lt_of_succ_lt hz1) hb2
  have hz2 := Nat.lt_of_lt_of_le hz1 hb2.size
  clear hb2 hX1 hz1 HR1
  rw [HL.out]
  have hRc := fun j => cell_of_block (o := j) HR2.out
  have hRf := fun j => frozen_of_block (o := j) HR2.out
  clear hX2 hz2
  go_wp2_with fail
  refine bodyPost_ret (v := (.tuple #[.agg Gate.noAct.cells, .bool false])) (by simp [results, Tryd.results8, go_sem, hRc]; rfl) rfl ?_
  exact ⟨rfl, act4_below HB2.out (Nat.le_succ _) _ _ _ _⟩

end Go.Proofs.YtimhinpekngceaaDoor
