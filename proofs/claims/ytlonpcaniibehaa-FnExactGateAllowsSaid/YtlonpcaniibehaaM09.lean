import Derived.Test.YtlonpcaniibehaaM07
import Derived.Test.YtlonpcaniibehaaM08
import Derived.Deep.RegionHeld3
namespace Go.Proofs.Ytlonpcaniibehaa
open Go.RowKit

theorem Gate.allows_bits {ts : List Tm} {r : Rl} {x : Ac} (hv : Gate.verbsOk r.vs = true) : (Gate.verbOk x.vb && (Gate.meets ts r x.kd x.tm x.nm && Gate.hasVerb r.vs x.vb)) = Gate.allowsOf ts r x := by
  unfold Gate.allowsOf
  cases hh : Gate.hasVerb r.vs x.vb
  · simp
  · have h5 := Gate.hasVerb_given hv _ hh
    have : Gate.verbOk x.vb = true := by simpa [Gate.verbOk] using h5
    rw [this]; simp

theorem Gate.ruleOk_verbs {r : Rl} (h : Gate.ruleOk r = true) : Gate.verbsOk r.vs = true := by
  unfold Gate.ruleOk at h; simp only [Bool.and_eq_true] at h; exact h.2.1

set_option maxHeartbeats 4000000 in
theorem implAllows_any (ta : Option Addr) (tcap : Nat) (ts : List Tm) (r : Rl) (a : Option Addr) (cap : Nat) (x : Ac) (w : World) (hw : TmsAt w ta ts) (hm : r.Small) (hi : IntsAt w a r.vs) (hx : x.Small) :
    Calls Try.prog 19 #[.slice ta ts.length tcap, .agg (r.cells a cap), .agg x.cells] w fun e w' => e = .returned (.bool (Gate.allows ts r x)) ∧ Below w.heap.size w w' := by
  have HB : Hid (∀ o1 o2, Below w.heap.size w ((w.alloc o1).alloc o2)) := fun _ _ => below2' _ _ _
  have HT : Hid (TmsAt w ta ts) := hw
  have HI : Hid (IntsAt w a r.vs) := hi
  have HM : Hid (r.Small ∧ x.Small) := ⟨hm, hx⟩
  clear hw hi hm hx
  by_cases hok : Gate.teamsOk ts = true
  rotate_left
  · have HK : Hid (Gate.teamsOk ts = false) := by simpa [Hid] using hok
    have HF : Hid (Gate.allows ts r x = false) := by unfold Hid Gate.allows; rw [HK.out]; rfl
    clear hok
    unfold Rl.cells Ac.cells
    go_enter Try.func19, Try.ntmps19
    go_wp2_with fail
    refine (as_bool HK.out (implTeamsOk_any _ _ ts _ (HT.out.mono (HB.out _ _)))).mono ?_
    rintro e w1 ⟨rfl, hb1⟩
    have HB1 : Hid (Below w.heap.size w w1) := (HB.out _ _).trans (hb1.mono (by simp; omega))
    clear hb1
    go_wp2_with fail
    go_ret
    exact ⟨ret_bool HF.out.symm, HB1.out⟩
  have HK : Hid (Gate.teamsOk ts = true) := hok
  clear hok
  by_cases hr : Gate.ruleOk r = true
  rotate_left
  · have HR : Hid (Gate.ruleOk r = false) := by simpa [Hid] using hr
    have HF : Hid (Gate.allows ts r x = false) := by unfold Hid Gate.allows; rw [HR.out]; simp
    clear hr
    unfold Rl.cells Ac.cells
    go_enter Try.func19, Try.ntmps19
    go_wp2_with fail
    refine (as_bool HK.out (implTeamsOk_any _ _ ts _ (HT.out.mono (HB.out _ _)))).mono ?_
    rintro e w1 ⟨rfl, hb1⟩
    have HB1 : Hid (Below w.heap.size w w1) := (HB.out _ _).trans (hb1.mono (by simp; omega))
    have hX1 := box_later (box_later (box_new w _ _) (by simp) ((Below.refl _ _).alloc (Nat.le_refl _) _)) (by simp; omega) hb1
    have hz : w.heap.size + 1 < w1.heap.size := by have := hb1.size; simp at this; omega
    clear hb1
    go_wp2_with fail
    refine (as_bool HR.out (isRule_any r _ _ _ HM.out.1 (HI.out.mono HB1.out))).mono ?_
    rintro e w2 ⟨rfl, hb2⟩
    have HB2 : Hid (Below w.heap.size w w2) := HB1.out.trans (hb2.mono HB1.out.size)
    clear hb2
    go_wp2_with fail
    go_ret
    exact ⟨ret_bool HF.out.symm, HB2.out⟩
  have HR : Hid (Gate.ruleOk r = true) := hr
  have HF : Hid (Gate.allows ts r x = Gate.allowsOf ts r x) := by unfold Hid Gate.allows; rw [HR.out, HK.out]; rfl
  have HV : Hid (Gate.verbsOk r.vs = true) := Gate.ruleOk_verbs hr
  clear hr
  unfold Rl.cells Ac.cells
  go_enter Try.func19, Try.ntmps19
  go_wp2_with fail
  refine (as_bool HK.out (implTeamsOk_any _ _ ts _ (HT.out.mono (HB.out _ _)))).mono ?_
  rintro e w1 ⟨rfl, hb1⟩
  have HB1 : Hid (Below w.heap.size w w1) := (HB.out _ _).trans (hb1.mono (by simp; omega))
  have hX1 := box_later (box_later (box_new w _ _) (by simp) ((Below.refl _ _).alloc (Nat.le_refl _) _)) (by simp; omega) hb1
  have hY1 := box_later (box_new2 w _ _ _) (by simp) hb1
  have hz : w.heap.size + 1 < w1.heap.size := by have := hb1.size; simp at this; omega
  clear hb1
  go_wp2_with fail
  refine (as_bool HR.out (isRule_any r _ _ _ HM.out.1 (HI.out.mono HB1.out))).mono ?_
  rintro e w2 ⟨rfl, hb2⟩
  have HB2 : Hid (Below w.heap.size w w2) := HB1.out.trans (hb2.mono HB1.out.size)
  have hX2 := box_later hX1 (by omega) hb2
  have hY2 := box_later hY1 hz hb2
  have hz2 : w.heap.size + 1 < w2.heap.size := by have := hb2.size; omega
  clear hb2 hX1 hY1 hz
  go_wp2_with fail
  have hB := HB2.out.drew
  have hX := box_later hX2 (by omega) (Below.refl w2.heap.size w2).drew
  have hY := box_later hY2 hz2 (Below.refl w2.heap.size w2).drew
  have hz : w.heap.size + 1 < w2.drew.heap.size := hz2
  clear hX2 hY2 hz2
  go_region_held3 (fun w' => (∀ j, w'.cell? ⟨w.heap.size, j, none⟩ = (#[.slice a r.vs.length cap, .string r.kd, .string r.tm, .string r.px] : Array Value)[j]?) ∧ ∀ j, w'.cell? ⟨w.heap.size + 1, j, none⟩ = (#[.int .i64 x.vb, .string x.kd, .string x.tm, .string x.nm] : Array Value)[j]?) (exact ⟨hX, hY⟩) (first
    | (go_at_call 43; refine (rightOf_any _ _ ts r _ _ _ (by exact HI.out.mono hB) HV.out).mono ?_; rintro e w3 ⟨rfl, hb⟩; have hX := box_later hX (Nat.lt_of_succ_lt hz) hb; have hY := box_later hY hz hb; have hB := hB.trans (hb.mono hB.size); have hz := Nat.lt_of_lt_of_le hz hb.size; clear hb)
    | (go_at_call 59; refine (verbsFor_any _ _ ts r _ _ x.kd x.tm x.nm _ (by exact HT.out.mono hB) HM.out.1 HM.out.2.nm).mono ?_; rintro e w4 ⟨rfl, hb⟩; have hX := box_later hX (Nat.lt_of_succ_lt hz) hb; have hY := box_later hY hz hb; have hB := hB.trans (hb.mono hB.size); have hz := Nat.lt_of_lt_of_le hz hb.size; clear hb)
    | (go_at_call 44; refine (has_any _ _ _).mono ?_; rintro e w5 ⟨rfl, rfl⟩))
  go_wp2_with fail
  go_ret
  exact ⟨ret_bool (by rw [HF.out]; exact Gate.allows_bits HV.out), hB⟩

end Go.Proofs.Ytlonpcaniibehaa

namespace Go.Proofs.Ytlonpcaniibehaa
open Go.RowKit

set_option maxHeartbeats 2000000 in
theorem l4Allows_any (ta : Option Addr) (tcap : Nat) (ts : List Tm) (r : Rl) (a : Option Addr) (cap : Nat) (x : Ac) (w : World) (hw : TmsAt w ta ts) (hm : r.Small) (hi : IntsAt w a r.vs) (hx : x.Small) :
    Calls Try.prog 40 #[.slice ta ts.length tcap, .agg (r.cells a cap), .agg x.cells] w fun e w' => e = .returned (.bool (Gate.allowsOf ts r x)) ∧ Below w.heap.size w w' := by
  have hpx := hm.px
  have hnm := hx.nm
  have HB : Hid (∀ o1 o2, Below w.heap.size w ((w.alloc o1).alloc o2)) := fun _ _ => below2' _ _ _
  have HT : Hid (TmsAt w ta ts) := hw
  have HI : Hid (IntsAt w a r.vs) := hi
  clear hw hi hm hx
  have hkc : (r.kd.toList.isEmpty = true) ∨ (r.kd.toList.isEmpty = false ∧ (r.kd.toList == x.kd.toList) = true) ∨ (r.kd.toList.isEmpty = false ∧ (r.kd.toList == x.kd.toList) = false) := by
    cases r.kd.toList.isEmpty <;> cases (r.kd.toList == x.kd.toList) <;> simp
  have htc : (r.tm.toList.isEmpty = true) ∨ (r.tm.toList.isEmpty = false ∧ Hid (Gate.under ts 4 x.tm r.tm = true)) ∨ (r.tm.toList.isEmpty = false ∧ Hid (Gate.under ts 4 x.tm r.tm = false)) := by
    unfold Hid
    cases r.tm.toList.isEmpty <;> cases Gate.under ts 4 x.tm r.tm <;> simp
  have HM : Hid (Gate.allowsOf ts r x = (Gate.hasVerb r.vs x.vb && ((r.kd.toList.isEmpty || (r.kd.toList == x.kd.toList)) && ((r.tm.toList.isEmpty || Gate.under ts 4 x.tm r.tm) && Gate.begins x.nm r.px)))) := by
    unfold Hid Gate.allowsOf Gate.meets; rw [Gate.beq_toList]
  by_cases hv : Gate.hasVerb r.vs x.vb = true
  rotate_left
  · have HV : Hid (Gate.hasVerb r.vs x.vb = false) := by simpa [Hid] using hv
    have HF : Hid (Gate.allowsOf ts r x = false) := by rw [Hid, HM.out, HV.out]; rfl
    clear hv
    unfold Rl.cells Ac.cells
    go_enter Try.func40, Try.ntmps40
    go_wp2_with fail
    refine (as_bool HV.out (l4Verb_any r _ _ _ _ (HI.out.mono (HB.out _ _)))).mono ?_
    rintro e w1 ⟨rfl, hb1⟩
    have HB1 : Hid (Below w.heap.size w w1) := (HB.out _ _).trans (hb1.mono (by simp; omega))
    clear hb1
    go_wp2_with fail
    go_ret
    exact ⟨ret_bool HF.out.symm, HB1.out⟩
  have HV : Hid (Gate.hasVerb r.vs x.vb = true) := hv
  clear hv
  rcases hkc with hk | ⟨hk, hke⟩ | ⟨hk, hke⟩
  · rcases htc with ht | ⟨ht, HU⟩ | ⟨ht, HU⟩
    · have HF : Hid (Gate.allowsOf ts r x = Gate.begins x.nm r.px) := by rw [Hid, HM.out, HV.out, hk, ht]; simp
      unfold Rl.cells Ac.cells
      go_enter Try.func40, Try.ntmps40
      go_wp2_with fail
      refine (as_bool HV.out (l4Verb_any r _ _ _ _ (HI.out.mono (HB.out _ _)))).mono ?_
      rintro e w1 ⟨rfl, hb1⟩
      have HB1 : Hid (Below w.heap.size w w1) := (HB.out _ _).trans (hb1.mono (by simp; omega))
      have hX1 := box_later (box_later (box_new w _ _) (by simp) ((Below.refl _ _).alloc (Nat.le_refl _) _)) (by simp; omega) hb1
      have hY1 := box_later (box_new2 w _ _ _) (by simp) hb1
      have hz : w.heap.size + 1 < w1.heap.size := by have := hb1.size; simp at this; omega
      clear hb1
      go_wp2_with (go_at_call 56; refine (l4Begins_any x.nm r.px _ hnm hpx).mono ?_; rintro e w' ⟨rfl, rfl⟩)
      go_ret
      exact ⟨ret_bool HF.out.symm, HB1.out⟩
    · have HF : Hid (Gate.allowsOf ts r x = Gate.begins x.nm r.px) := by rw [Hid, HM.out, HV.out, hk, ht, HU.out]; simp
      unfold Rl.cells Ac.cells
      go_enter Try.func40, Try.ntmps40
      go_wp2_with fail
      refine (as_bool HV.out (l4Verb_any r _ _ _ _ (HI.out.mono (HB.out _ _)))).mono ?_
      rintro e w1 ⟨rfl, hb1⟩
      have HB1 : Hid (Below w.heap.size w w1) := (HB.out _ _).trans (hb1.mono (by simp; omega))
      have hX1 := box_later (box_later (box_new w _ _) (by simp) ((Below.refl _ _).alloc (Nat.le_refl _) _)) (by simp; omega) hb1
      have hY1 := box_later (box_new2 w _ _ _) (by simp) hb1
      have hz : w.heap.size + 1 < w1.heap.size := by have := hb1.size; simp at this; omega
      clear hb1
      go_wp2_with (first | (go_at_call 8; refine (as_bool HU.out (specUnder_any _ _ ts x.tm r.tm _ (by exact HT.out.mono HB1.out))).mono ?_; rintro e w' ⟨rfl, rfl⟩) | (go_at_call 56; refine (l4Begins_any x.nm r.px _ hnm hpx).mono ?_; rintro e w' ⟨rfl, rfl⟩))
      go_ret
      exact ⟨ret_bool HF.out.symm, HB1.out⟩
    · have HF : Hid (Gate.allowsOf ts r x = false) := by rw [Hid, HM.out, HV.out, hk, ht, HU.out]; simp
      unfold Rl.cells Ac.cells
      go_enter Try.func40, Try.ntmps40
      go_wp2_with fail
      refine (as_bool HV.out (l4Verb_any r _ _ _ _ (HI.out.mono (HB.out _ _)))).mono ?_
      rintro e w1 ⟨rfl, hb1⟩
      have HB1 : Hid (Below w.heap.size w w1) := (HB.out _ _).trans (hb1.mono (by simp; omega))
      have hX1 := box_later (box_later (box_new w _ _) (by simp) ((Below.refl _ _).alloc (Nat.le_refl _) _)) (by simp; omega) hb1
      have hY1 := box_later (box_new2 w _ _ _) (by simp) hb1
      have hz : w.heap.size + 1 < w1.heap.size := by have := hb1.size; simp at this; omega
      clear hb1
      go_wp2_with (go_at_call 8; refine (as_bool HU.out (specUnder_any _ _ ts x.tm r.tm _ (by exact HT.out.mono HB1.out))).mono ?_; rintro e w' ⟨rfl, rfl⟩)
      go_ret
      exact ⟨ret_bool HF.out.symm, HB1.out⟩
  · rcases htc with ht | ⟨ht, HU⟩ | ⟨ht, HU⟩
    · have HF : Hid (Gate.allowsOf ts r x = Gate.begins x.nm r.px) := by rw [Hid, HM.out, HV.out, hk, hke, ht]; simp
      unfold Rl.cells Ac.cells
      go_enter Try.func40, Try.ntmps40
      go_wp2_with fail
      refine (as_bool HV.out (l4Verb_any r _ _ _ _ (HI.out.mono (HB.out _ _)))).mono ?_
      rintro e w1 ⟨rfl, hb1⟩
      have HB1 : Hid (Below w.heap.size w w1) := (HB.out _ _).trans (hb1.mono (by simp; omega))
      have hX1 := box_later (box_later (box_new w _ _) (by simp) ((Below.refl _ _).alloc (Nat.le_refl _) _)) (by simp; omega) hb1
      have hY1 := box_later (box_new2 w _ _ _) (by simp) hb1
      have hz : w.heap.size + 1 < w1.heap.size := by have := hb1.size; simp at this; omega
      clear hb1
      go_wp2_with (go_at_call 56; refine (l4Begins_any x.nm r.px _ hnm hpx).mono ?_; rintro e w' ⟨rfl, rfl⟩)
      go_ret
      exact ⟨ret_bool HF.out.symm, HB1.out⟩
    · have HF : Hid (Gate.allowsOf ts r x = Gate.begins x.nm r.px) := by rw [Hid, HM.out, HV.out, hk, hke, ht, HU.out]; simp
      unfold Rl.cells Ac.cells
      go_enter Try.func40, Try.ntmps40
      go_wp2_with fail
      refine (as_bool HV.out (l4Verb_any r _ _ _ _ (HI.out.mono (HB.out _ _)))).mono ?_
      rintro e w1 ⟨rfl, hb1⟩
      have HB1 : Hid (Below w.heap.size w w1) := (HB.out _ _).trans (hb1.mono (by simp; omega))
      have hX1 := box_later (box_later (box_new w _ _) (by simp) ((Below.refl _ _).alloc (Nat.le_refl _) _)) (by simp; omega) hb1
      have hY1 := box_later (box_new2 w _ _ _) (by simp) hb1
      have hz : w.heap.size + 1 < w1.heap.size := by have := hb1.size; simp at this; omega
      clear hb1
      go_wp2_with (first | (go_at_call 8; refine (as_bool HU.out (specUnder_any _ _ ts x.tm r.tm _ (by exact HT.out.mono HB1.out))).mono ?_; rintro e w' ⟨rfl, rfl⟩) | (go_at_call 56; refine (l4Begins_any x.nm r.px _ hnm hpx).mono ?_; rintro e w' ⟨rfl, rfl⟩))
      go_ret
      exact ⟨ret_bool HF.out.symm, HB1.out⟩
    · have HF : Hid (Gate.allowsOf ts r x = false) := by rw [Hid, HM.out, HV.out, hk, hke, ht, HU.out]; simp
      unfold Rl.cells Ac.cells
      go_enter Try.func40, Try.ntmps40
      go_wp2_with fail
      refine (as_bool HV.out (l4Verb_any r _ _ _ _ (HI.out.mono (HB.out _ _)))).mono ?_
      rintro e w1 ⟨rfl, hb1⟩
      have HB1 : Hid (Below w.heap.size w w1) := (HB.out _ _).trans (hb1.mono (by simp; omega))
      have hX1 := box_later (box_later (box_new w _ _) (by simp) ((Below.refl _ _).alloc (Nat.le_refl _) _)) (by simp; omega) hb1
      have hY1 := box_later (box_new2 w _ _ _) (by simp) hb1
      have hz : w.heap.size + 1 < w1.heap.size := by have := hb1.size; simp at this; omega
      clear hb1
      go_wp2_with (go_at_call 8; refine (as_bool HU.out (specUnder_any _ _ ts x.tm r.tm _ (by exact HT.out.mono HB1.out))).mono ?_; rintro e w' ⟨rfl, rfl⟩)
      go_ret
      exact ⟨ret_bool HF.out.symm, HB1.out⟩
  · have HF : Hid (Gate.allowsOf ts r x = false) := by rw [Hid, HM.out, hk, hke]; simp
    unfold Rl.cells Ac.cells
    go_enter Try.func40, Try.ntmps40
    go_wp2_with fail
    refine (as_bool HV.out (l4Verb_any r _ _ _ _ (HI.out.mono (HB.out _ _)))).mono ?_
    rintro e w1 ⟨rfl, hb1⟩
    have HB1 : Hid (Below w.heap.size w w1) := (HB.out _ _).trans (hb1.mono (by simp; omega))
    have hX1 := box_later (box_later (box_new w _ _) (by simp) ((Below.refl _ _).alloc (Nat.le_refl _) _)) (by simp; omega) hb1
    have hY1 := box_later (box_new2 w _ _ _) (by simp) hb1
    have hz : w.heap.size + 1 < w1.heap.size := by have := hb1.size; simp at this; omega
    clear hb1
    go_wp2_with fail
    go_ret
    exact ⟨ret_bool HF.out.symm, HB1.out⟩

set_option maxHeartbeats 2000000 in
theorem specAllows_any (ta : Option Addr) (tcap : Nat) (ts : List Tm) (r : Rl) (a : Option Addr) (cap : Nat) (x : Ac) (w : World) (hw : TmsAt w ta ts) (hm : r.Small) (hi : IntsAt w a r.vs) (hx : x.Small) :
    Calls Try.prog 16 #[.slice ta ts.length tcap, .agg (r.cells a cap), .agg x.cells] w fun e w' => e = .returned (.bool (Gate.allows ts r x)) ∧ Below w.heap.size w w' := by
  have HB : Hid (∀ o1 o2, Below w.heap.size w ((w.alloc o1).alloc o2)) := fun _ _ => below2' _ _ _
  have HT : Hid (TmsAt w ta ts) := hw
  have HI : Hid (IntsAt w a r.vs) := hi
  have HM : Hid (r.Small ∧ x.Small) := ⟨hm, hx⟩
  clear hw hi hm hx
  by_cases hok : Gate.teamsOk ts = true
  rotate_left
  · have HK : Hid (Gate.teamsOkS ts = false) := by rw [Hid, ← Gate.teamsOk_same]; simpa using hok
    have HF : Hid (Gate.allows ts r x = false) := by unfold Hid Gate.allows; rw [Gate.teamsOk_same, HK.out]; rfl
    clear hok
    unfold Rl.cells Ac.cells
    go_enter Try.func16, Try.ntmps16
    go_wp2_with fail
    refine (as_bool HK.out (specTeamsOk_any _ _ ts _ (HT.out.mono (HB.out _ _)))).mono ?_
    rintro e w1 ⟨rfl, hb1⟩
    have HB1 : Hid (Below w.heap.size w w1) := (HB.out _ _).trans (hb1.mono (by simp; omega))
    clear hb1
    go_wp2_with fail
    go_ret
    exact ⟨ret_bool HF.out.symm, HB1.out⟩
  have HK : Hid (Gate.teamsOkS ts = true) := by rw [Hid, ← Gate.teamsOk_same]; exact hok
  have HK' : Hid (Gate.teamsOk ts = true) := hok
  clear hok
  by_cases hr : Gate.ruleOk r = true
  rotate_left
  · have HR : Hid (Gate.ruleOk r = false) := by simpa [Hid] using hr
    have HF : Hid (Gate.allows ts r x = false) := by unfold Hid Gate.allows; rw [HR.out]; simp
    clear hr
    unfold Rl.cells Ac.cells
    go_enter Try.func16, Try.ntmps16
    go_wp2_with fail
    refine (as_bool HK.out (specTeamsOk_any _ _ ts _ (HT.out.mono (HB.out _ _)))).mono ?_
    rintro e w1 ⟨rfl, hb1⟩
    have HB1 : Hid (Below w.heap.size w w1) := (HB.out _ _).trans (hb1.mono (by simp; omega))
    have hX1 := box_later (box_later (box_new w _ _) (by simp) ((Below.refl _ _).alloc (Nat.le_refl _) _)) (by simp; omega) hb1
    have hz : w.heap.size + 1 < w1.heap.size := by have := hb1.size; simp at this; omega
    clear hb1
    go_wp2_with fail
    refine (as_bool HR.out (l4RuleOk_any r _ _ _ HM.out.1 (HI.out.mono HB1.out))).mono ?_
    rintro e w2 ⟨rfl, hb2⟩
    have HB2 : Hid (Below w.heap.size w w2) := HB1.out.trans (hb2.mono HB1.out.size)
    clear hb2
    go_wp2_with fail
    go_ret
    exact ⟨ret_bool HF.out.symm, HB2.out⟩
  have HR : Hid (Gate.ruleOk r = true) := hr
  have HF : Hid (Gate.allows ts r x = Gate.allowsOf ts r x) := by unfold Hid Gate.allows; rw [HR.out, HK'.out]; rfl
  clear hr
  unfold Rl.cells Ac.cells
  go_enter Try.func16, Try.ntmps16
  go_wp2_with fail
  refine (as_bool HK.out (specTeamsOk_any _ _ ts _ (HT.out.mono (HB.out _ _)))).mono ?_
  rintro e w1 ⟨rfl, hb1⟩
  have HB1 : Hid (Below w.heap.size w w1) := (HB.out _ _).trans (hb1.mono (by simp; omega))
  have hX1 := box_later (box_later (box_new w _ _) (by simp) ((Below.refl _ _).alloc (Nat.le_refl _) _)) (by simp; omega) hb1
  have hY1 := box_later (box_new2 w _ _ _) (by simp) hb1
  have hz : w.heap.size + 1 < w1.heap.size := by have := hb1.size; simp at this; omega
  clear hb1
  go_wp2_with fail
  refine (as_bool HR.out (l4RuleOk_any r _ _ _ HM.out.1 (HI.out.mono HB1.out))).mono ?_
  rintro e w2 ⟨rfl, hb2⟩
  have HB2 : Hid (Below w.heap.size w w2) := HB1.out.trans (hb2.mono HB1.out.size)
  have hX2 := box_later hX1 (by omega) hb2
  have hY2 := box_later hY1 hz hb2
  have hz2 : w.heap.size + 1 < w2.heap.size := by have := hb2.size; omega
  clear hb2 hX1 hY1 hz
  go_wp2_with fail
  refine (l4Allows_any _ _ ts r _ _ x _ (HT.out.mono HB2.out) HM.out.1 (HI.out.mono HB2.out) HM.out.2).mono ?_
  rintro e w3 ⟨rfl, hb3⟩
  have HB3 : Hid (Below w.heap.size w w3) := HB2.out.trans (hb3.mono HB2.out.size)
  clear hb3
  go_wp2_with fail
  go_ret
  exact ⟨ret_bool HF.out.symm, HB3.out⟩

end Go.Proofs.Ytlonpcaniibehaa

namespace Go.Proofs.Ytlonpcaniibehaa
open Go.RowKit

set_option maxHeartbeats 8000000 in
theorem lawAllows_any (ta : Option Addr) (tcap : Nat) (ts : List Tm) (r : Rl) (a : Option Addr) (cap : Nat) (x : Ac) (w : World) (hw : TmsAt w ta ts) (hm : r.Small) (hi : IntsAt w a r.vs) (hx : x.Small) :
    Calls Try.prog 5 #[.slice ta ts.length tcap, .agg (r.cells a cap), .agg x.cells] w fun e w' => e = .returned (.bool true) ∧ Below w.heap.size w w' := by
  have HT : Hid (TmsAt w ta ts) := hw
  have HI : Hid (IntsAt w a r.vs) := hi
  have HM : Hid (r.Small ∧ x.Small) := ⟨hm, hx⟩
  have HTS : Hid ((∀ i (h : i < ts.length), ts[i].Small) ∧ ts.length ≤ maxLen) := ⟨hw.small, hw.len⟩
  clear hw hi hm hx
  unfold Rl.cells Ac.cells
  go_enter Try.func5, Try.ntmps5
  go_wp2_with fail
  have hB0 := below2' w (.cells #[.slice a r.vs.length cap, .string r.kd, .string r.tm, .string r.px] 33) (.cells #[.int .i64 x.vb, .string x.kd, .string x.tm, .string x.nm] 35)
  have hX0 := box_later (box_new w #[.slice a r.vs.length cap, .string r.kd, .string r.tm, .string r.px] 33) (by simp) ((Below.refl _ _).alloc (Nat.le_refl _) (.cells #[.int .i64 x.vb, .string x.kd, .string x.tm, .string x.nm] 35))
  have hY0 := box_new2 w (.cells #[.slice a r.vs.length cap, .string r.kd, .string r.tm, .string r.px] 33) #[.int .i64 x.vb, .string x.kd, .string x.tm, .string x.nm] 35
  obtain ⟨W0, hW0⟩ : ∃ W0, W0 = (w.alloc (.cells #[.slice a r.vs.length cap, .string r.kd, .string r.tm, .string r.px] 33)).alloc (.cells #[.int .i64 x.vb, .string x.kd, .string x.tm, .string x.nm] 35) := ⟨_, rfl⟩
  have hz0 : w.heap.size + 1 < W0.heap.size := by rw [hW0]; simp
  rw [← hW0] at hB0 hX0 hY0 ⊢
  clear hW0
  refine (szGateTeamS_any _ _ ts _ _ (HT.out.mono hB0) (by omega) (by omega)).mono ?_
  rintro e w1 ⟨rfl, hb1⟩
  have hB1 := hB0.trans (hb1.mono hB0.size)
  have hX1 := box_later hX0 (Nat.lt_of_succ_lt hz0) hb1
  have hY1 := box_later hY0 hz0 hb1
  have hz1 := Nat.lt_of_lt_of_le hz0 hb1.size
  clear hb1 hB0 hX0 hY0 hz0
  by_cases hsz : (tmsSz ts : Int) ≤ 1048576
  rotate_left
  · rw [szRes_no (by omega)]
    go_wp2_with fail
    go_ret
    exact ⟨rfl, hB1⟩
  have HLT : Hid (ts.length ≤ 1048576) := by unfold tmsSz at hsz; show _ ≤ _; omega
  have hneg : decide (1048576 - (tmsSz ts : Int) < 0) = false := by simp; omega
  rw [szRes_yes hsz]
  go_wp2_with fail
  refine (szGateRule_any r _ _ _ _ HM.out.1 HI.out.len (by omega) (by omega)).mono ?_
  rintro e w2 ⟨rfl, hb1⟩
  have hB2 := hB1.trans (hb1.mono hB1.size)
  have hX2 := box_later hX1 (Nat.lt_of_succ_lt hz1) hb1
  have hY2 := box_later hY1 hz1 hb1
  have hz2 := Nat.lt_of_lt_of_le hz1 hb1.size
  clear hb1 hB1 hX1 hY1 hz1
  by_cases hsr : (r.sz : Int) ≤ 1048576 - (tmsSz ts : Int)
  rotate_left
  · rw [szRes_no (by omega)]
    go_wp2_with fail
    go_ret
    exact ⟨rfl, hB2⟩
  have HLR : Hid (r.vs.length ≤ 1048576) := by unfold Rl.sz at hsr; show _ ≤ _; omega
  have hneg2 : decide (1048576 - (tmsSz ts : Int) - (r.sz : Int) < 0) = false := by simp; omega
  rw [szRes_yes hsr]
  go_wp2_with fail
  refine (szGateAct_any x _ _ HM.out.2 (by omega) (by omega)).mono ?_
  rintro e w3 ⟨rfl, hb1⟩
  have hB3 := hB2.trans (hb1.mono hB2.size)
  have hX3 := box_later hX2 (Nat.lt_of_succ_lt hz2) hb1
  have hY3 := box_later hY2 hz2 hb1
  have hz3 := Nat.lt_of_lt_of_le hz2 hb1.size
  clear hb1 hB2 hX2 hY2 hz2
  by_cases hsx : (x.sz : Int) ≤ 1048576 - (tmsSz ts : Int) - (r.sz : Int)
  rotate_left
  · rw [szRes_no (by omega)]
    go_wp2_with fail
    go_ret
    exact ⟨rfl, hB3⟩
  have hneg3 : decide (1048576 - (tmsSz ts : Int) - (r.sz : Int) - (x.sz : Int) < 0) = false := by simp; omega
  rw [szRes_yes hsx]
  go_wp2_with fail
  have hB := hB3.drew
  have hX := box_later hX3 (Nat.lt_of_succ_lt hz3) (Below.refl w3.heap.size w3).drew
  have hY := box_later hY3 hz3 (Below.refl w3.heap.size w3).drew
  have hz : w.heap.size + 1 < w3.drew.heap.size := hz3
  clear hB3 hX3 hY3 hz3
  go_region_held3 (fun w' => (∀ j, w'.cell? ⟨w.heap.size, j, none⟩ = (#[.slice a r.vs.length cap, .string r.kd, .string r.tm, .string r.px] : Array Value)[j]?) ∧ ∀ j, w'.cell? ⟨w.heap.size + 1, j, none⟩ = (#[.int .i64 x.vb, .string x.kd, .string x.tm, .string x.nm] : Array Value)[j]?) (exact ⟨hX, hY⟩) (first
    | (go_at_call 9; refine (toGateTeamS_any _ _ ts _ (by exact HT.out.mono hB) HLT.out).mono ?_; rintro e w4 ⟨rfl, hown, hb⟩; have ht := hown.at HTS.out.1 HTS.out.2; clear hown; have hX := box_later hX (Nat.lt_of_succ_lt hz) hb; have hY := box_later hY hz hb; have hB := hB.trans (hb.mono hB.size); have hz := Nat.lt_of_lt_of_le hz hb.size; clear hb)
    | (go_at_call 17; refine (toGateRule_any r _ _ _ (by exact HI.out.mono hB) HLR.out).mono ?_; rintro e w4 ⟨bk, rfl, hlo, hhi, hbk, hb⟩; have hr := heap_ints hbk HI.out.len; clear hlo hhi hbk; have ht := ht.mono hb; have hX := box_later hX (Nat.lt_of_succ_lt hz) hb; have hY := box_later hY hz hb; have hB := hB.trans (hb.mono hB.size); have hz := Nat.lt_of_lt_of_le hz hb.size; clear hb)
    | (go_at_call 18; refine (toGateAct_any x _).mono ?_; rintro e w4 ⟨rfl, hb⟩; have ht := ht.mono hb; have hr := hr.mono hb; have hX := box_later hX (Nat.lt_of_succ_lt hz) hb; have hY := box_later hY hz hb; have hB := hB.trans (hb.mono hB.size); have hz := Nat.lt_of_lt_of_le hz hb.size; clear hb)
    | (go_at_call 16; refine (specAllows_any _ _ ts r _ _ x _ (by exact ht) HM.out.1 (by exact hr) HM.out.2).mono ?_; rintro e w4 ⟨rfl, hb⟩; clear ht hr; have hX := box_later hX (Nat.lt_of_succ_lt hz) hb; have hY := box_later hY hz hb; have hB := hB.trans (hb.mono hB.size); have hz := Nat.lt_of_lt_of_le hz hb.size; clear hb))
  go_wp2_with fail
  refine (toGateTeamS_any _ _ ts _ (HT.out.mono hB) HLT.out).mono ?_
  rintro e w5 ⟨rfl, hown, hb⟩
  have ht5 := hown.at HTS.out.1 HTS.out.2
  have hX5 := box_later hX (Nat.lt_of_succ_lt hz) hb
  have hY5 := box_later hY hz hb
  have hz5 := Nat.lt_of_lt_of_le hz hb.size
  have hB5 := hB.trans (hb.mono hB.size)
  clear hown hb hX hY hz hB
  go_wp2_with fail
  refine (toGateRule_any r _ _ _ (HI.out.mono hB5) HLR.out).mono ?_
  rintro e w6 ⟨bk, rfl, hlo, hhi, hbk, hb⟩
  have hr6 := heap_ints hbk HI.out.len
  have ht6 := ht5.mono hb
  have hX6 := box_later hX5 (Nat.lt_of_succ_lt hz5) hb
  have hY6 := box_later hY5 hz5 hb
  have hz6 := Nat.lt_of_lt_of_le hz5 hb.size
  have hB6 := hB5.trans (hb.mono hB5.size)
  clear hlo hhi hbk hb hX5 hY5 hz5 hB5 ht5
  unfold Rl.cells
  go_wp2_with fail
  have hb7 : Below w6.heap.size w6 (w6.alloc (.cells #[.slice (some ⟨bk, 0, none⟩) r.vs.length r.vs.length, .string r.kd, .string r.tm, .string r.px] 39)) := (Below.refl _ _).alloc (Nat.le_refl _) _
  have hV0 := box_new w6 #[.slice (some ⟨bk, 0, none⟩) r.vs.length r.vs.length, .string r.kd, .string r.tm, .string r.px] 39
  obtain ⟨w7, hw7⟩ : ∃ w7, w7 = w6.alloc (.cells #[.slice (some ⟨bk, 0, none⟩) r.vs.length r.vs.length, .string r.kd, .string r.tm, .string r.px] 39) := ⟨_, rfl⟩
  have hv0 : w6.heap.size < w7.heap.size := by rw [hw7]; simp
  rw [← hw7] at hb7 hV0 ⊢
  clear hw7
  have hr := (hr6.mono hb7).mono (Below.refl w7.heap.size w7).drew
  have ht := (ht6.mono hb7).mono (Below.refl w7.heap.size w7).drew
  have hX := box_later (box_later hX6 (Nat.lt_of_succ_lt hz6) hb7) (by omega) (Below.refl w7.heap.size w7).drew
  have hY := box_later (box_later hY6 hz6 hb7) (by omega) (Below.refl w7.heap.size w7).drew
  have hV := box_later hV0 hv0 (Below.refl w7.heap.size w7).drew
  have hz : w.heap.size + 1 < w7.drew.heap.size := Nat.lt_of_lt_of_le hz6 hb7.size
  have hv : w6.heap.size < w7.drew.heap.size := hv0
  have hB := (hB6.trans (hb7.mono hB6.size)).drew
  clear hb7 hV0 hv0 hr6 ht6 hX6 hY6 hz6 hB6
  go_region_held3 (fun w' => (∀ j, w'.cell? ⟨w.heap.size, j, none⟩ = (#[.slice a r.vs.length cap, .string r.kd, .string r.tm, .string r.px] : Array Value)[j]?) ∧ (∀ j, w'.cell? ⟨w.heap.size + 1, j, none⟩ = (#[.int .i64 x.vb, .string x.kd, .string x.tm, .string x.nm] : Array Value)[j]?) ∧ ∀ j, w'.cell? ⟨w6.heap.size, j, none⟩ = (#[.slice (some ⟨bk, 0, none⟩) r.vs.length r.vs.length, .string r.kd, .string r.tm, .string r.px] : Array Value)[j]?) (exact ⟨hX, hY, hV⟩) (first
    | (go_at_call 18; refine (toGateAct_any x _).mono ?_; rintro e w4 ⟨rfl, hb⟩; have ht := ht.mono hb; have hr := hr.mono hb; have hX := box_later hX (Nat.lt_of_succ_lt hz) hb; have hY := box_later hY hz hb; have hV := box_later hV hv hb; have hB := hB.trans (hb.mono hB.size); have hz := Nat.lt_of_lt_of_le hz hb.size; have hv := Nat.lt_of_lt_of_le hv hb.size; clear hb)
    | (go_at_call 19; refine (implAllows_any _ _ ts r _ _ x _ (by exact ht) HM.out.1 (by exact hr) HM.out.2).mono ?_; rintro e w4 ⟨rfl, hb⟩; have ht := ht.mono hb; have hr := hr.mono hb; have hX := box_later hX (Nat.lt_of_succ_lt hz) hb; have hY := box_later hY hz hb; have hV := box_later hV hv hb; have hB := hB.trans (hb.mono hB.size); have hz := Nat.lt_of_lt_of_le hz hb.size; have hv := Nat.lt_of_lt_of_le hv hb.size; clear hb))
  go_wp2_with fail
  refine (toGateTeamS_any _ _ ts _ (HT.out.mono hB) HLT.out).mono ?_
  rintro e w8 ⟨rfl, hown, hb⟩
  have ht8 := hown.at HTS.out.1 HTS.out.2
  have ht8' := ht.mono hb
  have hr8 := hr.mono hb
  have hX8 := box_later hX (Nat.lt_of_succ_lt hz) hb
  have hV8 := box_later hV hv hb
  have hz8 := Nat.lt_of_lt_of_le hz hb.size
  have hv8 := Nat.lt_of_lt_of_le hv hb.size
  have hB8 := hB.trans (hb.mono hB.size)
  clear hown hb hX hY hV hz hv hB ht hr
  go_wp2_with fail
  refine (eqGateTeamS_yes _ _ _ _ _ _ ht8' ht8).mono ?_
  rintro e w9 ⟨rfl, hb⟩
  have hr9 := hr8.mono hb
  have hX9 := box_later hX8 (Nat.lt_of_succ_lt hz8) hb
  have hV9 := box_later hV8 hv8 hb
  have hz9 := Nat.lt_of_lt_of_le hz8 hb.size
  have hv9 := Nat.lt_of_lt_of_le hv8 hb.size
  have hB9 := hB8.trans (hb.mono hB8.size)
  clear hb hX8 hV8 hz8 hv8 hB8 ht8 ht8' hr8
  go_wp2_with fail
  have hr := hr9.mono (Below.refl w9.heap.size w9).drew
  have hX := box_later hX9 (Nat.lt_of_succ_lt hz9) (Below.refl w9.heap.size w9).drew
  have hV := box_later hV9 hv9 (Below.refl w9.heap.size w9).drew
  have hz : w.heap.size + 1 < w9.drew.heap.size := hz9
  have hv : w6.heap.size < w9.drew.heap.size := hv9
  have hB := hB9.drew
  clear hr9 hX9 hV9 hz9 hv9 hB9
  go_region_held3 (fun w' => (∀ j, w'.cell? ⟨w.heap.size, j, none⟩ = (#[.slice a r.vs.length cap, .string r.kd, .string r.tm, .string r.px] : Array Value)[j]?) ∧ ∀ j, w'.cell? ⟨w6.heap.size, j, none⟩ = (#[.slice (some ⟨bk, 0, none⟩) r.vs.length r.vs.length, .string r.kd, .string r.tm, .string r.px] : Array Value)[j]?) (exact ⟨hX, hV⟩) (first
    | (go_at_call 17; refine (toGateRule_any r _ _ _ (by exact HI.out.mono hB) HLR.out).mono ?_; rintro e w4 ⟨bk2, rfl, hlo, hhi, hbk, hb⟩; have hr2 := heap_ints hbk HI.out.len; clear hlo hhi hbk; have hr := hr.mono hb; have hX := box_later hX (Nat.lt_of_succ_lt hz) hb; have hV := box_later hV hv hb; have hB := hB.trans (hb.mono hB.size); have hz := Nat.lt_of_lt_of_le hz hb.size; have hv := Nat.lt_of_lt_of_le hv hb.size; clear hb)
    | (go_at_call 20; refine (eqGateRule_yes r _ _ _ _ _ (by exact hr) (by exact hr2)).mono ?_; rintro e w4 ⟨rfl, hb⟩; have hX := box_later hX (Nat.lt_of_succ_lt hz) hb; have hV := box_later hV hv hb; have hB := hB.trans (hb.mono hB.size); have hz := Nat.lt_of_lt_of_le hz hb.size; have hv := Nat.lt_of_lt_of_le hv hb.size; clear hb))
  go_wp2_with fail
  go_ret
  exact ⟨rfl, hB⟩

end Go.Proofs.Ytlonpcaniibehaa
