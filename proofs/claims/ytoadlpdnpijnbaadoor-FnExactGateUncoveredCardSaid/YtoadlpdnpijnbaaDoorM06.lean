import Derived.Test.YtoadlpdnpijnbaaDoorM05
import Derived.Deep.RegionHeld3
import Derived.Test.YtoadlpdnpijnbaaDoorM02
namespace Go.Proofs.YtoadlpdnpijnbaaDoor
open Go.RowKit

theorem Gate.allows_bits {ts : List Tm} {r : Rl} {x : Ac} (hv : Gate.verbsOk r.vs = true) : (Gate.verbOk x.vb && (Gate.meets ts r x.kd x.tm x.nm && Gate.hasVerb r.vs x.vb)) = Gate.allowsOf ts r x := by
  unfold Gate.allowsOf
  cases hh : Gate.hasVerb r.vs x.vb
  · simp
  · have h5 := Gate.hasVerb_given hv _ hh
    have : Gate.verbOk x.vb = true := by simpa [Gate.verbOk] using h5
    rw [this]; simp

theorem Gate.ruleOk_verbs {r : Rl} (h : Gate.ruleOk r = true) : Gate.verbsOk r.vs = true := by
  unfold Gate.ruleOk at h; simp only [Bool.and_eq_true] at h; exact h.2.1

set_option maxHeartbeats 4000000 in
theorem implAllows_any (ta : Option Addr) (tcap : Nat) (ts : List Tm) (r : Rl) (a : Option Addr) (cap : Nat) (x : Ac) (w : World) (hw : TmsAt w ta ts) (hm : r.Small) (hi : IntsAt w a r.vs) (hx : x.Small) :
    Calls Tryd.prog 20 #[.slice ta ts.length tcap, .agg (r.cells a cap), .agg x.cells] w fun e w' => e = .returned (.bool (Gate.allows ts r x)) ∧ Below w.heap.size w w' := by
  have HB : Hid (∀ o1 o2, Below w.heap.size w ((w.alloc o1).alloc o2)) := fun _ _ => below2' _ _ _
  have HT : Hid (TmsAt w ta ts) := hw
  have HI : Hid (IntsAt w a r.vs) := hi
  have HM : Hid (r.Small ∧ x.Small) := ⟨hm, hx⟩
  clear hw hi hm hx
  by_cases hok : Gate.teamsOk ts = true
  rotate_left
  · have HK : Hid (Gate.teamsOk ts = false) := by simpa [Hid] using hok
    have HF : Hid (Gate.allows ts r x = false) := by unfold Hid Gate.allows; rw [HK.out]; rfl
    clear hok
    unfold Rl.cells Ac.cells
    go_enter Tryd.func20, Tryd.ntmps20
    go_wp2_with fail
    refine (as_bool HK.out (implTeamsOk_any _ _ ts _ (HT.out.mono (HB.out _ _)))).mono ?_
    rintro e w1 ⟨rfl, hb1⟩
    have HB1 : Hid (Below w.heap.size w w1) := (HB.out _ _).trans (hb1.mono (by simp; omega))
    clear hb1
    go_wp2_with fail
    go_ret
    exact ⟨ret_bool HF.out.symm, HB1.out⟩
  have HK : Hid (Gate.teamsOk ts = true) := hok
  clear hok
  by_cases hr : Gate.ruleOk r = true
  rotate_left
  · have HR : Hid (Gate.ruleOk r = false) := by simpa [Hid] using hr
    have HF : Hid (Gate.allows ts r x = false) := by unfold Hid Gate.allows; rw [HR.out]; simp
    clear hr
    unfold Rl.cells Ac.cells
    go_enter Tryd.func20, Tryd.ntmps20
    go_wp2_with fail
    refine (as_bool HK.out (implTeamsOk_any _ _ ts _ (HT.out.mono (HB.out _ _)))).mono ?_
    rintro e w1 ⟨rfl, hb1⟩
    have HB1 : Hid (Below w.heap.size w w1) := (HB.out _ _).trans (hb1.mono (by simp; omega))
    have hX1 := box_later (box_later (box_new w _ _) (by simp) ((Below.refl _ _).alloc (Nat.le_refl _) _)) (by simp; omega) hb1
    have hz : w.heap.size + 1 < w1.heap.size := by have := hb1.size; simp at this; omega
    clear hb1
    go_wp2_with fail
    refine (as_bool HR.out (isRule_any r _ _ _ HM.out.1 (HI.out.mono HB1.out))).mono ?_
    rintro e w2 ⟨rfl, hb2⟩
    have HB2 : Hid (Below w.heap.size w w2) := HB1.out.trans (hb2.mono HB1.out.size)
    clear hb2
    go_wp2_with fail
    go_ret
    exact ⟨ret_bool HF.out.symm, HB2.out⟩
  have HR : Hid (Gate.ruleOk r = true) := hr
  have HF : Hid (Gate.allows ts r x = Gate.allowsOf ts r x) := by unfold Hid Gate.allows; rw [HR.out, HK.out]; rfl
  have HV : Hid (Gate.verbsOk r.vs = true) := Gate.ruleOk_verbs hr
  clear hr
  unfold Rl.cells Ac.cells
  go_enter Tryd.func20, Tryd.ntmps20
  go_wp2_with fail
  refine (as_bool HK.out (implTeamsOk_any _ _ ts _ (HT.out.mono (HB.out _ _)))).mono ?_
  rintro e w1 ⟨rfl, hb1⟩
  have HB1 : Hid (Below w.heap.size w w1) := (HB.out _ _).trans (hb1.mono (by simp; omega))
  have hX1 := box_later (box_later (box_new w _ _) (by simp) ((Below.refl _ _).alloc (Nat.le_refl _) _)) (by simp; omega) hb1
  have hY1 := box_later (box_new2 w _ _ _) (by simp) hb1
  have hz : w.heap.size + 1 < w1.heap.size := by have := hb1.size; simp at this; omega
  clear hb1
  go_wp2_with fail
  refine (as_bool HR.out (isRule_any r _ _ _ HM.out.1 (HI.out.mono HB1.out))).mono ?_
  rintro e w2 ⟨rfl, hb2⟩
  have HB2 : Hid (Below w.heap.size w w2) := HB1.out.trans (hb2.mono HB1.out.size)
  have hX2 := box_later hX1 (by omega) hb2
  have hY2 := box_later hY1 hz hb2
  have hz2 : w.heap.size + 1 < w2.heap.size := by have := hb2.size; omega
  clear hb2 hX1 hY1 hz
  go_wp2_with fail
  have hB := HB2.out.drew
  have hX := box_later hX2 (by omega) (Below.refl w2.heap.size w2).drew
  have hY := box_later hY2 hz2 (Below.refl w2.heap.size w2).drew
  have hz : w.heap.size + 1 < w2.drew.heap.size := hz2
  clear hX2 hY2 hz2
  go_region_held3 (fun w' => (∀ j, w'.cell? ⟨w.heap.size, j, none⟩ = (#[.slice a r.vs.length cap, .string r.kd, .string r.tm, .string r.px] : Array Value)[j]?) ∧ ∀ j, w'.cell? ⟨w.heap.size + 1, j, none⟩ = (#[.int .i64 x.vb, .string x.kd, .string x.tm, .string x.nm] : Array Value)[j]?) (exact ⟨hX, hY⟩) (first
    | (go_at_call 45; refine (rightOf_any _ _ ts r _ _ _ (by exact HI.out.mono hB) HV.out).mono ?_; rintro e w3 ⟨rfl, hb⟩; have hX := box_later hX (Nat.lt_of_succ_lt hz) hb; have hY := box_later hY hz hb; have hB := hB.trans (hb.mono hB.size); have hz := Nat.lt_of_lt_of_le hz hb.size; clear hb)
    | (go_at_call 71; refine (verbsFor_any _ _ ts r _ _ x.kd x.tm x.nm _ (by exact HT.out.mono hB) HM.out.1 HM.out.2.nm).mono ?_; rintro e w4 ⟨rfl, hb⟩; have hX := box_later hX (Nat.lt_of_succ_lt hz) hb; have hY := box_later hY hz hb; have hB := hB.trans (hb.mono hB.size); have hz := Nat.lt_of_lt_of_le hz hb.size; clear hb)
    | (go_at_call 46; refine (has_any _ _ _).mono ?_; rintro e w5 ⟨rfl, rfl⟩))
  go_wp2_with fail
  go_ret
  exact ⟨ret_bool (by rw [HF.out]; exact Gate.allows_bits HV.out), hB⟩

end Go.Proofs.YtoadlpdnpijnbaaDoor

namespace Go.Proofs.YtoadlpdnpijnbaaDoor
open Go.RowKit

set_option maxHeartbeats 400000 in
theorem areRulesFn_any (r : Rl) (a : Option Addr) (cap : Nat) (w : World) (hm : r.Small) (hi : IntsAt w a r.vs) :
    Calls Tryd.prog 62 #[.agg (r.cells a cap)] w fun e w' => e = .returned (.bool (!Gate.ruleOk r)) ∧ Below w.heap.size w w' := by
  unfold Rl.cells
  go_enter Tryd.func62, Tryd.ntmps62
  go_wp2_with fail
  refine (isRule_any r _ _ _ hm (hi.mono ((Below.refl _ _).alloc (Nat.le_refl _) _))).mono ?_
  rintro e w2 ⟨rfl, hb2⟩
  go_wp2_with fail
  go_ret
  exact ⟨rfl, ((Below.refl _ _).alloc (Nat.le_refl _) _).trans (hb2.mono (by simp))⟩

set_option maxHeartbeats 1000000 in
theorem IndexFuncR_any (a : Option Addr) (cap : Nat) (rs : List Rl) (w : World) (hw : RlsAt w a rs) :
    Calls Tryd.prog 83 #[.slice a rs.length cap, .func (.func 62) #[] #[]] w fun e w' => ∃ r : Int, e = .returned (.int .i64 r) ∧ decide (0 ≤ r) = (rs.any fun q => !Gate.ruleOk q) ∧ Below w.heap.size w w' := by
  have hl := hw.len
  unfold maxLen at hl
  go_enter Tryd.func83, Tryd.ntmps83
  go_wp2_with fail
  go_loopw [8] (fun i wr => ∃ k : Nat, k ≤ rs.length ∧ i = .int .i64 k ∧ ((rs.take k).any fun q => !Gate.ruleOk q) = false ∧ Below w.heap.size w wr) (fun i _ => rs.length - (intOf i).toNat)
  case atStart => exact ⟨0, Nat.zero_le _, rfl, rfl, Below.refl _ _⟩
  case round =>
    obtain ⟨k, hk, rfl, hno, hB⟩ := hrel
    by_cases hlt : k < rs.length
    · obtain ⟨b, off, va, vcap, rfl, hb, hsm, hI, c0, c1, c2, c3⟩ := hw.load hB k hlt
      have hltI : (k : Int) < (rs.length : Int) := by omega
      have hbr : b < wr.heap.size := Nat.lt_of_lt_of_le hb hB.size
      clear hw
      by_cases he : (!Gate.ruleOk rs[k]) = true
      · have HA : Hid ((rs.any fun q => !Gate.ruleOk q) = true) := any_at _ rs k hlt he
        have HE : Hid ((!Gate.ruleOk rs[k]) = true) := he
        clear he hno
        go_wp2_with fail
        refine (as_bool HE.out (areRulesFn_any rs[k] va vcap _ hsm hI)).mono ?_
        rintro e w2 ⟨rfl, hb2⟩
        go_wp2_with fail
        go_ret
        exact ⟨_, rfl, by rw [HA.out]; simp, hB.trans (hb2.mono hB.size)⟩
      · have he' : (!Gate.ruleOk rs[k]) = false := by simpa using he
        have HS : Hid (((rs.take (k + 1)).any fun q => !Gate.ruleOk q) = false) := by unfold Hid; rw [any_take_snoc _ rs k hlt, hno, he']; rfl
        have HE : Hid ((!Gate.ruleOk rs[k]) = false) := he'
        clear he he' hno
        go_wp2_with fail
        refine (as_bool HE.out (areRulesFn_any rs[k] va vcap _ hsm hI)).mono ?_
        rintro e w2 ⟨rfl, hb2⟩
        go_wp2_with fail
        exact ⟨⟨k + 1, by omega, by go_num, HS.out, hB.trans (hb2.mono hB.size)⟩, by simp [intOf]; omega⟩
    · have HA : Hid ((rs.any fun q => !Gate.ruleOk q) = false) := by unfold Hid; rw [← hno, List.take_of_length_le (by omega)]
      clear hno hw
      go_wp2_with fail
      go_ret
      exact ⟨_, rfl, by rw [HA.out]; rfl, hB⟩

set_option maxHeartbeats 400000 in
theorem areRules_any (a : Option Addr) (cap : Nat) (rs : List Rl) (w : World) (hw : RlsAt w a rs) :
    Calls Tryd.prog 32 #[.slice a rs.length cap] w fun e w' => e = .returned (.bool (Gate.rulesOk rs)) ∧ Below w.heap.size w w' := by
  have HF : Hid ((!(rs.any fun q => !Gate.ruleOk q)) = Gate.rulesOk rs) := Gate.not_any_not _ _
  have hc : Calls Tryd.prog 61 #[.slice a rs.length cap, .func (.func 62) #[] #[]] w fun e w' => e = .returned (.bool (rs.any fun q => !Gate.ruleOk q)) ∧ Below w.heap.size w w' := by
    go_enter Tryd.func61, Tryd.ntmps61
    go_wp2_with fail
    refine (IndexFuncR_any _ _ _ _ hw).mono ?_
    rintro e w2 ⟨r, rfl, hr, hb2⟩
    go_wp2_with fail
    go_ret
    exact ⟨rfl, hb2⟩
  go_enter Tryd.func32, Tryd.ntmps32
  go_wp2_with fail
  refine hc.mono ?_
  rintro e w2 ⟨rfl, hb2⟩
  go_wp2_with fail
  go_ret
  exact ⟨ret_bool HF.out, hb2⟩

set_option maxHeartbeats 2000000 in
theorem uncovered_any (ta : Option Addr) (tcap : Nat) (ts : List Tm) (ra : Option Addr) (rcap : Nat) (rs : List Rl) (r : Rl) (a : Option Addr) (cap : Nat) (w : World) (hw : TmsAt w ta ts) (hr : RlsAt w ra rs) (hm : r.Small) (hi : IntsAt w a r.vs) (hv : Gate.verbsOk r.vs = true) (hrs : Gate.rulesOk rs = true) :
    Calls Tryd.prog 33 #[.slice ta ts.length tcap, .slice ra rs.length rcap, .agg (r.cells a cap)] w fun e w' => e = .returned (.int .u8 (Gate.leftBits ts rs r)) ∧ Below w.heap.size w w' := by
  have hl := hr.len
  unfold maxLen at hl
  have HVS : Hid (∀ i (h : i < rs.length), Gate.verbsOk rs[i].vs = true) := fun i h => by
    unfold Gate.rulesOk at hrs; rw [List.all_eq_true] at hrs; exact Gate.ruleOk_verbs (hrs _ (List.getElem_mem h))
  have HT : Hid (TmsAt w ta ts) := hw
  have HR : Hid (RlsAt w ra rs) := hr
  have HM : Hid r.Small := hm
  have HI : Hid (∀ ob, IntsAt (w.alloc ob) a r.vs) := fun ob => hi.mono ((Below.refl _ _).alloc (Nat.le_refl _) _)
  clear hw hr hm hi hrs
  unfold Rl.cells
  go_enter Tryd.func33, Tryd.ntmps33
  go_wp2_with (go_at_call 63; refine (verbsOf_any _ _ r.vs _ (HI.out _) hv).mono ?_; rintro e w' ⟨rfl, rfl⟩)
  have hB0 : Below w.heap.size w (w.alloc (.cells #[.slice a r.vs.length cap, .string r.kd, .string r.tm, .string r.px] 38)) := (Below.refl _ _).alloc (Nat.le_refl _) _
  have hX0 := box_new w #[.slice a r.vs.length cap, .string r.kd, .string r.tm, .string r.px] 38
  obtain ⟨W0, hW0⟩ : ∃ W0, W0 = w.alloc (.cells #[.slice a r.vs.length cap, .string r.kd, .string r.tm, .string r.px] 38) := ⟨_, rfl⟩
  have hz0 : w.heap.size < W0.heap.size := by rw [hW0]; simp
  rw [← hW0] at hB0 hX0 ⊢
  clear hW0
  go_loopw [7, 15] (fun s i wr => ∃ k : Nat, k ≤ rs.length ∧ i = .int .i64 k ∧ s = .int .u8 (Gate.leftBits ts (rs.take k) r) ∧ Below W0.heap.size W0 wr) (fun _ i _ => rs.length - (intOf i).toNat)
  case atStart => exact ⟨0, Nat.zero_le _, rfl, by rw [List.take_zero, Gate.left_zero], Below.refl _ _⟩
  case round =>
    obtain ⟨k, hk, rfl, rfl, hB1⟩ := hrel
    have hB2 := hB0.trans (hB1.mono (by omega))
    have hX2 := box_later hX0 hz0 hB1
    have hz2 := Nat.lt_of_lt_of_le hz0 hB1.size
    clear hX0
    by_cases hlt : k < rs.length
    · obtain ⟨b, off, va, vcap, rfl, hb, hsm, hI, c0, c1, c2, c3⟩ := HR.out.load hB2 k hlt
      have hltI : (k : Int) < (rs.length : Int) := by omega
      have hbr : b < wr.heap.size := Nat.lt_of_lt_of_le hb hB2.size
      have HS : Hid (Gate.leftBits ts (rs.take (k + 1)) r = Gate.clrI (Gate.leftBits ts (rs.take k) r) (Gate.rightBits ts rs[k] r.kd r.tm r.px)) := Gate.left_snoc ts rs r k hlt
      go_wp2_with fail
      have hb3 : Below wr.heap.size wr (wr.alloc (.cells #[.slice va rs[k].vs.length vcap, .string rs[k].kd, .string rs[k].tm, .string rs[k].px] 38)) := (Below.refl _ _).alloc (Nat.le_refl _) _
      have hY0 := box_new wr #[.slice va rs[k].vs.length vcap, .string rs[k].kd, .string rs[k].tm, .string rs[k].px] 38
      obtain ⟨W3, hW3⟩ : ∃ W3, W3 = wr.alloc (.cells #[.slice va rs[k].vs.length vcap, .string rs[k].kd, .string rs[k].tm, .string rs[k].px] 38) := ⟨_, rfl⟩
      have hy0 : wr.heap.size < W3.heap.size := by rw [hW3]; simp
      rw [← hW3] at hb3 hY0 ⊢
      clear hW3 c0 c1 c2 c3
      have hX := box_later (box_later hX2 hz2 hb3) (by omega) (Below.refl W3.heap.size W3).drew
      have hY := box_later hY0 hy0 (Below.refl W3.heap.size W3).drew
      have hz : w.heap.size < W3.drew.heap.size := Nat.lt_of_lt_of_le hz2 hb3.size
      have hy : wr.heap.size < W3.drew.heap.size := hy0
      have hB := (hB1.trans (hb3.mono hB1.size)).drew
      have hBw := (hB2.trans (hb3.mono hB2.size)).drew
      have hIq := (hI.mono hb3).mono (Below.refl W3.heap.size W3).drew
      clear hX2 hY0 hy0 hb3 hB2 hz2 hI hB1
      go_region_held3 (fun w' => (∀ j, w'.cell? ⟨w.heap.size, j, none⟩ = (#[.slice a r.vs.length cap, .string r.kd, .string r.tm, .string r.px] : Array Value)[j]?) ∧ ∀ j, w'.cell? ⟨wr.heap.size, j, none⟩ = (#[.slice va rs[k].vs.length vcap, .string rs[k].kd, .string rs[k].tm, .string rs[k].px] : Array Value)[j]?) (exact ⟨hX, hY⟩) (first
        | (go_at_call 45; refine (rightOf_any _ _ ts rs[k] _ _ _ (by exact hIq) (HVS.out k hlt)).mono ?_; rintro e w3 ⟨rfl, hb⟩; have hX := box_later hX hz hb; have hY := box_later hY hy hb; have hB := hB.trans (hb.mono hB.size); have hBw := hBw.trans (hb.mono hBw.size); have hz := Nat.lt_of_lt_of_le hz hb.size; have hy := Nat.lt_of_lt_of_le hy hb.size; clear hb)
        | (go_at_call 71; refine (verbsFor_any _ _ ts rs[k] _ _ r.kd r.tm r.px _ (by exact HT.out.mono hBw) hsm HM.out.px).mono ?_; rintro e w4 ⟨rfl, hb⟩; have hX := box_later hX hz hb; have hY := box_later hY hy hb; have hB := hB.trans (hb.mono hB.size); have hBw := hBw.trans (hb.mono hBw.size); have hz := Nat.lt_of_lt_of_le hz hb.size; have hy := Nat.lt_of_lt_of_le hy hb.size; clear hb))
      go_wp2_with fail
      exact ⟨⟨k + 1, by omega, by go_num, by rw [HS.out]; rfl, hB⟩, by simp [intOf]; omega⟩
    · have HF : Hid (Gate.leftBits ts (rs.take k) r = Gate.leftBits ts rs r) := by unfold Hid; rw [List.take_of_length_le (by omega)]
      go_wp2_with fail
      go_ret
      exact ⟨ret_int HF.out, hB2⟩

end Go.Proofs.YtoadlpdnpijnbaaDoor

namespace Go.Proofs.YtoadlpdnpijnbaaDoor
open Go.RowKit

theorem Gate.covers_no {ts : List Tm} {rs : List Rl} {r : Rl} (h : Gate.allOk ts rs r = false) : Gate.covers ts rs r = false := by unfold Gate.covers; rw [h]; rfl

set_option maxHeartbeats 2000000 in
theorem implCovers_any (ta : Option Addr) (tcap : Nat) (ts : List Tm) (ra : Option Addr) (rcap : Nat) (rs : List Rl) (r : Rl) (a : Option Addr) (cap : Nat) (w : World) (hw : TmsAt w ta ts) (hr : RlsAt w ra rs) (hm : r.Small) (hi : IntsAt w a r.vs) :
    Calls Tryd.prog 18 #[.slice ta ts.length tcap, .slice ra rs.length rcap, .agg (r.cells a cap)] w fun e w' => e = .returned (.bool (Gate.covers ts rs r)) ∧ Below w.heap.size w w' := by
  have HB : Hid (∀ o1, Below w.heap.size w (w.alloc o1)) := fun _ => (Below.refl _ _).alloc (Nat.le_refl _) _
  have HT : Hid (TmsAt w ta ts) := hw
  have HR : Hid (RlsAt w ra rs) := hr
  have HI : Hid (IntsAt w a r.vs) := hi
  have HM : Hid r.Small := hm
  clear hw hr hi hm
  by_cases hok : Gate.teamsOk ts = true
  rotate_left
  · have HK : Hid (Gate.teamsOk ts = false) := by simpa [Hid] using hok
    have HF : Hid (Gate.covers ts rs r = false) := Gate.covers_no (by unfold Gate.allOk; rw [HK.out]; rfl)
    clear hok
    unfold Rl.cells
    go_enter Tryd.func18, Tryd.ntmps18
    go_wp2_with fail
    refine (as_bool HK.out (implTeamsOk_any _ _ ts _ (HT.out.mono (HB.out _)))).mono ?_
    rintro e w1 ⟨rfl, hb1⟩
    have HB1 : Hid (Below w.heap.size w w1) := (HB.out _).trans (hb1.mono (by simp))
    clear hb1
    go_wp2_with fail
    go_ret
    exact ⟨ret_bool HF.out.symm, HB1.out⟩
  have HK : Hid (Gate.teamsOk ts = true) := hok
  clear hok
  by_cases hro : Gate.ruleOk r = true
  rotate_left
  · have HRo : Hid (Gate.ruleOk r = false) := by simpa [Hid] using hro
    have HF : Hid (Gate.covers ts rs r = false) := Gate.covers_no (by unfold Gate.allOk; rw [HRo.out]; simp)
    clear hro
    unfold Rl.cells
    go_enter Tryd.func18, Tryd.ntmps18
    go_wp2_with fail
    refine (as_bool HK.out (implTeamsOk_any _ _ ts _ (HT.out.mono (HB.out _)))).mono ?_
    rintro e w1 ⟨rfl, hb1⟩
    have HB1 : Hid (Below w.heap.size w w1) := (HB.out _).trans (hb1.mono (by simp))
    have hX1 := box_later (box_new w _ _) (by simp) hb1
    have hz : w.heap.size < w1.heap.size := by have := hb1.size; simp at this; omega
    clear hb1
    go_wp2_with fail
    refine (as_bool HRo.out (isRule_any r _ _ _ HM.out (HI.out.mono HB1.out))).mono ?_
    rintro e w2 ⟨rfl, hb2⟩
    have HB2 : Hid (Below w.heap.size w w2) := HB1.out.trans (hb2.mono HB1.out.size)
    clear hb2
    go_wp2_with fail
    go_ret
    exact ⟨ret_bool HF.out.symm, HB2.out⟩
  have HRo : Hid (Gate.ruleOk r = true) := hro
  have HV : Hid (Gate.verbsOk r.vs = true) := Gate.ruleOk_verbs hro
  clear hro
  by_cases hrs : Gate.rulesOk rs = true
  rotate_left
  · have HRs : Hid (Gate.rulesOk rs = false) := by simpa [Hid] using hrs
    have HF : Hid (Gate.covers ts rs r = false) := Gate.covers_no (by unfold Gate.allOk; rw [HRs.out]; simp)
    clear hrs
    unfold Rl.cells
    go_enter Tryd.func18, Tryd.ntmps18
    go_wp2_with fail
    refine (as_bool HK.out (implTeamsOk_any _ _ ts _ (HT.out.mono (HB.out _)))).mono ?_
    rintro e w1 ⟨rfl, hb1⟩
    have HB1 : Hid (Below w.heap.size w w1) := (HB.out _).trans (hb1.mono (by simp))
    have hX1 := box_later (box_new w _ _) (by simp) hb1
    have hz : w.heap.size < w1.heap.size := by have := hb1.size; simp at this; omega
    clear hb1
    go_wp2_with fail
    refine (as_bool HRo.out (isRule_any r _ _ _ HM.out (HI.out.mono HB1.out))).mono ?_
    rintro e w2 ⟨rfl, hb2⟩
    have HB2 : Hid (Below w.heap.size w w2) := HB1.out.trans (hb2.mono HB1.out.size)
    clear hb2
    go_wp2_with fail
    refine (as_bool HRs.out (areRules_any _ _ rs _ (HR.out.mono HB2.out))).mono ?_
    rintro e w3 ⟨rfl, hb3⟩
    have HB3 : Hid (Below w.heap.size w w3) := HB2.out.trans (hb3.mono HB2.out.size)
    clear hb3
    go_wp2_with fail
    go_ret
    exact ⟨ret_bool HF.out.symm, HB3.out⟩
  have HRs : Hid (Gate.rulesOk rs = true) := hrs
  have HF : Hid (Gate.covers ts rs r = (Gate.leftBits ts rs r == 0)) := by unfold Hid Gate.covers Gate.allOk; rw [HK.out, HRo.out, HRs.out]; rfl
  clear hrs
  unfold Rl.cells
  go_enter Tryd.func18, Tryd.ntmps18
  go_wp2_with fail
  refine (as_bool HK.out (implTeamsOk_any _ _ ts _ (HT.out.mono (HB.out _)))).mono ?_
  rintro e w1 ⟨rfl, hb1⟩
  have HB1 : Hid (Below w.heap.size w w1) := (HB.out _).trans (hb1.mono (by simp))
  have hX1 := box_later (box_new w _ _) (by simp) hb1
  have hz : w.heap.size < w1.heap.size := by have := hb1.size; simp at this; omega
  clear hb1
  go_wp2_with fail
  refine (as_bool HRo.out (isRule_any r _ _ _ HM.out (HI.out.mono HB1.out))).mono ?_
  rintro e w2 ⟨rfl, hb2⟩
  have HB2 : Hid (Below w.heap.size w w2) := HB1.out.trans (hb2.mono HB1.out.size)
  have hX2 := box_later hX1 hz hb2
  have hz2 := Nat.lt_of_lt_of_le hz hb2.size
  clear hb2 hX1 hz
  go_wp2_with fail
  refine (as_bool HRs.out (areRules_any _ _ rs _ (HR.out.mono HB2.out))).mono ?_
  rintro e w3 ⟨rfl, hb3⟩
  have HB3 : Hid (Below w.heap.size w w3) := HB2.out.trans (hb3.mono HB2.out.size)
  have hX3 := box_later hX2 hz2 hb3
  have hz3 := Nat.lt_of_lt_of_le hz2 hb3.size
  clear hb3 hX2 hz2
  go_wp2_with fail
  refine (uncovered_any _ _ ts _ _ rs r _ _ _ (HT.out.mono HB3.out) (HR.out.mono HB3.out) HM.out (HI.out.mono HB3.out) HV.out HRs.out).mono ?_
  rintro e w4 ⟨rfl, hb4⟩
  have HB4 : Hid (Below w.heap.size w w4) := HB3.out.trans (hb4.mono HB3.out.size)
  clear hb4
  go_wp2_with fail
  go_ret
  exact ⟨ret_bool HF.out.symm, HB4.out⟩

end Go.Proofs.YtoadlpdnpijnbaaDoor

namespace Go.Proofs.YtoadlpdnpijnbaaDoor
open Go.RowKit

/-- A map that counts the strings of a list. -/
structure Counts (f : ByteArray → Option Int) (L : List ByteArray) : Prop where
  lo : ∀ s, 0 ≤ (f s).getD 0
  hi : ∀ s, (f s).getD 0 ≤ L.length
  mem : ∀ s, 0 < (f s).getD 0 ↔ s ∈ L

theorem Counts.nil : Counts (fun _ => none) [] := ⟨fun _ => by simp, fun _ => by simp, fun _ => by simp⟩

theorem Counts.snoc {f : ByteArray → Option Int} {L : List ByteArray} (h : Counts f L) (s : ByteArray) : Counts (fun q => if q = s then some ((f s).getD 0 + 1) else f q) (L ++ [s]) := by
  refine ⟨fun q => ?_, fun q => ?_, fun q => ?_⟩
  · have h0 := h.lo s
    have h1 := h.lo q
    show 0 ≤ (if q = s then some ((f s).getD 0 + 1) else f q).getD 0
    split
    · show 0 ≤ (f s).getD 0 + 1; omega
    · exact h1
  · have h0 := h.hi s
    have h1 := h.hi q
    rw [List.length_append]
    show (if q = s then some ((f s).getD 0 + 1) else f q).getD 0 ≤ _
    split
    · show (f s).getD 0 + 1 ≤ _; simp; omega
    · simp; omega
  · have h0 := h.lo s
    rw [List.mem_append, List.mem_singleton]
    show 0 < (if q = s then some ((f s).getD 0 + 1) else f q).getD 0 ↔ _
    split
    · rename_i e
      show 0 < (f s).getD 0 + 1 ↔ _
      exact ⟨fun _ => Or.inr e, fun _ => by omega⟩
    · rename_i e
      rw [h.mem q]
      exact ⟨Or.inl, fun h => h.resolve_right e⟩

theorem StrMap.new (w : World) : StrMap (w.alloc (.map #[] 0)) w.heap.size (fun _ => none) :=
  ⟨#[], 0, Array.getElem?_push_size, fun x hx => (by simp at hx), fun k v h => (by cases h), fun i j x y hx => (by simp at hx)⟩

/-- One string more is counted. -/
theorem StrMap.count {w : World} {r : Nat} {f : ByteArray → Option Int} {L : List ByteArray} (h : StrMap w r f) (hc : Counts f L) (hl : L.length < 4611686018427387904) (s : ByteArray) (o : Obj) :
    ∃ (v : Int) (w' : World), 0 ≤ v ∧ v < 4611686018427387904 ∧ (Instr.lookup 99 (.map (some r)) (.string s) false).run Tryd.prog (w.alloc o) = .ok (.int .i64 v) (w.alloc o) ∧
      (Instr.mapUpdate 99 (.map (some r)) (.string s) (.int .i64 (v + 1))).run Tryd.prog (w.alloc o) = .ok () w' ∧
      Hid ((∃ f', StrMap w' r f' ∧ Counts f' (L ++ [s])) ∧ ∀ (B : Nat) (w0 : World), B ≤ r → Below B w0 w → B ≤ w.heap.size → Below B w0 w') := by
  have h1 : StrMap (w.alloc o) r f := h.mono (Below.heap_alloc _ _ _ h.lt)
  obtain ⟨w', hrun, hm, hp⟩ := h1.upd s ((f s).getD 0 + 1)
  refine ⟨(f s).getD 0, w', hc.lo s, by have := hc.hi s; omega, h1.look s, hrun, ⟨_, hm, hc.snoc s⟩, fun B w0 hB hb hB' => ?_⟩
  have hb1 : Below B w0 (w.alloc o) := hb.alloc hB' _
  exact ⟨hp.os.trans hb1.os, hp.tape.trans hb1.tape, hp.output.trans hb1.output, by rw [hp.size]; exact hb1.size, fun k hk => (hp.out k (by omega)).trans (hb1.block k hk)⟩

def Gate.letterK : ByteArray := ⟨#[107]⟩
def Gate.letterT : ByteArray := ⟨#[116]⟩

set_option maxHeartbeats 1000000 in
theorem freeKind_any (ra : Option Addr) (rcap : Nat) (rs : List Rl) (w : World) (hr : RlsAt w ra rs) (hlm : rs.length < 2305843009213693952) (htab : TabW w) :
    Calls Tryd.prog 35 #[.slice ra rs.length rcap] w fun e w' => (∃ k, e = .returned (.string (Gate.numbered Gate.letterK k)) ∧ Gate.IsFree Gate.letterK (rs.map Rl.kd) k) ∧ Below w.heap.size w w' := by
  have hl := hr.len
  unfold maxLen at hl
  have HT : Hid (TabW w) := htab
  have HR : Hid (RlsAt w ra rs) := hr
  have hmk : ∀ w : World, (Instr.makeMap 99 none).run Tryd.prog w = .ok (.map (some w.heap.size)) (w.alloc (.map #[] 0)) := fun w => by kernel_rfl
  clear htab hr
  go_enter Tryd.func35, Tryd.ntmps35
  go_wp2_with fail
  go_loopw [9] (fun i wr => ∃ (k : Nat), k ≤ rs.length ∧ i = .int .i64 k ∧ Hid ((∃ f, StrMap wr w.heap.size f ∧ Counts f ((rs.map Rl.kd).take k)) ∧ Below w.heap.size w wr)) (fun i _ => rs.length - (intOf i).toNat)
  case atStart => exact ⟨0, Nat.zero_le _, rfl, ⟨_, StrMap.new w, by rw [List.take_zero]; exact Counts.nil⟩, (Below.refl _ _).alloc (Nat.le_refl _) _⟩
  case round =>
    obtain ⟨k, hk, rfl, HX⟩ := hrel
    obtain ⟨⟨f, hf, hc⟩, hB⟩ := HX.out
    by_cases hlt : k < rs.length
    · obtain ⟨b, off, va, vcap, rfl, hb, hsm, hI, c0, c1, c2, c3⟩ := HR.out.load hB k hlt
      have hltI : (k : Int) < (rs.length : Int) := by omega
      have hbr : b < wr.heap.size := Nat.lt_of_lt_of_le hb hB.size
      obtain ⟨v, w2, hv0, hv1, hlk, hup, HC⟩ := hf.count hc (by rw [List.length_take, List.length_map]; omega) rs[k].kd (.cells #[.slice va rs[k].vs.length vcap, .string rs[k].kd, .string rs[k].tm, .string rs[k].px] 38)
      have HS : Hid ((rs.map Rl.kd).take (k + 1) = (rs.map Rl.kd).take k ++ [rs[k].kd]) := by
        unfold Hid; rw [List.take_add_one, List.getElem?_map, List.getElem?_eq_getElem hlt]; rfl
      have HB : Hid (Below w.heap.size w wr) := hB
      clear hf hc hB HX hsm hI
      go_wp2_with fail
      exact ⟨⟨k + 1, by omega, by go_num, by rw [HS.out]; exact HC.out.1, HC.out.2 _ _ (Nat.le_refl _) HB.out HB.out.size⟩, by simp [intOf]; omega⟩
    · have e : k = rs.length := by omega
      subst e
      rw [List.take_of_length_le (by simp)] at hc
      have HN : Hid (Calls Tryd.prog 65 #[.string Gate.letterK, .map (some w.heap.size)] wr fun e w' => (∃ k, e = .returned (.string (Gate.numbered Gate.letterK k)) ∧ Gate.IsFree Gate.letterK (rs.map Rl.kd) k) ∧ Below w.heap.size w w') := by
        refine (freeName_any Gate.letterK _ f _ wr (HT.out.mono hB) hf hc.mem (by rw [List.length_map]; exact hlm) (by decide)).mono ?_
        rintro e w' ⟨h1, h2⟩
        exact ⟨h1, hB.trans (h2.mono hB.size)⟩
      clear hf hc HX hB HT HR
      unfold Gate.letterK at HN
      go_wp2_with fail
      refine HN.out.mono ?_
      rintro e w3 ⟨⟨j, rfl, hj⟩, hb3⟩
      have HJ : Hid (Gate.IsFree ⟨#[107]⟩ (rs.map Rl.kd) j ∧ Below w.heap.size w w3) := ⟨hj, hb3⟩
      clear hj hb3
      go_wp2_with fail
      go_ret
      exact ⟨⟨j, rfl, HJ.out.1⟩, HJ.out.2⟩

end Go.Proofs.YtoadlpdnpijnbaaDoor

namespace Go.Proofs.YtoadlpdnpijnbaaDoor
open Go.RowKit

theorem take_map_snoc {α β : Type} (f : α → β) (xs : List α) (k : Nat) (h : k < xs.length) : (xs.map f).take (k + 1) = (xs.map f).take k ++ [f xs[k]] := by
  rw [List.take_add_one, List.getElem?_map, List.getElem?_eq_getElem h]; rfl

set_option maxHeartbeats 2000000 in
theorem freeTeam_any (ta : Option Addr) (tcap : Nat) (ts : List Tm) (ra : Option Addr) (rcap : Nat) (rs : List Rl) (w : World) (hw : TmsAt w ta ts) (hr : RlsAt w ra rs) (hlm : ts.length + rs.length < 2305843009213693952) (htab : TabW w) :
    Calls Tryd.prog 36 #[.slice ta ts.length tcap, .slice ra rs.length rcap] w fun e w' => (∃ k, e = .returned (.string (Gate.numbered Gate.letterT k)) ∧ Gate.IsFree Gate.letterT (ts.map Tm.nm ++ rs.map Rl.tm) k) ∧ Below w.heap.size w w' := by
  have hl := hr.len
  have hl2 := hw.len
  unfold maxLen at hl hl2
  have HT : Hid (TabW w) := htab
  have HR : Hid (RlsAt w ra rs) := hr
  have HW : Hid (TmsAt w ta ts) := hw
  have hmk : ∀ w : World, (Instr.makeMap 99 none).run Tryd.prog w = .ok (.map (some w.heap.size)) (w.alloc (.map #[] 0)) := fun w => by kernel_rfl
  clear htab hr hw
  go_enter Tryd.func36, Tryd.ntmps36
  go_wp2_with fail
  go_loopw [13] (fun i wr => ∃ (k : Nat), k ≤ ts.length ∧ i = .int .i64 k ∧ Hid ((∃ f, StrMap wr w.heap.size f ∧ Counts f ((ts.map Tm.nm).take k)) ∧ Below w.heap.size w wr)) (fun i _ => ts.length - (intOf i).toNat)
  case atStart => exact ⟨0, Nat.zero_le _, rfl, ⟨_, StrMap.new w, by rw [List.take_zero]; exact Counts.nil⟩, (Below.refl _ _).alloc (Nat.le_refl _) _⟩
  case round =>
    obtain ⟨k, hk, rfl, HX⟩ := hrel
    obtain ⟨⟨f, hf, hc⟩, hB⟩ := HX.out
    by_cases hlt : k < ts.length
    · obtain ⟨b, off, rfl, hb, c0, c1⟩ := HW.out.load hB k hlt
      have hltI : (k : Int) < (ts.length : Int) := by omega
      have hbr : b < wr.heap.size := Nat.lt_of_lt_of_le hb hB.size
      obtain ⟨v, w2, hv0, hv1, hlk, hup, HC⟩ := hf.count hc (by rw [List.length_take, List.length_map]; omega) ts[k].nm (.cells #[.string ts[k].nm, .string ts[k].ov] 60)
      have HS : Hid ((ts.map Tm.nm).take (k + 1) = (ts.map Tm.nm).take k ++ [ts[k].nm]) := take_map_snoc _ _ _ hlt
      have HB : Hid (Below w.heap.size w wr) := hB
      clear hf hc hB HX
      go_wp2_with fail
      exact ⟨⟨k + 1, by omega, by go_num, by rw [HS.out]; exact HC.out.1, HC.out.2 _ _ (Nat.le_refl _) HB.out HB.out.size⟩, by simp [intOf]; omega⟩
    · have e : k = ts.length := by omega
      subst e
      rw [List.take_of_length_le (by simp)] at hc
      have H0 : Hid ((∃ f, StrMap wr w.heap.size f ∧ Counts f (ts.map Tm.nm)) ∧ Below w.heap.size w wr) := ⟨⟨f, hf, hc⟩, hB⟩
      clear hf hc HX hB hk
      go_wp2_with fail
      go_loopw [25] (fun i wr => ∃ (k : Nat), k ≤ rs.length ∧ i = .int .i64 k ∧ Hid ((∃ f, StrMap wr w.heap.size f ∧ Counts f (ts.map Tm.nm ++ (rs.map Rl.tm).take k)) ∧ Below w.heap.size w wr)) (fun i _ => rs.length - (intOf i).toNat)
      case atStart => exact ⟨0, Nat.zero_le _, rfl, by rw [List.take_zero, List.append_nil]; exact H0⟩
      case round =>
        clear H0
        obtain ⟨k, hk, rfl, HX⟩ := hrel
        obtain ⟨⟨f, hf, hc⟩, hB⟩ := HX.out
        by_cases hlt : k < rs.length
        · obtain ⟨b, off, va, vcap, rfl, hb, hsm, hI, c0, c1, c2, c3⟩ := HR.out.load hB k hlt
          have hltI : (k : Int) < (rs.length : Int) := by omega
          have hbr : b < wr.heap.size := Nat.lt_of_lt_of_le hb hB.size
          obtain ⟨v, w2, hv0, hv1, hlk, hup, HC⟩ := hf.count hc (by rw [List.length_append, List.length_take, List.length_map, List.length_map]; omega) rs[k].tm (.cells #[.slice va rs[k].vs.length vcap, .string rs[k].kd, .string rs[k].tm, .string rs[k].px] 38)
          have HS : Hid (ts.map Tm.nm ++ (rs.map Rl.tm).take (k + 1) = ts.map Tm.nm ++ (rs.map Rl.tm).take k ++ [rs[k].tm]) := by unfold Hid; rw [take_map_snoc _ _ _ hlt, List.append_assoc]
          have HB : Hid (Below w.heap.size w wr) := hB
          clear hf hc hB HX hsm hI
          go_wp2_with fail
          exact ⟨⟨k + 1, by omega, by go_num, by rw [HS.out]; exact HC.out.1, HC.out.2 _ _ (Nat.le_refl _) HB.out HB.out.size⟩, by simp [intOf]; omega⟩
        · have e : k = rs.length := by omega
          subst e
          rw [List.take_of_length_le (by simp)] at hc
          have HN : Hid (Calls Tryd.prog 65 #[.string Gate.letterT, .map (some w.heap.size)] wr fun e w' => (∃ k, e = .returned (.string (Gate.numbered Gate.letterT k)) ∧ Gate.IsFree Gate.letterT (ts.map Tm.nm ++ rs.map Rl.tm) k) ∧ Below w.heap.size w w') := by
            refine (freeName_any Gate.letterT _ f _ wr (HT.out.mono hB) hf hc.mem (by rw [List.length_append, List.length_map, List.length_map]; exact hlm) (by decide)).mono ?_
            rintro e w' ⟨h1, h2⟩
            exact ⟨h1, hB.trans (h2.mono hB.size)⟩
          clear hf hc HX hB HT HR
          unfold Gate.letterT at HN
          go_wp2_with fail
          refine HN.out.mono ?_
          rintro e w3 ⟨⟨j, rfl, hj⟩, hb3⟩
          have HJ : Hid (Gate.IsFree ⟨#[116]⟩ (ts.map Tm.nm ++ rs.map Rl.tm) j ∧ Below w.heap.size w w3) := ⟨hj, hb3⟩
          clear hj hb3
          go_wp2_with fail
          go_ret
          exact ⟨⟨j, rfl, HJ.out.1⟩, HJ.out.2⟩

end Go.Proofs.YtoadlpdnpijnbaaDoor

namespace Go.Proofs.YtoadlpdnpijnbaaDoor
namespace Gate

/-- The least verb of a set of verbs, 8 if it is empty. -/
def low5 (a b c d e : Bool) : Int := if a then 1 else if b then 2 else if c then 3 else if d then 4 else if e then 5 else 8
def low (f : Int → Bool) : Int := low5 (f 1) (f 2) (f 3) (f 4) (f 5)

theorem low_is {f : Int → Bool} {x : Int} (hx : 1 ≤ x ∧ x ≤ 5) (hf : f x = true) (hn : ∀ v, 1 ≤ v → v < x → f v = false) : low f = x := by
  have hc : x = 1 ∨ x = 2 ∨ x = 3 ∨ x = 4 ∨ x = 5 := by omega
  unfold low low5
  rcases hc with rfl | rfl | rfl | rfl | rfl
  · simp [hf]
  · simp [hf, hn 1 (by omega) (by omega)]
  · simp [hf, hn 1 (by omega) (by omega), hn 2 (by omega) (by omega)]
  · simp [hf, hn 1 (by omega) (by omega), hn 2 (by omega) (by omega), hn 3 (by omega) (by omega)]
  · simp [hf, hn 1 (by omega) (by omega), hn 2 (by omega) (by omega), hn 3 (by omega) (by omega), hn 4 (by omega) (by omega)]

theorem verbs_less {vs : List Int} (h : verbsOk vs = true) : ∀ (j : Nat) (hj : j < vs.length) (i : Nat) (hi : i < j), vs[i]'(by omega) < vs[j] := by
  unfold verbsOk at h
  rw [Bool.and_eq_true] at h
  intro j
  induction j with
  | zero => intro _ i hi; omega
  | succ j ih =>
    intro hj i hi
    have h1 := up_at hj h.2
    unfold verbAt at h1
    rw [getD_at vs (j + 1) _ hj, Nat.add_sub_cancel, getD_at vs j _ (by omega)] at h1
    simp only [Bool.and_eq_true] at h1
    have h2 : vs[j] < vs[j + 1] := by simpa using h1.2
    rcases Nat.lt_or_ge i j with hlt | hge
    · exact Int.lt_trans (ih (by omega) i hlt) h2
    · have e : i = j := by omega
      subst e; exact h2

/-- The first verb that lacks is the least one. -/
theorem lacks_low {ts : List Tm} (hok : teamsOk ts = true) (rs : List Rl) {r : Rl} (hv : verbsOk r.vs = true) (hne : ¬ (leftBits ts rs r == 0) = true) : lacksS ts rs r = low (lacksAt ts rs r) ∧ ¬ lacksS ts rs r = 0 := by
  rw [left_zero_iff rs hv] at hne
  rw [lacks_find hok]
  cases hf : r.vs.find? (fun v => !(rs.any fun q => covs ts r q v)) with
  | none =>
    rw [List.find?_eq_none] at hf
    exact absurd (fun v hm => by simpa using hf v hm) hne
  | some x =>
    have hx := List.mem_of_find?_eq_some hf
    have hp := List.find?_some hf
    obtain ⟨i, hi, rfl⟩ := List.mem_iff_getElem.1 hx
    have h5 := verbsOk_at hv i hi
    refine ⟨(low_is h5 ?_ ?_).symm, by show ¬ r.vs[i] = 0; omega⟩
    · unfold lacksAt
      have hh : hasVerb r.vs r.vs[i] = true := hasVerb_at r.vs _ i hi rfl
      rw [hh]
      simpa using hp
    · intro v _ hlt
      unfold lacksAt
      cases hh : hasVerb r.vs v
      · rfl
      · unfold hasVerb at hh
        rw [List.any_eq_true] at hh
        obtain ⟨y, hy, he⟩ := hh
        have e : y = v := by simpa using he
        subst e
        obtain ⟨k, hk, rfl⟩ := List.mem_iff_getElem.1 hy
        have hki : k < i := by
          rcases Nat.lt_or_ge k i with h | h
          · exact h
          · rcases Nat.eq_or_lt_of_le h with e | h
            · subst e; omega
            · have := verbs_less hv k hk i h; omega
        rw [List.find?_eq_some_iff_getElem] at hf
        obtain ⟨_, j, hj, he2, hb⟩ := hf
        have hij : i = j := by
          rcases Nat.lt_trichotomy i j with h | h | h
          · have := verbs_less hv j hj i h; omega
          · exact h
          · have := verbs_less hv i hi j h; omega
        subst hij
        have := hb k hki
        simpa using this

end Gate
end Go.Proofs.YtoadlpdnpijnbaaDoor
