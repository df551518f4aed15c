import Derived.Test.YtackfmeepggedaaDoorM23
import Derived.Test.YtackfmeepggedaaDoorM17
import Derived.Test.YtackfmeepggedaaDoorM18
import Derived.Deep.RegionHeld3
namespace Go.Proofs.YtackfmeepggedaaDoor
open Go.RowKit

set_option maxHeartbeats 4000000 in
theorem implAllows_any (ta : Option Addr) (tcap : Nat) (ts : List Tm) (r : Rl) (a : Option Addr) (cap : Nat) (x : Ac) (w : World) (hw : TmsAt w ta ts) (hm : r.Small) (hi : IntsAt w a r.vs) (hx : x.Small) :
    Calls Tryd.prog 8 #[.slice ta ts.length tcap, .agg (r.cells a cap), .agg x.cells] w fun e w' => e = .returned (.bool (Gate.allows ts r x)) ∧ Below w.heap.size w w' := by
  have HB : Hid (∀ o1 o2, Below w.heap.size w ((w.alloc o1).alloc o2)) := fun _ _ => below2' _ _ _
  have HT : Hid (TmsAt w ta ts) := hw
  have HI : Hid (IntsAt w a r.vs) := hi
  have HM : Hid (r.Small ∧ x.Small) := ⟨hm, hx⟩
  clear hw hi hm hx
  by_cases hok : Gate.teamsOk ts = true
  rotate_left
  · have HK : Hid (Gate.teamsOk ts = false) := by simpa [Hid] using hok
    have HF : Hid (Gate.allows ts r x = false) := by unfold Hid Gate.allows; rw [HK.out]; rfl
    clear hok
    unfold Rl.cells Ac.cells
    go_enter Tryd.func8, Tryd.ntmps8
    go_wp2_with fail
    refine (as_bool HK.out (implTeamsOk_any _ _ ts _ (HT.out.mono (HB.out _ _)))).mono ?_
    rintro e w1 ⟨rfl, hb1⟩
    have HB1 : Hid (Below w.heap.size w w1) := (HB.out _ _).trans (hb1.mono (by simp; omega))
    clear hb1
    go_wp2_with fail
    go_ret
    exact ⟨ret_bool HF.out.symm, HB1.out⟩
  have HK : Hid (Gate.teamsOk ts = true) := hok
  clear hok
  by_cases hr : Gate.ruleOk r = true
  rotate_left
  · have HR : Hid (Gate.ruleOk r = false) := by simpa [Hid] using hr
    have HF : Hid (Gate.allows ts r x = false) := by unfold Hid Gate.allows; rw [HR.out]; simp
    clear hr
    unfold Rl.cells Ac.cells
    go_enter Tryd.func8, Tryd.ntmps8
    go_wp2_with fail
    refine (as_bool HK.out (implTeamsOk_any _ _ ts _ (HT.out.mono (HB.out _ _)))).mono ?_
    rintro e w1 ⟨rfl, hb1⟩
    have HB1 : Hid (Below w.heap.size w w1) := (HB.out _ _).trans (hb1.mono (by simp; omega))
    have hX1 := box_later (box_later (box_new w _ _) (by simp) ((Below.refl _ _).alloc (Nat.le_refl _) _)) (by simp; omega) hb1
    have hz : w.heap.size + 1 < w1.heap.size := by have := hb1.size; simp at this; omega
    clear hb1
    go_wp2_with fail
    refine (as_bool HR.out (isRule_any r _ _ _ HM.out.1 (HI.out.mono HB1.out))).mono ?_
    rintro e w2 ⟨rfl, hb2⟩
    have HB2 : Hid (Below w.heap.size w w2) := HB1.out.trans (hb2.mono HB1.out.size)
    clear hb2
    go_wp2_with fail
    go_ret
    exact ⟨ret_bool HF.out.symm, HB2.out⟩
  have HR : Hid (Gate.ruleOk r = true) := hr
  have HF : Hid (Gate.allows ts r x = Gate.allowsOf ts r x) := by unfold Hid Gate.allows; rw [HR.out, HK.out]; rfl
  have HV : Hid (Gate.verbsOk r.vs = true) := Gate.ruleOk_verbs hr
  clear hr
  unfold Rl.cells Ac.cells
  go_enter Tryd.func8, Tryd.ntmps8
  go_wp2_with fail
  refine (as_bool HK.out (implTeamsOk_any _ _ ts _ (HT.out.mono (HB.out _ _)))).mono ?_
  rintro e w1 ⟨rfl, hb1⟩
  have HB1 : Hid (Below w.heap.size w w1) := (HB.out _ _).trans (hb1.mono (by simp; omega))
  have hX1 := box_later (box_later (box_new w _ _) (by simp) ((Below.refl _ _).alloc (Nat.le_refl _) _)) (by simp; omega) hb1
  have hY1 := box_later (box_new2 w _ _ _) (by simp) hb1
  have hz : w.heap.size + 1 < w1.heap.size := by have := hb1.size; simp at this; omega
  clear hb1
  go_wp2_with fail
  refine (as_bool HR.out (isRule_any r _ _ _ HM.out.1 (HI.out.mono HB1.out))).mono ?_
  rintro e w2 ⟨rfl, hb2⟩
  have HB2 : Hid (Below w.heap.size w w2) := HB1.out.trans (hb2.mono HB1.out.size)
  have hX2 := box_later hX1 (by omega) hb2
  have hY2 := box_later hY1 hz hb2
  have hz2 : w.heap.size + 1 < w2.heap.size := by have := hb2.size; omega
  clear hb2 hX1 hY1 hz
  go_wp2_with fail
  have hB := HB2.out.drew
  have hX := box_later hX2 (by omega) (Below.refl w2.heap.size w2).drew
  have hY := box_later hY2 hz2 (Below.refl w2.heap.size w2).drew
  have hz : w.heap.size + 1 < w2.drew.heap.size := hz2
  clear hX2 hY2 hz2
  go_region_held3 (fun w' => (∀ j, w'.cell? ⟨w.heap.size, j, none⟩ = (#[.slice a r.vs.length cap, .string r.kd, .string r.tm, .string r.px] : Array Value)[j]?) ∧ ∀ j, w'.cell? ⟨w.heap.size + 1, j, none⟩ = (#[.int .i64 x.vb, .string x.kd, .string x.tm, .string x.nm] : Array Value)[j]?) (exact ⟨hX, hY⟩) (first
    | (go_at_call 26; refine (rightOf_any _ _ ts r _ _ _ (by exact HI.out.mono hB) HV.out).mono ?_; rintro e w3 ⟨rfl, hb⟩; have hX := box_later hX (Nat.lt_of_succ_lt hz) hb; have hY := box_later hY hz hb; have hB := hB.trans (hb.mono hB.size); have hz := Nat.lt_of_lt_of_le hz hb.size; clear hb)
    | (go_at_call 51; refine (verbsFor_any _ _ ts r _ _ x.kd x.tm x.nm _ (by exact HT.out.mono hB) HM.out.1 HM.out.2.nm).mono ?_; rintro e w4 ⟨rfl, hb⟩; have hX := box_later hX (Nat.lt_of_succ_lt hz) hb; have hY := box_later hY hz hb; have hB := hB.trans (hb.mono hB.size); have hz := Nat.lt_of_lt_of_le hz hb.size; clear hb)
    | (go_at_call 27; refine (has_any _ _ _).mono ?_; rintro e w5 ⟨rfl, rfl⟩))
  go_wp2_with fail
  go_ret
  exact ⟨ret_bool (by rw [HF.out]; exact Gate.allows_bits HV.out), hB⟩

end Go.Proofs.YtackfmeepggedaaDoor
