import Derived.Test.YtackfmeepggedaaDoorM29
import Derived.Test.YtackfmeepggedaaDoorM30
namespace Go.Proofs.YtackfmeepggedaaDoor
open Go.RowKit

set_option maxHeartbeats 2000000 in
theorem specCovers_any (ta : Option Addr) (tcap : Nat) (ts : List Tm) (ra : Option Addr) (rcap : Nat) (rs : List Rl) (r : Rl) (a : Option Addr) (cap : Nat) (w : World) (hw : TmsAt w ta ts) (hr : RlsAt w ra rs) (hm : r.Small) (hi : IntsAt w a r.vs) :
    Calls Tryd.prog 7 #[.slice ta ts.length tcap, .slice ra rs.length rcap, .agg (r.cells a cap)] w fun e w' => e = .returned (.bool (Gate.covers ts rs r)) ∧ Below w.heap.size w w' := by
  have HB : Hid (∀ o1, Below w.heap.size w (w.alloc o1)) := fun _ => (Below.refl _ _).alloc (Nat.le_refl _) _
  have HT : Hid (TmsAt w ta ts) := hw
  have HR : Hid (RlsAt w ra rs) := hr
  have HI : Hid (IntsAt w a r.vs) := hi
  have HM : Hid r.Small := hm
  clear hw hr hi hm
  by_cases hok : Gate.allOk ts rs r = true
  rotate_left
  · have HK : Hid (Gate.allOk ts rs r = false) := by simpa [Hid] using hok
    have HF : Hid (Gate.covers ts rs r = false) := by unfold Hid Gate.covers; rw [HK.out]; rfl
    clear hok
    unfold Rl.cells
    go_enter Tryd.func7, Tryd.ntmps7
    go_wp2_with fail
    refine (as_bool HK.out (l4AllOk_any _ _ ts _ _ rs r _ _ _ (HT.out.mono (HB.out _)) (HR.out.mono (HB.out _)) HM.out (HI.out.mono (HB.out _)))).mono ?_
    rintro e w1 ⟨rfl, hb1⟩
    have HB1 : Hid (Below w.heap.size w w1) := (HB.out _).trans (hb1.mono (by simp))
    clear hb1
    go_wp2_with fail
    go_ret
    exact ⟨ret_bool HF.out.symm, HB1.out⟩
  have HK : Hid (Gate.allOk ts rs r = true) := hok
  have HF : Hid (Gate.covers ts rs r = (Gate.lacksS ts rs r == 0)) := by rw [Hid, Gate.covers_same]; unfold Gate.coversS; rw [HK.out]; rfl
  clear hok
  unfold Rl.cells
  go_enter Tryd.func7, Tryd.ntmps7
  go_wp2_with fail
  refine (as_bool HK.out (l4AllOk_any _ _ ts _ _ rs r _ _ _ (HT.out.mono (HB.out _)) (HR.out.mono (HB.out _)) HM.out (HI.out.mono (HB.out _)))).mono ?_
  rintro e w1 ⟨rfl, hb1⟩
  have HB1 : Hid (Below w.heap.size w w1) := (HB.out _).trans (hb1.mono (by simp))
  have hX1 := box_later (box_new w _ _) (by simp) hb1
  have hz : w.heap.size < w1.heap.size := by have := hb1.size; simp at this; omega
  clear hb1
  go_wp2_with fail
  refine (l4Lacks_any _ _ ts _ _ rs r _ _ _ (HT.out.mono HB1.out) (HR.out.mono HB1.out) HM.out (HI.out.mono HB1.out)).mono ?_
  rintro e w2 ⟨rfl, hb2⟩
  have HB2 : Hid (Below w.heap.size w w2) := HB1.out.trans (hb2.mono HB1.out.size)
  clear hb2
  go_wp2_with fail
  go_ret
  exact ⟨ret_bool HF.out.symm, HB2.out⟩

end Go.Proofs.YtackfmeepggedaaDoor
