import Derived.Test.YthclaldbcfljfabGreatDoorCB
namespace Go.Proofs.YthclaldbcfljfabGreatDoor
open Go.RowKit

theorem as_ret {P : Program} {f : FuncId} {args : Array Value} {w : World} {v v' : Value} {R : World → Prop} (hb : v = v') (h : Calls P f args w fun e w' => e = .returned v ∧ R w') : Calls P f args w fun e w' => e = .returned v' ∧ R w' := by
  subst hb; exact h

/-- The first k looks found nothing. -/
def stage (ss : List Shp) (o : Ob) : Nat → Bool
  | 0 => true
  | 1 => Gate.wholeNames o
  | 2 => Gate.wholeNames o && Gate.wholeHolds o
  | 3 => Gate.wholeNames o && Gate.wholeHolds o && Gate.wholeVersion o
  | 4 => Gate.whole ss o
  | _ => Gate.whole ss o && decide ((Gate.valRes (Gate.shapeOf ss o.kd).fs o.vs).1 = 0)

def errO (ss : List Shp) (o : Ob) : Value := errV (Gate.checkRes ss o).1 (Gate.checkRes ss o).2

theorem errO_not {ss : List Shp} {o : Ob} (h : Gate.whole ss o = false) : errO ss o = .iface 68 (.agg #[.int .i64 1, .int .i64 0]) := by
  unfold errO Gate.checkRes; rw [h]; rfl
theorem errO_whole {ss : List Shp} {o : Ob} (h : Gate.whole ss o = true) : errO ss o = errV (Gate.valRes (Gate.shapeOf ss o.kd).fs o.vs).1 (Gate.valRes (Gate.shapeOf ss o.kd).fs o.vs).2 := by
  unfold errO Gate.checkRes; rw [if_pos h]
theorem count_of_whole {ss : List Shp} {o : Ob} (h : Gate.whole ss o = true) : o.vs.length = (Gate.shapeOf ss o.kd).fs.length := by
  unfold Gate.whole Gate.wholeCount at h
  simp only [Bool.and_eq_true, decide_eq_true_eq] at h
  exact h.2.2

set_option maxHeartbeats 4000000 in
theorem objectError_any (a0 : Option Addr) (cap0 : Nat) (ss : List Shp) (o : Ob) (a a' : Option Addr) (cap cap' : Nat) (w : World) (hw : ShpsAt w a0 ss) (ho : ObAt w o a a') :
    Calls Tryz.prog 32 #[.slice a0 ss.length cap0, .agg #[.string o.kd, .string o.nm, .string o.tm, .slice a o.vs.length cap, .bool o.en, .slice a' o.hs.length cap', .int .i64 o.vr]] w
      fun e w' => e = .returned (errO ss o) ∧ Below w.heap.size w w' := by
  go_enter Tryz.func32, Tryz.ntmps32
  go_wp2_with fail
  go_loopw [10] (fun i wr => ∃ k : Nat, k ≤ 5 ∧ i = .int .i64 k ∧ stage ss o k = true ∧ Below (w.heap.size + 1 + 1) ((w.alloc (.cells #[.string o.kd, .string o.nm, .string o.tm, .slice a o.vs.length cap, .bool o.en, .slice a' o.hs.length cap', .int .i64 o.vr] 32)).alloc (.cells #[.func (.func 55) #[] #[], .func (.func 56) #[] #[], .func (.func 57) #[] #[], .func (.func 58) #[] #[], .func (.func 59) #[] #[]] 107)) wr) (fun i _ => 5 - (intOf i).toNat)
  case atStart => exact ⟨0, Nat.zero_le _, rfl, rfl, Below.refl _ _⟩
  case round =>
    obtain ⟨k, hk, rfl, hstg, hBr⟩ := hrel
    have HStg : Hid (stage ss o k = true) := hstg
    clear hstg
    have hszr : w.heap.size + 1 < wr.heap.size := by have := hBr.size; simp at this; omega
    have hB : Below w.heap.size w wr := (below2' _ _ _).trans (hBr.mono (by omega))
    have hX : ∀ j, wr.cell? ⟨w.heap.size, j, none⟩ = (#[.string o.kd, .string o.nm, .string o.tm, .slice a o.vs.length cap, .bool o.en, .slice a' o.hs.length cap', .int .i64 o.vr] : Array Value)[j]? := fun j => (hBr.cell (p := ⟨w.heap.size, j, none⟩) (by simp; omega)).trans (by rw [World.cell?_alloc_lt _ _ ⟨w.heap.size, j, none⟩ (by simp)]; exact box_new w _ _ j)
    have hF : ∀ j, wr.cell? ⟨w.heap.size + 1, j, none⟩ = (#[.func (.func 55) #[] #[], .func (.func 56) #[] #[], .func (.func 57) #[] #[], .func (.func 58) #[] #[], .func (.func 59) #[] #[]] : Array Value)[j]? := fun j => (hBr.cell (p := ⟨w.heap.size + 1, j, none⟩) (by simp)).trans (by rw [World.cell?_alloc_at _ _ _ _ (by simp)])
    have hor := ho.mono hB
    have hwr := hw.mono hB
    have hcases : k = 0 ∨ k = 1 ∨ k = 2 ∨ k = 3 ∨ k = 4 ∨ k = 5 := by omega
    rcases hcases with rfl | rfl | rfl | rfl | rfl | rfl
    · by_cases hc : Gate.wholeNames o = true
      · have HV : Hid (wholeErr (Gate.wholeNames o) = .nilIface) := by unfold Hid; rw [hc]; rfl
        have HS : Hid (stage ss o (0 + 1) = true) := by
          have h0 := HStg.out
          simp only [stage] at h0 ⊢
          simp [hc, Hid]
        clear hc
        go_wp2_with fail
        refine (as_ret HV.out (checkNames_any _ _ _ _ _ _ _ _ _ hor)).mono ?_
        rintro e w1 ⟨rfl, hb1⟩
        go_wp2_with fail
        exact ⟨⟨0 + 1, by omega, by rfl, HS.out, hBr.trans (hb1.mono (by omega))⟩, by simp [intOf]⟩
      · have hc' : (Gate.wholeNames o) = false := by simpa using hc
        have HV : Hid (wholeErr (Gate.wholeNames o) = .iface 68 (.agg #[.int .i64 1, .int .i64 0])) := by unfold Hid; rw [hc']; rfl
        have HW : Hid (errO ss o = .iface 68 (.agg #[.int .i64 1, .int .i64 0])) := errO_not (by unfold Gate.whole; rw [hc']; simp)
        clear hc hc'
        go_wp2_with fail
        refine (as_ret HV.out (checkNames_any _ _ _ _ _ _ _ _ _ hor)).mono ?_
        rintro e w1 ⟨rfl, hb1⟩
        go_wp2_with fail
        go_ret
        exact ⟨by rw [HW.out]; rfl, hB.trans (hb1.mono (by omega))⟩
    · by_cases hc : Gate.wholeHolds o = true
      · have HV : Hid (wholeErr (Gate.wholeHolds o) = .nilIface) := by unfold Hid; rw [hc]; rfl
        have HS : Hid (stage ss o (1 + 1) = true) := by
          have h0 := HStg.out
          simp only [stage] at h0 ⊢
          simp [h0, hc, Hid]
        clear hc
        go_wp2_with fail
        refine (as_ret HV.out (checkHolds_any _ _ _ _ _ _ _ _ _ hor)).mono ?_
        rintro e w1 ⟨rfl, hb1⟩
        go_wp2_with fail
        exact ⟨⟨1 + 1, by omega, by rfl, HS.out, hBr.trans (hb1.mono (by omega))⟩, by simp [intOf]⟩
      · have hc' : (Gate.wholeHolds o) = false := by simpa using hc
        have HV : Hid (wholeErr (Gate.wholeHolds o) = .iface 68 (.agg #[.int .i64 1, .int .i64 0])) := by unfold Hid; rw [hc']; rfl
        have HW : Hid (errO ss o = .iface 68 (.agg #[.int .i64 1, .int .i64 0])) := errO_not (by unfold Gate.whole; rw [hc']; simp)
        clear hc hc'
        go_wp2_with fail
        refine (as_ret HV.out (checkHolds_any _ _ _ _ _ _ _ _ _ hor)).mono ?_
        rintro e w1 ⟨rfl, hb1⟩
        go_wp2_with fail
        go_ret
        exact ⟨by rw [HW.out]; rfl, hB.trans (hb1.mono (by omega))⟩
    · by_cases hc : Gate.wholeVersion o = true
      · have HV : Hid (wholeErr (Gate.wholeVersion o) = .nilIface) := by unfold Hid; rw [hc]; rfl
        have HS : Hid (stage ss o (2 + 1) = true) := by
          have h0 := HStg.out
          simp only [stage] at h0 ⊢
          simp [h0, hc, Hid]
        clear hc
        go_wp2_with fail
        refine (as_ret HV.out (checkVersion_any _ _ _ _ _ _ _ _ _)).mono ?_
        rintro e w1 ⟨rfl, hb1⟩
        go_wp2_with fail
        exact ⟨⟨2 + 1, by omega, by rfl, HS.out, hBr.trans (hb1.mono (by omega))⟩, by simp [intOf]⟩
      · have hc' : (Gate.wholeVersion o) = false := by simpa using hc
        have HV : Hid (wholeErr (Gate.wholeVersion o) = .iface 68 (.agg #[.int .i64 1, .int .i64 0])) := by unfold Hid; rw [hc']; rfl
        have HW : Hid (errO ss o = .iface 68 (.agg #[.int .i64 1, .int .i64 0])) := errO_not (by unfold Gate.whole; rw [hc']; simp)
        clear hc hc'
        go_wp2_with fail
        refine (as_ret HV.out (checkVersion_any _ _ _ _ _ _ _ _ _)).mono ?_
        rintro e w1 ⟨rfl, hb1⟩
        go_wp2_with fail
        go_ret
        exact ⟨by rw [HW.out]; rfl, hB.trans (hb1.mono (by omega))⟩
    · by_cases hc : Gate.wholeCount ss o = true
      · have HV : Hid (wholeErr (Gate.wholeCount ss o) = .nilIface) := by unfold Hid; rw [hc]; rfl
        have HS : Hid (stage ss o (3 + 1) = true) := by
          have h0 := HStg.out
          simp only [stage, Gate.whole] at h0 ⊢
          simp [h0, hc, Hid]
        clear hc
        go_wp2_with fail
        refine (as_ret HV.out (checkCount_any _ _ _ _ _ _ _ _ _ hwr hor)).mono ?_
        rintro e w1 ⟨rfl, hb1⟩
        go_wp2_with fail
        exact ⟨⟨3 + 1, by omega, by rfl, HS.out, hBr.trans (hb1.mono (by omega))⟩, by simp [intOf]⟩
      · have hc' : (Gate.wholeCount ss o) = false := by simpa using hc
        have HV : Hid (wholeErr (Gate.wholeCount ss o) = .iface 68 (.agg #[.int .i64 1, .int .i64 0])) := by unfold Hid; rw [hc']; rfl
        have HW : Hid (errO ss o = .iface 68 (.agg #[.int .i64 1, .int .i64 0])) := errO_not (by unfold Gate.whole; rw [hc']; simp)
        clear hc hc'
        go_wp2_with fail
        refine (as_ret HV.out (checkCount_any _ _ _ _ _ _ _ _ _ hwr hor)).mono ?_
        rintro e w1 ⟨rfl, hb1⟩
        go_wp2_with fail
        go_ret
        exact ⟨by rw [HW.out]; rfl, hB.trans (hb1.mono (by omega))⟩
    · have hwh : Gate.whole ss o = true := HStg.out
      have HW : Hid (errO ss o = errV (Gate.valRes (Gate.shapeOf ss o.kd).fs o.vs).1 (Gate.valRes (Gate.shapeOf ss o.kd).fs o.vs).2) := errO_whole hwh
      by_cases hc : (Gate.valRes (Gate.shapeOf ss o.kd).fs o.vs).1 = 0
      · have HV : Hid (errV (Gate.valRes (Gate.shapeOf ss o.kd).fs o.vs).1 (Gate.valRes (Gate.shapeOf ss o.kd).fs o.vs).2 = .nilIface) := by unfold Hid; rw [hc]; rfl
        have HS : Hid (stage ss o (4 + 1) = true) := by
          simp [stage, hwh, hc, Hid]
        have HCt : Hid (o.vs.length = (Gate.shapeOf ss o.kd).fs.length) := count_of_whole hwh
        clear hc hwh
        go_wp2_with fail
        refine (as_ret HV.out (checkValues_any _ _ _ _ _ _ _ _ _ hwr hor HCt.out)).mono ?_
        rintro e w1 ⟨rfl, hb1⟩
        go_wp2_with fail
        exact ⟨⟨4 + 1, by omega, by rfl, HS.out, hBr.trans (hb1.mono (by omega))⟩, by simp [intOf]⟩
      · have HV : Hid (errV (Gate.valRes (Gate.shapeOf ss o.kd).fs o.vs).1 (Gate.valRes (Gate.shapeOf ss o.kd).fs o.vs).2 = .iface 68 (.agg #[.int .i64 (Gate.valRes (Gate.shapeOf ss o.kd).fs o.vs).1, .int .i64 (Gate.valRes (Gate.shapeOf ss o.kd).fs o.vs).2])) := errV_of hc
        have HCt : Hid (o.vs.length = (Gate.shapeOf ss o.kd).fs.length) := count_of_whole hwh
        clear hc hwh
        go_wp2_with fail
        refine (as_ret HV.out (checkValues_any _ _ _ _ _ _ _ _ _ hwr hor HCt.out)).mono ?_
        rintro e w1 ⟨rfl, hb1⟩
        go_wp2_with fail
        go_ret
        exact ⟨by rw [HW.out, HV.out]; rfl, hB.trans (hb1.mono (by omega))⟩
    · have HW : Hid (errO ss o = .nilIface) := by
        have h0 := HStg.out
        simp only [stage, Bool.and_eq_true, decide_eq_true_eq] at h0
        unfold Hid; rw [errO_whole h0.1, h0.2]; rfl
      go_wp2_with fail
      go_ret
      exact ⟨by rw [HW.out]; rfl, hB⟩

end Go.Proofs.YthclaldbcfljfabGreatDoor
