import Derived.Test.YtfpeplbmfbepcaaGreatM34
namespace Go.Proofs.YtfpeplbmfbepcaaGreat
open Go.RowKit
theorem zcL {P : Program} {f : FuncId} {args : Array Value} {w : World} {v v' : Value} {R : World -> Prop} (hb : v = v') (h : Calls P f args w fun e w' => e = .returned v /\ R w') : Calls P f args w fun e w' => e = .returned v' /\ R w' := by
  subst hb; exact h
def stage (ss : List Shp) (o : Ob) : Nat -> Bool
  | 0 => true
  | 1 => Gate.y5 o
  | 2 => Gate.y5 o && Gate.qx o
  | 3 => Gate.y5 o && Gate.qx o && Gate.yQ o
  | 4 => Gate.whole ss o
  | _ => Gate.whole ss o && decide ((Gate.qZ (Gate.shapeOf ss o.kd).fs o.vs).1 = 0)
def zfG (ss : List Shp) (o : Ob) : Value := zkN (Gate.yu ss o).1 (Gate.yu ss o).2
theorem zfr {ss : List Shp} {o : Ob} (h : Gate.whole ss o = false) : zfG ss o = .iface 279 (.agg #[.int .i64 1, .int .i64 0]) := by
  unfold zfG Gate.yu; rw [h]; rfl
theorem ziH {ss : List Shp} {o : Ob} (h : Gate.whole ss o = true) : zfG ss o = zkN (Gate.qZ (Gate.shapeOf ss o.kd).fs o.vs).1 (Gate.qZ (Gate.shapeOf ss o.kd).fs o.vs).2 := by
  unfold zfG Gate.yu; rw [if_pos h]
theorem zd6 {ss : List Shp} {o : Ob} (h : Gate.whole ss o = true) : o.vs.length = (Gate.shapeOf ss o.kd).fs.length := by
  unfold Gate.whole Gate.zo at h
  simp only [Bool.and_eq_true, decide_eq_true_eq] at h
  exact h.2.2
set_option maxHeartbeats 4000000 in
theorem zhR (a0 : Option Addr) (cap0 : Nat) (ss : List Shp) (o : Ob) (a a' : Option Addr) (cap cap' : Nat) (w : World) (hw : yI w a0 ss) (ho : qR w o a a') :
    Calls Tryz.prog 195 #[.slice a0 ss.length cap0, .agg (oC o a a' cap cap')] w
      fun e w' => e = .returned (zfG ss o) /\ Below w.heap.size w w' := by
  go_enter Tryz.func195, Tryz.ntmps195
  go_wp2_with fail
  go_loopw [10] (fun i wr => ∃ k : Nat, k <= 5 /\ i = .int .i64 k /\ stage ss o k = true /\ Below (w.heap.size + 1 + 1) ((w.alloc (.cells (oC o a a' cap cap') 119)).alloc (.cells #[.func (.func 209) #[] #[], .func (.func 210) #[] #[], .func (.func 211) #[] #[], .func (.func 212) #[] #[], .func (.func 213) #[] #[]] 271)) wr) (fun i _ => 5 - (intOf i).toNat)
  case atStart => exact ⟨0, Nat.zero_le _, rfl, rfl, Below.refl _ _⟩
  case round =>
    obtain ⟨k, hk, rfl, hstg, hBr⟩ := hrel
    have HStg := hid hstg
    clear hstg
    have hszr : w.heap.size + 1 < wr.heap.size := by have := hBr.size; simp at this; omega
    have hB : Below w.heap.size w wr := (zn _ _ _).trans (hBr.mono (by omega))
    have hX : ∀ j, wr.cell? ⟨w.heap.size, j, none⟩ = (oC o a a' cap cap')[j]? := fun j => (hBr.cell (p := ⟨w.heap.size, j, none⟩) (by simp; omega)).trans (by rw [World.cell?_alloc_lt _ _ ⟨w.heap.size, j, none⟩ (by simp)]; exact zG w _ _ j)
    have hF : ∀ j, wr.cell? ⟨w.heap.size + 1, j, none⟩ = (#[.func (.func 209) #[] #[], .func (.func 210) #[] #[], .func (.func 211) #[] #[], .func (.func 212) #[] #[], .func (.func 213) #[] #[]] : Array Value)[j]? := fun j => (hBr.cell (p := ⟨w.heap.size + 1, j, none⟩) (by simp)).trans (by rw [World.cell?_alloc_at _ _ _ _ (by simp)])
    have hor := ho.mono hB
    have hwr := hw.mono hB
    have hcases : k = 0 \/ k = 1 \/ k = 2 \/ k = 3 \/ k = 4 \/ k = 5 := by omega
    rcases hcases with rfl | rfl | rfl | rfl | rfl | rfl
    · by_cases hc : Gate.y5 o = true
      · have HV : Hid (qU (Gate.y5 o) = .nilIface) := by unfold Hid; rw [hc]; rfl
        have HS : Hid (stage ss o (0 + 1) = true) := by
          have h0 := HStg.out
          simp only [stage] at h0 ⊢
          simp [hc, Hid]
        clear hc
        go_wp2_with fail
        refine (zcL HV.out (zei _ _ _ _ _ _ _ _ _ hor)).mono ?_
        rintro e w1 ⟨rfl, hb1⟩
        go_wp2_with fail
        exact ⟨⟨0 + 1, by omega, by rfl, HS.out, hBr.trans (hb1.mono (by omega))⟩, by simp [intOf]⟩
      · have hc' : (Gate.y5 o) = false := by simpa using hc
        have HV : Hid (qU (Gate.y5 o) = .iface 279 (.agg #[.int .i64 1, .int .i64 0])) := by unfold Hid; rw [hc']; rfl
        have HW : Hid (zfG ss o = .iface 279 (.agg #[.int .i64 1, .int .i64 0])) := zfr (by unfold Gate.whole; rw [hc']; simp)
        clear hc hc'
        go_wp2_with fail
        refine (zcL HV.out (zei _ _ _ _ _ _ _ _ _ hor)).mono ?_
        rintro e w1 ⟨rfl, hb1⟩
        go_wp2_with fail
        go_ret
        exact ⟨by rw [HW.out]; rfl, hB.trans (hb1.mono (by omega))⟩
    · by_cases hc : Gate.qx o = true
      · have HV : Hid (qU (Gate.qx o) = .nilIface) := by unfold Hid; rw [hc]; rfl
        have HS : Hid (stage ss o (1 + 1) = true) := by
          have h0 := HStg.out
          simp only [stage] at h0 ⊢
          simp [h0, hc, Hid]
        clear hc
        go_wp2_with fail
        refine (zcL HV.out (zeh _ _ _ _ _ _ _ _ _ hor)).mono ?_
        rintro e w1 ⟨rfl, hb1⟩
        go_wp2_with fail
        exact ⟨⟨1 + 1, by omega, by rfl, HS.out, hBr.trans (hb1.mono (by omega))⟩, by simp [intOf]⟩
      · have hc' : (Gate.qx o) = false := by simpa using hc
        have HV : Hid (qU (Gate.qx o) = .iface 279 (.agg #[.int .i64 1, .int .i64 0])) := by unfold Hid; rw [hc']; rfl
        have HW : Hid (zfG ss o = .iface 279 (.agg #[.int .i64 1, .int .i64 0])) := zfr (by unfold Gate.whole; rw [hc']; simp)
        clear hc hc'
        go_wp2_with fail
        refine (zcL HV.out (zeh _ _ _ _ _ _ _ _ _ hor)).mono ?_
        rintro e w1 ⟨rfl, hb1⟩
        go_wp2_with fail
        go_ret
        exact ⟨by rw [HW.out]; rfl, hB.trans (hb1.mono (by omega))⟩
    · by_cases hc : Gate.yQ o = true
      · have HV : Hid (qU (Gate.yQ o) = .nilIface) := by unfold Hid; rw [hc]; rfl
        have HS : Hid (stage ss o (2 + 1) = true) := by
          have h0 := HStg.out
          simp only [stage] at h0 ⊢
          simp [h0, hc, Hid]
        clear hc
        go_wp2_with fail
        refine (zcL HV.out (zcR _ _ _ _ _ _ _ _ _)).mono ?_
        rintro e w1 ⟨rfl, hb1⟩
        go_wp2_with fail
        exact ⟨⟨2 + 1, by omega, by rfl, HS.out, hBr.trans (hb1.mono (by omega))⟩, by simp [intOf]⟩
      · have hc' : (Gate.yQ o) = false := by simpa using hc
        have HV : Hid (qU (Gate.yQ o) = .iface 279 (.agg #[.int .i64 1, .int .i64 0])) := by unfold Hid; rw [hc']; rfl
        have HW : Hid (zfG ss o = .iface 279 (.agg #[.int .i64 1, .int .i64 0])) := zfr (by unfold Gate.whole; rw [hc']; simp)
        clear hc hc'
        go_wp2_with fail
        refine (zcL HV.out (zcR _ _ _ _ _ _ _ _ _)).mono ?_
        rintro e w1 ⟨rfl, hb1⟩
        go_wp2_with fail
        go_ret
        exact ⟨by rw [HW.out]; rfl, hB.trans (hb1.mono (by omega))⟩
    · by_cases hc : Gate.zo ss o = true
      · have HV : Hid (qU (Gate.zo ss o) = .nilIface) := by unfold Hid; rw [hc]; rfl
        have HS : Hid (stage ss o (3 + 1) = true) := by
          have h0 := HStg.out
          simp only [stage, Gate.whole] at h0 ⊢
          simp [h0, hc, Hid]
        clear hc
        go_wp2_with fail
        refine (zcL HV.out (zeg _ _ _ _ _ _ _ _ _ hwr hor)).mono ?_
        rintro e w1 ⟨rfl, hb1⟩
        go_wp2_with fail
        exact ⟨⟨3 + 1, by omega, by rfl, HS.out, hBr.trans (hb1.mono (by omega))⟩, by simp [intOf]⟩
      · have hc' : (Gate.zo ss o) = false := by simpa using hc
        have HV : Hid (qU (Gate.zo ss o) = .iface 279 (.agg #[.int .i64 1, .int .i64 0])) := by unfold Hid; rw [hc']; rfl
        have HW : Hid (zfG ss o = .iface 279 (.agg #[.int .i64 1, .int .i64 0])) := zfr (by unfold Gate.whole; rw [hc']; simp)
        clear hc hc'
        go_wp2_with fail
        refine (zcL HV.out (zeg _ _ _ _ _ _ _ _ _ hwr hor)).mono ?_
        rintro e w1 ⟨rfl, hb1⟩
        go_wp2_with fail
        go_ret
        exact ⟨by rw [HW.out]; rfl, hB.trans (hb1.mono (by omega))⟩
    · have hwh : Gate.whole ss o = true := HStg.out
      have HW : Hid (zfG ss o = zkN (Gate.qZ (Gate.shapeOf ss o.kd).fs o.vs).1 (Gate.qZ (Gate.shapeOf ss o.kd).fs o.vs).2) := ziH hwh
      by_cases hc : (Gate.qZ (Gate.shapeOf ss o.kd).fs o.vs).1 = 0
      · have HV : Hid (zkN (Gate.qZ (Gate.shapeOf ss o.kd).fs o.vs).1 (Gate.qZ (Gate.shapeOf ss o.kd).fs o.vs).2 = .nilIface) := by unfold Hid; rw [hc]; rfl
        have HS : Hid (stage ss o (4 + 1) = true) := by
          simp [stage, hwh, hc, Hid]
        have HCt : Hid (o.vs.length = (Gate.shapeOf ss o.kd).fs.length) := zd6 hwh
        clear hc hwh
        go_wp2_with fail
        refine (zcL HV.out (zdP _ _ _ _ _ _ _ _ _ hwr hor HCt.out)).mono ?_
        rintro e w1 ⟨rfl, hb1⟩
        go_wp2_with fail
        exact ⟨⟨4 + 1, by omega, by rfl, HS.out, hBr.trans (hb1.mono (by omega))⟩, by simp [intOf]⟩
      · have HV : Hid (zkN (Gate.qZ (Gate.shapeOf ss o.kd).fs o.vs).1 (Gate.qZ (Gate.shapeOf ss o.kd).fs o.vs).2 = .iface 279 (.agg #[.int .i64 (Gate.qZ (Gate.shapeOf ss o.kd).fs o.vs).1, .int .i64 (Gate.qZ (Gate.shapeOf ss o.kd).fs o.vs).2])) := zlq hc
        have HCt := hid (zd6 hwh)
        clear hc hwh
        go_wp2_with fail
        refine (zcL HV.out (zdP _ _ _ _ _ _ _ _ _ hwr hor HCt.out)).mono ?_
        rintro e w1 ⟨rfl, hb1⟩
        go_wp2_with fail
        go_ret
        exact ⟨by rw [HW.out, HV.out]; rfl, hB.trans (hb1.mono (by omega))⟩
    · have HW : Hid (zfG ss o = .nilIface) := by
        have h0 := HStg.out
        simp only [stage, Bool.and_eq_true, decide_eq_true_eq] at h0
        unfold Hid; rw [ziH h0.1, h0.2]; rfl
      go_wp2_with fail
      go_ret
      exact ⟨by rw [HW.out]; rfl, hB⟩
end Go.Proofs.YtfpeplbmfbepcaaGreat
