import Derived.Test.YtnacbdhibmaefaaGreatDoorM11
import Derived.Test.YtnacbdhibmaefaaGreatDoorProg
import Derived.WalkKit
import Derived.LaidEql
import Derived.Stop.Asserts
import Derived.RowKitTokens
namespace Go.Proofs.YtnacbdhibmaefaaGreatDoor
open Go.RowKit

set_option maxHeartbeats 4000000 in
theorem checkFixed_any (kd : ByteArray) (fa : Option Addr) (fs : List Fld) (fcap : Nat) (old o : Ob) (a a' b b' : Option Addr) (cap cap' dap dap' : Nat) (w : World) (hfl : FldsAt w fa fs) (ho : ObAt w old a a') (hn : ObAt w o b b') (hc : old.vs.length = fs.length) (hd : o.vs.length = fs.length) :
    Calls Tryz.prog 35 #[.agg #[.string kd, .slice fa fs.length fcap], .agg #[.string old.kd, .string old.nm, .string old.tm, .slice a old.vs.length cap, .bool old.en, .slice a' old.hs.length cap', .int .i64 old.vr], .agg #[.string o.kd, .string o.nm, .string o.tm, .slice b o.vs.length dap, .bool o.en, .slice b' o.hs.length dap', .int .i64 o.vr]] w
      fun e w' => e = .returned (errV (Gate.fixRes fs old.vs o.vs).1 (Gate.fixRes fs old.vs o.vs).2) ∧ Below w.heap.size w w' := by
  have HC : Hid (old.vs.length = fs.length) := hc
  have HD : Hid (o.vs.length = fs.length) := hd
  clear hc hd
  have hlen := hfl.len
  unfold maxLen at hlen
  go_enter Tryz.func35, Tryz.ntmps35
  go_wp2_with fail
  go_loopw [12] (fun i wr => ∃ k : Nat, k ≤ fs.length ∧ i = .int .i64 k ∧ Gate.up (Gate.fixOkAt fs old.vs o.vs) k = true ∧ Below (w.heap.size + 1 + 1 + 1) (((w.alloc (.cells #[.string kd, .slice fa fs.length fcap] 49)).alloc (.cells #[.string old.kd, .string old.nm, .string old.tm, .slice a old.vs.length cap, .bool old.en, .slice a' old.hs.length cap', .int .i64 old.vr] 32)).alloc (.cells #[.string o.kd, .string o.nm, .string o.tm, .slice b o.vs.length dap, .bool o.en, .slice b' o.hs.length dap', .int .i64 o.vr] 32)) wr) (fun i _ => fs.length - (intOf i).toNat)
  case atStart => exact ⟨0, Nat.zero_le _, rfl, rfl, Below.refl _ _⟩
  case round =>
    obtain ⟨k, hk, rfl, hup, hBr⟩ := hrel
    have hszr : w.heap.size + 1 + 1 < wr.heap.size := by have := hBr.size; simp at this; omega
    have hB : Below w.heap.size w wr := (below3' _ _ _ _).trans (hBr.mono (by omega))
    by_cases hlt : k < fs.length
    · have hXr : ∀ j, wr.cell? ⟨w.heap.size + 1, j, none⟩ = (#[.string old.kd, .string old.nm, .string old.tm, .slice a old.vs.length cap, .bool old.en, .slice a' old.hs.length cap', .int .i64 old.vr] : Array Value)[j]? := fun j => (hBr.cell (p := ⟨w.heap.size + 1, j, none⟩) (by simp)).trans (by
        rw [World.cell?_alloc_lt _ _ ⟨w.heap.size + 1, j, none⟩ (by simp)]
        simp)
      have hYr : ∀ j, wr.cell? ⟨w.heap.size + 1 + 1, j, none⟩ = (#[.string o.kd, .string o.nm, .string o.tm, .slice b o.vs.length dap, .bool o.en, .slice b' o.hs.length dap', .int .i64 o.vr] : Array Value)[j]? := fun j => (hBr.cell (p := ⟨w.heap.size + 1 + 1, j, none⟩) (by simp)).trans (by
        have h := box_new ((w.alloc (.cells #[.string kd, .slice fa fs.length fcap] 49)).alloc (.cells #[.string old.kd, .string old.nm, .string old.tm, .slice a old.vs.length cap, .bool old.en, .slice a' old.hs.length cap', .int .i64 old.vr] 32)) #[.string o.kd, .string o.nm, .string o.tm, .slice b o.vs.length dap, .bool o.en, .slice b' o.hs.length dap', .int .i64 o.vr] 32 j
        simpa using h)
      obtain ⟨c, off, rfl, hb, hr⟩ := hfl.rows (by rintro rfl; simp at hlt)
      obtain ⟨wa, wcap, hf0⟩ := hr k hlt
      have hf := hf0.mono hb hB
      obtain ⟨c0, c1, c2, c3, c4, c5, c6, c7, c8, c9, c10⟩ := hf.load
      have hltv : k < old.vs.length := by rw [HC.out]; exact hlt
      have hltu : k < o.vs.length := by rw [HD.out]; exact hlt
      obtain ⟨vb, voff, rfl, hvb, hvc⟩ := ho.vals.cells (by intro h; rw [h] at hltv; simp at hltv)
      obtain ⟨ub, uoff, rfl, hub, huc⟩ := hn.vals.cells (by intro h; rw [h] at hltu; simp at hltu)
      have hcv := (hB.cell (p := ⟨vb, voff + k, none⟩) hvb).trans (hvc k hltv)
      have hcu := (hB.cell (p := ⟨ub, uoff + k, none⟩) hub).trans (huc k hltu)
      have hltI : (k : Int) < (fs.length : Int) := by omega
      have hltV : (k : Int) < (old.vs.length : Int) := by omega
      have hltU : (k : Int) < (o.vs.length : Int) := by omega
      have hcr : c < wr.heap.size := by omega
      have hvr : vb < wr.heap.size := by omega
      have hur : ub < wr.heap.size := by omega
      have hwr1 : w.heap.size + 1 < wr.heap.size := by omega
      have HFX : Hid (Gate.fixOkAt fs old.vs o.vs k = Gate.fixOk fs[k] old.vs[k] o.vs[k]) := Gate.fixOkAt_eq hlt hltv hltu
      have HS : Hid (Gate.fixOk fs[k] old.vs[k] o.vs[k] = true → Gate.up (Gate.fixOkAt fs old.vs o.vs) (k + 1) = true) := fun h => by
        rw [Gate.up_succ, hup, HFX.out, h]; rfl
      have HN : Hid (Gate.fixOk fs[k] old.vs[k] o.vs[k] = false → errV (Gate.fixRes fs old.vs o.vs).1 (Gate.fixRes fs old.vs o.vs).2 = .iface 68 (.agg #[.int .i64 4, .int .i64 k])) := fun h => by
        rw [Gate.fixRes_at hlt hup (by rw [HFX.out, h])]; exact errV_of (c := 4) (by decide)
      clear hr hf0 hf hup
      have tv := Gate.beq_toList old.vs[k] o.vs[k]
      by_cases hfx : fs[k].fx = true
      rotate_left
      · have hfx' : fs[k].fx = false := by simpa using hfx
        have HU : Hid (Gate.fixOk fs[k] old.vs[k] o.vs[k] = true) := by unfold Hid Gate.fixOk; rw [hfx']; rfl
        clear hfx tv
        go_wp2_with fail
        go_quiet (fail)
        go_wp2_with fail
        exact ⟨⟨k + 1, by omega, by go_num, HS.out HU.out, below_drewN (hBr.alloc (by omega) _) _⟩, by simp [intOf]; omega⟩
      by_cases he : old.vs[k].size = 0
      · have hne : old.vs[k].toList.isEmpty = true := by rw [Gate.isEmpty_of_size]; simp [he]
        have HU : Hid (Gate.fixOk fs[k] old.vs[k] o.vs[k] = true) := by unfold Hid Gate.fixOk; rw [hfx, decide_eq_true he]; rfl
        clear he tv
        go_wp2_with fail
        go_quiet (fail)
        go_wp2_with fail
        exact ⟨⟨k + 1, by omega, by go_num, HS.out HU.out, below_drewN (hBr.alloc (by omega) _) _⟩, by simp [intOf]; omega⟩
      have hne : old.vs[k].toList.isEmpty = false := by rw [Gate.isEmpty_of_size]; simp [he]
      by_cases hq : old.vs[k] = o.vs[k]
      · have HU : Hid (Gate.fixOk fs[k] old.vs[k] o.vs[k] = true) := by unfold Hid Gate.fixOk; rw [hfx, decide_eq_true hq]; simp
        rw [decide_eq_true hq] at tv
        clear he hq
        go_wp2_with fail
        go_quiet (fail)
        go_wp2_with fail
        exact ⟨⟨k + 1, by omega, by go_num, HS.out HU.out, below_drewN (hBr.alloc (by omega) _) _⟩, by simp [intOf]; omega⟩
      · have HU : Hid (Gate.fixOk fs[k] old.vs[k] o.vs[k] = false) := by unfold Hid Gate.fixOk; rw [hfx, decide_eq_false hq, decide_eq_false he]; rfl
        rw [decide_eq_false hq] at tv
        clear he hq
        go_wp2_with fail
        go_quiet (fail)
        go_wp2_with fail
        go_ret
        exact ⟨by rw [HN.out HU.out]; rfl, below_drewN (hB.alloc (by omega) _) _⟩
    · have HF : Hid (Gate.fixRes fs old.vs o.vs = (0, 0)) := by
        have e : k = fs.length := by omega
        subst e; exact Gate.fixRes_none hup
      clear hup
      go_wp2_with fail
      go_ret
      exact ⟨by rw [HF.out]; rfl, hB⟩

end Go.Proofs.YtnacbdhibmaefaaGreatDoor

namespace Go.Proofs.YtnacbdhibmaefaaGreatDoor
open Go.RowKit

theorem as_ret {P : Program} {f : FuncId} {args : Array Value} {w : World} {v v' : Value} {R : World → Prop} (hb : v = v') (h : Calls P f args w fun e w' => e = .returned v ∧ R w') : Calls P f args w fun e w' => e = .returned v' ∧ R w' := by
  subst hb; exact h

/-- The first k looks found nothing. -/
def stage (ss : List Shp) (o : Ob) : Nat → Bool
  | 0 => true
  | 1 => Gate.wholeNames o
  | 2 => Gate.wholeNames o && Gate.wholeHolds o
  | 3 => Gate.wholeNames o && Gate.wholeHolds o && Gate.wholeVersion o
  | 4 => Gate.whole ss o
  | _ => Gate.whole ss o && decide ((Gate.valRes (Gate.shapeOf ss o.kd).fs o.vs).1 = 0)

def errO (ss : List Shp) (o : Ob) : Value := errV (Gate.checkRes ss o).1 (Gate.checkRes ss o).2

theorem errO_not {ss : List Shp} {o : Ob} (h : Gate.whole ss o = false) : errO ss o = .iface 68 (.agg #[.int .i64 1, .int .i64 0]) := by
  unfold errO Gate.checkRes; rw [h]; rfl
theorem errO_whole {ss : List Shp} {o : Ob} (h : Gate.whole ss o = true) : errO ss o = errV (Gate.valRes (Gate.shapeOf ss o.kd).fs o.vs).1 (Gate.valRes (Gate.shapeOf ss o.kd).fs o.vs).2 := by
  unfold errO Gate.checkRes; rw [if_pos h]
theorem count_of_whole {ss : List Shp} {o : Ob} (h : Gate.whole ss o = true) : o.vs.length = (Gate.shapeOf ss o.kd).fs.length := by
  unfold Gate.whole Gate.wholeCount at h
  simp only [Bool.and_eq_true, decide_eq_true_eq] at h
  exact h.2.2

set_option maxHeartbeats 4000000 in
theorem objectError_any (a0 : Option Addr) (cap0 : Nat) (ss : List Shp) (o : Ob) (a a' : Option Addr) (cap cap' : Nat) (w : World) (hw : ShpsAt w a0 ss) (ho : ObAt w o a a') :
    Calls Tryz.prog 32 #[.slice a0 ss.length cap0, .agg #[.string o.kd, .string o.nm, .string o.tm, .slice a o.vs.length cap, .bool o.en, .slice a' o.hs.length cap', .int .i64 o.vr]] w
      fun e w' => e = .returned (errO ss o) ∧ Below w.heap.size w w' := by
  go_enter Tryz.func32, Tryz.ntmps32
  go_wp2_with fail
  go_loopw [10] (fun i wr => ∃ k : Nat, k ≤ 5 ∧ i = .int .i64 k ∧ stage ss o k = true ∧ Below (w.heap.size + 1 + 1) ((w.alloc (.cells #[.string o.kd, .string o.nm, .string o.tm, .slice a o.vs.length cap, .bool o.en, .slice a' o.hs.length cap', .int .i64 o.vr] 32)).alloc (.cells #[.func (.func 55) #[] #[], .func (.func 56) #[] #[], .func (.func 57) #[] #[], .func (.func 58) #[] #[], .func (.func 59) #[] #[]] 107)) wr) (fun i _ => 5 - (intOf i).toNat)
  case atStart => exact ⟨0, Nat.zero_le _, rfl, rfl, Below.refl _ _⟩
  case round =>
    obtain ⟨k, hk, rfl, hstg, hBr⟩ := hrel
    have HStg : Hid (stage ss o k = true) := hstg
    clear hstg
    have hszr : w.heap.size + 1 < wr.heap.size := by have := hBr.size; simp at this; omega
    have hB : Below w.heap.size w wr := (below2' _ _ _).trans (hBr.mono (by omega))
    have hX : ∀ j, wr.cell? ⟨w.heap.size, j, none⟩ = (#[.string o.kd, .string o.nm, .string o.tm, .slice a o.vs.length cap, .bool o.en, .slice a' o.hs.length cap', .int .i64 o.vr] : Array Value)[j]? := fun j => (hBr.cell (p := ⟨w.heap.size, j, none⟩) (by simp; omega)).trans (by rw [World.cell?_alloc_lt _ _ ⟨w.heap.size, j, none⟩ (by simp)]; exact box_new w _ _ j)
    have hF : ∀ j, wr.cell? ⟨w.heap.size + 1, j, none⟩ = (#[.func (.func 55) #[] #[], .func (.func 56) #[] #[], .func (.func 57) #[] #[], .func (.func 58) #[] #[], .func (.func 59) #[] #[]] : Array Value)[j]? := fun j => (hBr.cell (p := ⟨w.heap.size + 1, j, none⟩) (by simp)).trans (by rw [World.cell?_alloc_at _ _ _ _ (by simp)])
    have hor := ho.mono hB
    have hwr := hw.mono hB
    have hcases : k = 0 ∨ k = 1 ∨ k = 2 ∨ k = 3 ∨ k = 4 ∨ k = 5 := by omega
    rcases hcases with rfl | rfl | rfl | rfl | rfl | rfl
    · by_cases hc : Gate.wholeNames o = true
      · have HV : Hid (wholeErr (Gate.wholeNames o) = .nilIface) := by unfold Hid; rw [hc]; rfl
        have HS : Hid (stage ss o (0 + 1) = true) := by
          have h0 := HStg.out
          simp only [stage] at h0 ⊢
          simp [hc, Hid]
        clear hc
        go_wp2_with fail
        refine (as_ret HV.out (checkNames_any _ _ _ _ _ _ _ _ _ hor)).mono ?_
        rintro e w1 ⟨rfl, hb1⟩
        go_wp2_with fail
        exact ⟨⟨0 + 1, by omega, by rfl, HS.out, hBr.trans (hb1.mono (by omega))⟩, by simp [intOf]⟩
      · have hc' : (Gate.wholeNames o) = false := by simpa using hc
        have HV : Hid (wholeErr (Gate.wholeNames o) = .iface 68 (.agg #[.int .i64 1, .int .i64 0])) := by unfold Hid; rw [hc']; rfl
        have HW : Hid (errO ss o = .iface 68 (.agg #[.int .i64 1, .int .i64 0])) := errO_not (by unfold Gate.whole; rw [hc']; simp)
        clear hc hc'
        go_wp2_with fail
        refine (as_ret HV.out (checkNames_any _ _ _ _ _ _ _ _ _ hor)).mono ?_
        rintro e w1 ⟨rfl, hb1⟩
        go_wp2_with fail
        go_ret
        exact ⟨by rw [HW.out]; rfl, hB.trans (hb1.mono (by omega))⟩
    · by_cases hc : Gate.wholeHolds o = true
      · have HV : Hid (wholeErr (Gate.wholeHolds o) = .nilIface) := by unfold Hid; rw [hc]; rfl
        have HS : Hid (stage ss o (1 + 1) = true) := by
          have h0 := HStg.out
          simp only [stage] at h0 ⊢
          simp [h0, hc, Hid]
        clear hc
        go_wp2_with fail
        refine (as_ret HV.out (checkHolds_any _ _ _ _ _ _ _ _ _ hor)).mono ?_
        rintro e w1 ⟨rfl, hb1⟩
        go_wp2_with fail
        exact ⟨⟨1 + 1, by omega, by rfl, HS.out, hBr.trans (hb1.mono (by omega))⟩, by simp [intOf]⟩
      · have hc' : (Gate.wholeHolds o) = false := by simpa using hc
        have HV : Hid (wholeErr (Gate.wholeHolds o) = .iface 68 (.agg #[.int .i64 1, .int .i64 0])) := by unfold Hid; rw [hc']; rfl
        have HW : Hid (errO ss o = .iface 68 (.agg #[.int .i64 1, .int .i64 0])) := errO_not (by unfold Gate.whole; rw [hc']; simp)
        clear hc hc'
        go_wp2_with fail
        refine (as_ret HV.out (checkHolds_any _ _ _ _ _ _ _ _ _ hor)).mono ?_
        rintro e w1 ⟨rfl, hb1⟩
        go_wp2_with fail
        go_ret
        exact ⟨by rw [HW.out]; rfl, hB.trans (hb1.mono (by omega))⟩
    · by_cases hc : Gate.wholeVersion o = true
      · have HV : Hid (wholeErr (Gate.wholeVersion o) = .nilIface) := by unfold Hid; rw [hc]; rfl
        have HS : Hid (stage ss o (2 + 1) = true) := by
          have h0 := HStg.out
          simp only [stage] at h0 ⊢
          simp [h0, hc, Hid]
        clear hc
        go_wp2_with fail
        refine (as_ret HV.out (checkVersion_any _ _ _ _ _ _ _ _ _)).mono ?_
        rintro e w1 ⟨rfl, hb1⟩
        go_wp2_with fail
        exact ⟨⟨2 + 1, by omega, by rfl, HS.out, hBr.trans (hb1.mono (by omega))⟩, by simp [intOf]⟩
      · have hc' : (Gate.wholeVersion o) = false := by simpa using hc
        have HV : Hid (wholeErr (Gate.wholeVersion o) = .iface 68 (.agg #[.int .i64 1, .int .i64 0])) := by unfold Hid; rw [hc']; rfl
        have HW : Hid (errO ss o = .iface 68 (.agg #[.int .i64 1, .int .i64 0])) := errO_not (by unfold Gate.whole; rw [hc']; simp)
        clear hc hc'
        go_wp2_with fail
        refine (as_ret HV.out (checkVersion_any _ _ _ _ _ _ _ _ _)).mono ?_
        rintro e w1 ⟨rfl, hb1⟩
        go_wp2_with fail
        go_ret
        exact ⟨by rw [HW.out]; rfl, hB.trans (hb1.mono (by omega))⟩
    · by_cases hc : Gate.wholeCount ss o = true
      · have HV : Hid (wholeErr (Gate.wholeCount ss o) = .nilIface) := by unfold Hid; rw [hc]; rfl
        have HS : Hid (stage ss o (3 + 1) = true) := by
          have h0 := HStg.out
          simp only [stage, Gate.whole] at h0 ⊢
          simp [h0, hc, Hid]
        clear hc
        go_wp2_with fail
        refine (as_ret HV.out (checkCount_any _ _ _ _ _ _ _ _ _ hwr hor)).mono ?_
        rintro e w1 ⟨rfl, hb1⟩
        go_wp2_with fail
        exact ⟨⟨3 + 1, by omega, by rfl, HS.out, hBr.trans (hb1.mono (by omega))⟩, by simp [intOf]⟩
      · have hc' : (Gate.wholeCount ss o) = false := by simpa using hc
        have HV : Hid (wholeErr (Gate.wholeCount ss o) = .iface 68 (.agg #[.int .i64 1, .int .i64 0])) := by unfold Hid; rw [hc']; rfl
        have HW : Hid (errO ss o = .iface 68 (.agg #[.int .i64 1, .int .i64 0])) := errO_not (by unfold Gate.whole; rw [hc']; simp)
        clear hc hc'
        go_wp2_with fail
        refine (as_ret HV.out (checkCount_any _ _ _ _ _ _ _ _ _ hwr hor)).mono ?_
        rintro e w1 ⟨rfl, hb1⟩
        go_wp2_with fail
        go_ret
        exact ⟨by rw [HW.out]; rfl, hB.trans (hb1.mono (by omega))⟩
    · have hwh : Gate.whole ss o = true := HStg.out
      have HW : Hid (errO ss o = errV (Gate.valRes (Gate.shapeOf ss o.kd).fs o.vs).1 (Gate.valRes (Gate.shapeOf ss o.kd).fs o.vs).2) := errO_whole hwh
      by_cases hc : (Gate.valRes (Gate.shapeOf ss o.kd).fs o.vs).1 = 0
      · have HV : Hid (errV (Gate.valRes (Gate.shapeOf ss o.kd).fs o.vs).1 (Gate.valRes (Gate.shapeOf ss o.kd).fs o.vs).2 = .nilIface) := by unfold Hid; rw [hc]; rfl
        have HS : Hid (stage ss o (4 + 1) = true) := by
          simp [stage, hwh, hc, Hid]
        have HCt : Hid (o.vs.length = (Gate.shapeOf ss o.kd).fs.length) := count_of_whole hwh
        clear hc hwh
        go_wp2_with fail
        refine (as_ret HV.out (checkValues_any _ _ _ _ _ _ _ _ _ hwr hor HCt.out)).mono ?_
        rintro e w1 ⟨rfl, hb1⟩
        go_wp2_with fail
        exact ⟨⟨4 + 1, by omega, by rfl, HS.out, hBr.trans (hb1.mono (by omega))⟩, by simp [intOf]⟩
      · have HV : Hid (errV (Gate.valRes (Gate.shapeOf ss o.kd).fs o.vs).1 (Gate.valRes (Gate.shapeOf ss o.kd).fs o.vs).2 = .iface 68 (.agg #[.int .i64 (Gate.valRes (Gate.shapeOf ss o.kd).fs o.vs).1, .int .i64 (Gate.valRes (Gate.shapeOf ss o.kd).fs o.vs).2])) := errV_of hc
        have HCt : Hid (o.vs.length = (Gate.shapeOf ss o.kd).fs.length) := count_of_whole hwh
        clear hc hwh
        go_wp2_with fail
        refine (as_ret HV.out (checkValues_any _ _ _ _ _ _ _ _ _ hwr hor HCt.out)).mono ?_
        rintro e w1 ⟨rfl, hb1⟩
        go_wp2_with fail
        go_ret
        exact ⟨by rw [HW.out, HV.out]; rfl, hB.trans (hb1.mono (by omega))⟩
    · have HW : Hid (errO ss o = .nilIface) := by
        have h0 := HStg.out
        simp only [stage, Bool.and_eq_true, decide_eq_true_eq] at h0
        unfold Hid; rw [errO_whole h0.1, h0.2]; rfl
      go_wp2_with fail
      go_ret
      exact ⟨by rw [HW.out]; rfl, hB⟩

end Go.Proofs.YtnacbdhibmaefaaGreatDoor

namespace Go.Proofs.YtnacbdhibmaefaaGreatDoor.Told
open Go.RowKit Go.Extern.Stop Go.Stop Go.Extern

theorem as_nil (t : Value) (w : World) :
    Calls Tryz.prog 31 #[.nilIface, t] w fun e w' => e = .returned (.bool false) ∧ w' = w := by
  go_enter Tryz.func31, Tryz.ntmps31
  go_wp2
  go_ret
  exact ⟨rfl, rfl⟩

/-- The Value of a pointer to a fault, and of a fault. -/
def vPtr (a : Addr) : Value := .agg #[.pointer (some ⟨1, 70, none⟩), .pointer (some a), .int .u64 150]
def vFault (a : Addr) : Value := .agg #[.pointer (some ⟨1, 68, none⟩), .pointer (some a), .int .u64 153]
def vVar (a : Addr) : Value := .agg #[.pointer (some ⟨1, 68, none⟩), .pointer (some a), .int .u64 409]

theorem valueOfP (t : Addr) (w : World) : (ReflectliteValue.unpack (.iface 70 (.pointer (some t)))).run Tryz.prog w
    = .ok (.agg #[.pointer (some ⟨1, 70, none⟩), .pointer (some ⟨w.heap.size, 0, none⟩), .int .u64 150]) (w.alloc (.cells #[.pointer (some t)] 70)) := by kernel_rfl
theorem typeP (a : Addr) (w : World) : (ReflectliteValue.methodAny (ReflectliteValue.valueError "reflectlite.Value.Type" 0) (fun t _ _ _ => ReflectliteType.toType t) #[.agg #[.pointer (some ⟨1, 70, none⟩), .pointer (some a), .int .u64 150]]).run Tryz.prog w
    = .ok (.iface 117 (.agg #[.pointer (some ⟨1, 70, none⟩)])) w := by kernel_rfl
theorem methodKind (h : Value) (w : World) : (Go.method 267 117 (.agg #[h]) "Kind").run Tryz.prog w = .ok (88, h) w := by kernel_rfl
theorem kindP (w : World) : ((ReflectliteType.abiMethod fun t => (fun a : Nat => Value.int IntKind.u8 (a : Int)) <$> Rtype.kind t) #[.pointer (some ⟨1, 70, none⟩)]).run Tryz.prog w = .ok (.int .u8 22) w := by kernel_rfl
theorem kindE (w : World) : ((ReflectliteType.abiMethod fun t => (fun a : Nat => Value.int IntKind.u8 (a : Int)) <$> Rtype.kind t) #[.pointer (some ⟨1, 68, none⟩)]).run Tryz.prog w = .ok (.int .u8 25) w := by kernel_rfl

theorem partsP (a : Addr) (w : World) : (ReflectliteValue.parts (.agg #[.pointer (some ⟨1, 70, none⟩), .pointer (some a), .int .u64 150])).run Tryz.prog w = .ok (some (70, a, 150)) w := by kernel_rfl
theorem isNilP (a p : Addr) (W : World) (ha : W.cell? a = some (.pointer (some p))) :
    (ReflectliteValue.method (ReflectliteValue.valueError "reflectlite.Value.IsNil" 0) ReflectliteValue.isNil #[.agg #[.pointer (some ⟨1, 70, none⟩), .pointer (some a), .int .u64 150]]).run Tryz.prog W = .ok (.bool false) W := by
  show (bind (ReflectliteValue.parts (.agg #[.pointer (some ⟨1, 70, none⟩), .pointer (some a), .int .u64 150])) _).run _ _ = _
  rw [Sem.run_bind, partsP]
  simp only [Result.andThen]
  simp [ReflectliteValue.isNil, loadVar, isAgg, underlying, Tryz.underlying70, ha, Result.andThen]

theorem methodElem (h : Value) (w : World) : (Go.method 267 117 (.agg #[h]) "Elem").run Tryz.prog w = .ok (115, .agg #[h]) w := by kernel_rfl
theorem methodImplements (h : Value) (w : World) : (Go.method 267 117 (.agg #[h]) "Implements").run Tryz.prog w = .ok (116, .agg #[h]) w := by kernel_rfl
theorem methodAssignableTo (h : Value) (w : World) : (Go.method 267 117 (.agg #[h]) "AssignableTo").run Tryz.prog w = .ok (113, .agg #[h]) w := by kernel_rfl
theorem elemP (w : World) : (ReflectliteType.method ReflectliteType.elem #[.agg #[.pointer (some ⟨1, 70, none⟩)]]).run Tryz.prog w = .ok (.iface 117 (.agg #[.pointer (some ⟨1, 68, none⟩)])) w := by kernel_rfl
theorem implementsE (w : World) : (ReflectliteType.relation "Implements" ReflectliteType.implements_ #[.agg #[.pointer (some ⟨1, 68, none⟩)], .iface 117 (.agg #[.pointer (some ⟨1, 55, none⟩)])]).run Tryz.prog w = .ok (.bool true) w := by kernel_rfl
theorem typeOfE (v : Value) (w : World) : (ReflectliteType.typeOf #[.iface 68 v]).run Tryz.prog w = .ok (.iface 117 (.agg #[.pointer (some ⟨1, 68, none⟩)])) w := by kernel_rfl
theorem assignableE (w : World) : (ReflectliteType.relation "AssignableTo" ReflectliteType.assignableTo #[.agg #[.pointer (some ⟨1, 68, none⟩)], .iface 117 (.agg #[.pointer (some ⟨1, 68, none⟩)])]).run Tryz.prog w = .ok (.bool true) w := by kernel_rfl
theorem valueOfE (c p : Value) (w : World) : (ReflectliteValue.unpack (.iface 68 (.agg #[c, p]))).run Tryz.prog w
    = .ok (.agg #[.pointer (some ⟨1, 68, none⟩), .pointer (some ⟨w.heap.size, 0, none⟩), .int .u64 153]) (w.alloc (.cells #[c, p] 68)) := by kernel_rfl

theorem elemOfP (w : World) : (Rtype.elem? 70).run Tryz.prog w = .ok (some 68) w := by kernel_rfl
theorem mkE (p : Addr) (w : World) : (ReflectliteValue.mk 68 p ReflectliteValue.flagAddr).run Tryz.prog w = .ok (.agg #[.pointer (some ⟨1, 68, none⟩), .pointer (some p), .int .u64 409]) w := by kernel_rfl
theorem elemVP (a p : Addr) (W : World) (ha : W.cell? a = some (.pointer (some p))) :
    (ReflectliteValue.method (ReflectliteValue.valueError "reflectlite.Value.Elem" 0) ReflectliteValue.elem #[.agg #[.pointer (some ⟨1, 70, none⟩), .pointer (some a), .int .u64 150]]).run Tryz.prog W
      = .ok (.agg #[.pointer (some ⟨1, 68, none⟩), .pointer (some p), .int .u64 409]) W := by
  show (bind (ReflectliteValue.parts (.agg #[.pointer (some ⟨1, 70, none⟩), .pointer (some a), .int .u64 150])) _).run _ _ = _
  rw [Sem.run_bind, partsP]
  simp only [Result.andThen]
  simp [ReflectliteValue.elem, loadVar, isAgg, underlying, Tryz.underlying70, ha, Result.andThen, elemOfP, mkE]
theorem partsVar (a : Addr) (w : World) : (ReflectliteValue.parts (.agg #[.pointer (some ⟨1, 68, none⟩), .pointer (some a), .int .u64 409])).run Tryz.prog w = .ok (some (68, a, 409)) w := by kernel_rfl
theorem partsE (a : Addr) (w : World) : (ReflectliteValue.parts (.agg #[.pointer (some ⟨1, 68, none⟩), .pointer (some a), .int .u64 153])).run Tryz.prog w = .ok (some (68, a, 153)) w := by kernel_rfl
theorem directE (w : World) : (Rtype.directlyAssignable 68 68).run Tryz.prog w = .ok true w := by kernel_rfl
theorem sizeE (w : World) : (sizeOf 68).run Tryz.prog w = .ok 2 w := by kernel_rfl

theorem setE (bt bs : Nat) (c p : Int) (x y : Value) (W : World) (hb0 : W.cell? ⟨bs, 0, none⟩ = some (.int .i64 c)) (hb1 : W.cell? ⟨bs, 1, none⟩ = some (.int .i64 p)) (ht0 : W.cell? ⟨bt, 0, none⟩ = some x) (ht1 : W.cell? ⟨bt, 1, none⟩ = some y) (hf0 : W.frozen? ⟨bt, 0, none⟩ = false) (hf1 : W.frozen? ⟨bt, 1, none⟩ = false) :
    (ReflectliteValue.set #[.agg #[.pointer (some ⟨1, 68, none⟩), .pointer (some ⟨bt, 0, none⟩), .int .u64 409], .agg #[.pointer (some ⟨1, 68, none⟩), .pointer (some ⟨bs, 0, none⟩), .int .u64 153]]).run Tryz.prog W
      = .ok (.tuple #[]) ((W.setCell ⟨bt, 0, none⟩ (.int .i64 c)).setCell ⟨bt, 1, none⟩ (.int .i64 p)) := by
  show (bind (ReflectliteValue.parts (.agg #[.pointer (some ⟨1, 68, none⟩), .pointer (some ⟨bt, 0, none⟩), .int .u64 409])) _).run _ _ = _
  rw [Sem.run_bind, partsVar]
  simp only [Result.andThen]
  show (bind (ReflectliteValue.parts (.agg #[.pointer (some ⟨1, 68, none⟩), .pointer (some ⟨bs, 0, none⟩), .int .u64 153])) _).run _ _ = _
  rw [Sem.run_bind, partsE]
  simp only [Result.andThen]
  simp [ReflectliteValue.flagAddr, Result.andThen, directE]
  have hl : (loadVar 68 ⟨bs, 0, none⟩).run Tryz.prog W = .ok (.agg #[.int .i64 c, .int .i64 p]) W := by
    simp [loadVar, isAgg, underlying, Tryz.underlying68, hb0, hb1, Addr.add, Result.andThen, go_sem]
  have hs : (storeVar 68 ⟨bt, 0, none⟩ (.agg #[.int .i64 c, .int .i64 p])).run Tryz.prog W = .ok () ((W.setCell ⟨bt, 0, none⟩ (.int .i64 c)).setCell ⟨bt, 1, none⟩ (.int .i64 p)) := by
    have s0 : (store ⟨bt, 0, none⟩ (.int .i64 c)).run Tryz.prog W = .ok () (W.setCell ⟨bt, 0, none⟩ (.int .i64 c)) := by
      rw [run_store Tryz.prog W ⟨bt, 0, none⟩ _ _ (by rfl)]; simp [ht0, hf0]
    have ht1' : (W.setCell ⟨bt, 0, none⟩ (.int .i64 c)).cell? ⟨bt, 1, none⟩ = some y := (World.cell?_setCell_other _ _ _ _ (by simp)).trans ht1
    have s1 : (store ⟨bt, 1, none⟩ (.int .i64 p)).run Tryz.prog (W.setCell ⟨bt, 0, none⟩ (.int .i64 c)) = .ok () ((W.setCell ⟨bt, 0, none⟩ (.int .i64 c)).setCell ⟨bt, 1, none⟩ (.int .i64 p)) := by
      rw [run_store Tryz.prog _ ⟨bt, 1, none⟩ _ _ (by rfl), ht1']; simp [hf1]
    simp [storeVar, Value.cells, storeCells, Addr.add]
    rw [s0]
    simp only [Result.andThen]
    rw [s1]
  rw [hl]
  simp only []
  rw [hs]

set_option maxHeartbeats 4000000 in
theorem as_hit (c p : Int) (bt : Nat) (x y : Value) (w : World) (hg : w.cell? ⟨0, 0, none⟩ = some (.iface 117 (.agg #[.pointer (some ⟨1, 55, none⟩)]))) (hbt : bt < w.heap.size)
    (ht0 : w.cell? ⟨bt, 0, none⟩ = some x) (ht1 : w.cell? ⟨bt, 1, none⟩ = some y) (hf0 : w.frozen? ⟨bt, 0, none⟩ = false) (hf1 : w.frozen? ⟨bt, 1, none⟩ = false) :
    Calls Tryz.prog 31 #[.iface 68 (.agg #[.int .i64 c, .int .i64 p]), .iface 70 (.pointer (some ⟨bt, 0, none⟩))] w fun e w' => e = .returned (.bool true) ∧ w' = ((((((w.alloc (.cells #[.pointer (some ⟨bt, 0, none⟩)] 70)).alloc (.cells #[.pointer (some ⟨1, 70, none⟩), .pointer (some ⟨w.heap.size, 0, none⟩), .int .u64 150] 96)).alloc (.cells #[.pointer (some ⟨1, 70, none⟩), .pointer (some ⟨w.heap.size, 0, none⟩), .int .u64 150] 96)).alloc (.cells #[.int .i64 c, .int .i64 p] 68)).setCell ⟨bt, 0, none⟩ (.int .i64 c)).setCell ⟨bt, 1, none⟩ (.int .i64 p)) := by
  have xValueOf := @run_callFunc_extern Tryz.prog 51 _ (fun args => ReflectliteValue.unpack (args.getD 0 (.tuple #[]))) Tryz.func51 (by kernel_rfl) (by kernel_rfl) (by kernel_rfl) (by kernel_rfl)
  have xType := @run_callFunc_extern Tryz.prog 52 _ (ReflectliteValue.methodAny (ReflectliteValue.valueError "reflectlite.Value.Type" 0) (fun t _ _ _ => ReflectliteType.toType t)) Tryz.func52 (by kernel_rfl) (by kernel_rfl) (by kernel_rfl) (by kernel_rfl)
  have xIsNil := @run_callFunc_extern Tryz.prog 53 _ (ReflectliteValue.method (ReflectliteValue.valueError "reflectlite.Value.IsNil" 0) ReflectliteValue.isNil) Tryz.func53 (by kernel_rfl) (by kernel_rfl) (by kernel_rfl) (by kernel_rfl)
  have xKind := @run_callFunc_extern Tryz.prog 88 _ (ReflectliteType.abiMethod fun t => do pure (.int .u8 (← Rtype.kind t))) Tryz.func88 (by kernel_rfl) (by kernel_rfl) (by kernel_rfl) (by kernel_rfl)
  have xREl := @run_callFunc_extern Tryz.prog 115 _ (ReflectliteType.method ReflectliteType.elem) Tryz.func115 (by kernel_rfl) (by kernel_rfl) (by kernel_rfl) (by kernel_rfl)
  have xImpl := @run_callFunc_extern Tryz.prog 116 _ (ReflectliteType.relation "Implements" ReflectliteType.implements_) Tryz.func116 (by kernel_rfl) (by kernel_rfl) (by kernel_rfl) (by kernel_rfl)
  have xTypeOf := @run_callFunc_extern Tryz.prog 69 _ (ReflectliteType.typeOf) Tryz.func69 (by kernel_rfl) (by kernel_rfl) (by kernel_rfl) (by kernel_rfl)
  have xAsg := @run_callFunc_extern Tryz.prog 113 _ (ReflectliteType.relation "AssignableTo" ReflectliteType.assignableTo) Tryz.func113 (by kernel_rfl) (by kernel_rfl) (by kernel_rfl) (by kernel_rfl)
  have xVEl := @run_callFunc_extern Tryz.prog 70 _ (ReflectliteValue.method (ReflectliteValue.valueError "reflectlite.Value.Elem" 0) ReflectliteValue.elem) Tryz.func70 (by kernel_rfl) (by kernel_rfl) (by kernel_rfl) (by kernel_rfl)
  have xSet := @run_callFunc_extern Tryz.prog 71 _ (ReflectliteValue.set) Tryz.func71 (by kernel_rfl) (by kernel_rfl) (by kernel_rfl) (by kernel_rfl)
  have ytypeOfE := typeOfE
  have ymethodAssignableTo := methodAssignableTo
  have yassignableE := assignableE
  have yvalueOfE := valueOfE
  have yvalueOfP := valueOfP
  have ytypeP := typeP
  have ymethodKind := methodKind
  have ymethodElem := methodElem
  have ymethodImplements := methodImplements
  have ykindP := kindP
  have ykindE := kindE
  have yelemP := elemP
  have yimplementsE := implementsE
  have hlt : 0 < w.heap.size := by omega
  have n8 := isNilP ⟨w.heap.size, 0, none⟩ ⟨bt, 0, none⟩ ((w.alloc (.cells #[.pointer (some ⟨bt, 0, none⟩)] 70)).alloc (.cells #[.pointer (some ⟨1, 70, none⟩), .pointer (some ⟨w.heap.size, 0, none⟩), .int .u64 150] 96)) (by simp)
  have hg2 : ((w.alloc (.cells #[.pointer (some ⟨bt, 0, none⟩)] 70)).alloc (.cells #[.pointer (some ⟨1, 70, none⟩), .pointer (some ⟨w.heap.size, 0, none⟩), .int .u64 150] 96)).cell? ⟨0, 0, none⟩ = some (.iface 117 (.agg #[.pointer (some ⟨1, 55, none⟩)])) := by
    rw [World.cell?_alloc_lt _ _ ⟨0, 0, none⟩ (by simp), World.cell?_alloc_lt _ _ ⟨0, 0, none⟩ hlt]; exact hg
  have el := elemVP ⟨w.heap.size, 0, none⟩ ⟨bt, 0, none⟩ (((w.alloc (.cells #[.pointer (some ⟨bt, 0, none⟩)] 70)).alloc (.cells #[.pointer (some ⟨1, 70, none⟩), .pointer (some ⟨w.heap.size, 0, none⟩), .int .u64 150] 96)).alloc (.cells #[.pointer (some ⟨1, 70, none⟩), .pointer (some ⟨w.heap.size, 0, none⟩), .int .u64 150] 96)) (by rw [World.cell?_alloc_lt _ _ ⟨w.heap.size, 0, none⟩ (by simp; omega)]; simp)
  have old : ∀ j, ((((w.alloc (.cells #[.pointer (some ⟨bt, 0, none⟩)] 70)).alloc (.cells #[.pointer (some ⟨1, 70, none⟩), .pointer (some ⟨w.heap.size, 0, none⟩), .int .u64 150] 96)).alloc (.cells #[.pointer (some ⟨1, 70, none⟩), .pointer (some ⟨w.heap.size, 0, none⟩), .int .u64 150] 96)).alloc (.cells #[.int .i64 c, .int .i64 p] 68)).cell? ⟨bt, j, none⟩ = w.cell? ⟨bt, j, none⟩ := fun j => by
    rw [World.cell?_alloc_lt _ _ ⟨bt, j, none⟩ (by simp; omega), World.cell?_alloc_lt _ _ ⟨bt, j, none⟩ (by simp; omega), World.cell?_alloc_lt _ _ ⟨bt, j, none⟩ (by simp; omega), World.cell?_alloc_lt _ _ ⟨bt, j, none⟩ hbt]
  have oldf : ∀ j, ((((w.alloc (.cells #[.pointer (some ⟨bt, 0, none⟩)] 70)).alloc (.cells #[.pointer (some ⟨1, 70, none⟩), .pointer (some ⟨w.heap.size, 0, none⟩), .int .u64 150] 96)).alloc (.cells #[.pointer (some ⟨1, 70, none⟩), .pointer (some ⟨w.heap.size, 0, none⟩), .int .u64 150] 96)).alloc (.cells #[.int .i64 c, .int .i64 p] 68)).frozen? ⟨bt, j, none⟩ = w.frozen? ⟨bt, j, none⟩ := fun j => by
    rw [World.frozen?_alloc_old _ _ ⟨bt, j, none⟩ (by simp; omega), World.frozen?_alloc_old _ _ ⟨bt, j, none⟩ (by simp; omega), World.frozen?_alloc_old _ _ ⟨bt, j, none⟩ (by simp; omega), World.frozen?_alloc_old _ _ ⟨bt, j, none⟩ (by simp; omega)]
  have st := setE bt (w.heap.size + 1 + 1 + 1) c p x y ((((w.alloc (.cells #[.pointer (some ⟨bt, 0, none⟩)] 70)).alloc (.cells #[.pointer (some ⟨1, 70, none⟩), .pointer (some ⟨w.heap.size, 0, none⟩), .int .u64 150] 96)).alloc (.cells #[.pointer (some ⟨1, 70, none⟩), .pointer (some ⟨w.heap.size, 0, none⟩), .int .u64 150] 96)).alloc (.cells #[.int .i64 c, .int .i64 p] 68)) (by rw [World.cell?_alloc_at _ _ _ _ (by simp)]; rfl) (by rw [World.cell?_alloc_at _ _ _ _ (by simp)]; rfl) ((old 0).trans ht0) ((old 1).trans ht1) ((oldf 0).trans hf0) ((oldf 1).trans hf1)
  clear old oldf
  go_enter Tryz.func31, Tryz.ntmps31
  go_wp2
  refine wp_loop_rounds 1 ?_
  rw [rounds_succ]
  go_wp2
  go_ret
  exact ⟨rfl, rfl⟩

end Go.Proofs.YtnacbdhibmaefaaGreatDoor.Told
