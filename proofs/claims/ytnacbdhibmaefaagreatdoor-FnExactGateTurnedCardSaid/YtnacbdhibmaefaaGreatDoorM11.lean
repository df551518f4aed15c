import Derived.Test.YtnacbdhibmaefaaGreatDoorM10
import Derived.Test.YtnacbdhibmaefaaGreatDoorM07
import Derived.Deep.RegionWith
import Derived.Deep.QuietTactic
import Derived.BigQuiet
namespace Go.Proofs.YtnacbdhibmaefaaGreatDoor
open Go.RowKit

/-- An error of this program: nothing, or a code and a place. -/
def errV (c p : Int) : Value := if c = 0 then .nilIface else .iface 68 (.agg #[.int .i64 c, .int .i64 p])

theorem errV_zero (p : Int) : errV 0 p = .nilIface := rfl
theorem errV_one : errV 1 0 = .iface 68 (.agg #[.int .i64 1, .int .i64 0]) := rfl

set_option maxHeartbeats 400000 in
theorem wholeUnless_yes (w : World) : Calls Tryz.prog 60 #[.bool true] w fun e w' => e = .returned .nilIface ∧ w' = w := by
  go_enter Tryz.func60, Tryz.ntmps60
  go_wp2
  go_ret
  exact ⟨rfl, rfl⟩

set_option maxHeartbeats 400000 in
theorem wholeUnless_no (w : World) : Calls Tryz.prog 60 #[.bool false] w fun e w' => e = .returned (.iface 68 (.agg #[.int .i64 1, .int .i64 0])) ∧ w' = w := by
  go_enter Tryz.func60, Tryz.ntmps60
  go_wp2
  go_ret
  exact ⟨rfl, rfl⟩

def wholeErr (b : Bool) : Value := if b then .nilIface else .iface 68 (.agg #[.int .i64 1, .int .i64 0])

theorem wholeUnless_any (b : Bool) (w : World) : Calls Tryz.prog 60 #[.bool b] w fun e w' => e = .returned (wholeErr b) ∧ w' = w := by
  cases b
  · exact wholeUnless_no w
  · exact wholeUnless_yes w

theorem ret_err {a b : Bool} (h : a = b) : Ending.returned (wholeErr a) = .returned (wholeErr b) := by rw [h]

set_option maxHeartbeats 1000000 in
theorem checkNames_any (a0 : Option Addr) (cap0 : Nat) (ss : List Shp) (o : Ob) (a a' : Option Addr) (cap cap' : Nat) (w : World) (ho : ObAt w o a a') :
    Calls Tryz.prog 55 #[.slice a0 ss.length cap0, .agg #[.string o.kd, .string o.nm, .string o.tm, .slice a o.vs.length cap, .bool o.en, .slice a' o.hs.length cap', .int .i64 o.vr]] w fun e w' => e = .returned (wholeErr (Gate.wholeNames o)) ∧ Below w.heap.size w w' := by
  have h1 := ho.small.nm
  have h2 := ho.small.tm
  by_cases hn : Gate.nameOk o.nm = true
  · have HN : Hid (Gate.nameOk o.nm = true) := hn
    clear hn ho
    go_enter Tryz.func55, Tryz.ntmps55
    go_wp2_with fail
    refine (as_bool HN.out (isName_any _ _ h1)).mono ?_
    rintro e w1 ⟨rfl, rfl⟩
    go_wp2_with fail
    refine (isName_any _ _ h2).mono ?_
    rintro e w1 ⟨rfl, rfl⟩
    go_wp2_with fail
    refine (wholeUnless_any _ _).mono ?_
    rintro e w1 ⟨rfl, rfl⟩
    go_wp2_with fail
    go_ret
    exact ⟨ret_err (by unfold Gate.wholeNames; rw [HN.out]; rfl), (Below.refl _ _).alloc (Nat.le_refl _) _⟩
  · have HN : Hid (Gate.nameOk o.nm = false) := by simpa [Hid] using hn
    clear hn ho
    go_enter Tryz.func55, Tryz.ntmps55
    go_wp2_with fail
    refine (as_bool HN.out (isName_any _ _ h1)).mono ?_
    rintro e w1 ⟨rfl, rfl⟩
    go_wp2_with fail
    refine (wholeUnless_any _ _).mono ?_
    rintro e w1 ⟨rfl, rfl⟩
    go_wp2_with fail
    go_ret
    exact ⟨ret_err (a := false) (b := Gate.wholeNames o) (by unfold Gate.wholeNames; rw [HN.out]; rfl), (Below.refl _ _).alloc (Nat.le_refl _) _⟩

set_option maxHeartbeats 1000000 in
theorem checkHolds_any (a0 : Option Addr) (cap0 : Nat) (ss : List Shp) (o : Ob) (a a' : Option Addr) (cap cap' : Nat) (w : World) (ho : ObAt w o a a') :
    Calls Tryz.prog 56 #[.slice a0 ss.length cap0, .agg #[.string o.kd, .string o.nm, .string o.tm, .slice a o.vs.length cap, .bool o.en, .slice a' o.hs.length cap', .int .i64 o.vr]] w fun e w' => e = .returned (wholeErr (Gate.wholeHolds o)) ∧ Below w.heap.size w w' := by
  have hl := ho.holds.len
  unfold maxLen at hl
  by_cases h3 : o.hs.length ≤ 3
  · go_enter Tryz.func56, Tryz.ntmps56
    go_wp2_with fail
    refine (areAsc_any _ _ _ _ (ho.holds.mono ((Below.refl _ _).alloc (Nat.le_refl _) _))).mono ?_
    rintro e w1 ⟨rfl, rfl⟩
    go_wp2_with fail
    refine (wholeUnless_any _ _).mono ?_
    rintro e w1 ⟨rfl, rfl⟩
    go_wp2_with fail
    go_ret
    exact ⟨ret_err (by unfold Gate.wholeHolds; rw [decide_eq_true h3]; rfl), (Below.refl _ _).alloc (Nat.le_refl _) _⟩
  · go_enter Tryz.func56, Tryz.ntmps56
    go_wp2_with fail
    refine (wholeUnless_any _ _).mono ?_
    rintro e w1 ⟨rfl, rfl⟩
    go_wp2_with fail
    go_ret
    exact ⟨ret_err (a := false) (b := Gate.wholeHolds o) (by unfold Gate.wholeHolds; rw [decide_eq_false (show ¬ o.hs.length ≤ 3 by omega)]; rfl), (Below.refl _ _).alloc (Nat.le_refl _) _⟩

set_option maxHeartbeats 1000000 in
theorem checkVersion_any (a0 : Option Addr) (cap0 : Nat) (ss : List Shp) (o : Ob) (a a' : Option Addr) (cap cap' : Nat) (w : World) :
    Calls Tryz.prog 57 #[.slice a0 ss.length cap0, .agg #[.string o.kd, .string o.nm, .string o.tm, .slice a o.vs.length cap, .bool o.en, .slice a' o.hs.length cap', .int .i64 o.vr]] w fun e w' => e = .returned (wholeErr (Gate.wholeVersion o)) ∧ Below w.heap.size w w' := by
  by_cases h0 : 0 ≤ o.vr
  · have HV : Hid (Gate.wholeVersion o = decide (o.vr ≤ 1000000)) := by unfold Hid Gate.wholeVersion; rw [decide_eq_true h0]; rfl
    go_enter Tryz.func57, Tryz.ntmps57
    go_wp2_with (go_at_call 60; refine (wholeUnless_any _ _).mono ?_; rintro e w1 ⟨rfl, rfl⟩)
    go_ret
    exact ⟨ret_err HV.out.symm, (Below.refl _ _).alloc (Nat.le_refl _) _⟩
  · have HV : Hid (Gate.wholeVersion o = false) := by unfold Hid Gate.wholeVersion; rw [decide_eq_false h0]; rfl
    go_enter Tryz.func57, Tryz.ntmps57
    go_wp2_with (go_at_call 60; refine (wholeUnless_any _ _).mono ?_; rintro e w1 ⟨rfl, rfl⟩)
    go_ret
    exact ⟨ret_err HV.out.symm, (Below.refl _ _).alloc (Nat.le_refl _) _⟩

set_option maxHeartbeats 1000000 in
theorem checkCount_any (a0 : Option Addr) (cap0 : Nat) (ss : List Shp) (o : Ob) (a a' : Option Addr) (cap cap' : Nat) (w : World) (hw : ShpsAt w a0 ss) (_ho : ObAt w o a a') :
    Calls Tryz.prog 58 #[.slice a0 ss.length cap0, .agg #[.string o.kd, .string o.nm, .string o.tm, .slice a o.vs.length cap, .bool o.en, .slice a' o.hs.length cap', .int .i64 o.vr]] w fun e w' => e = .returned (wholeErr (Gate.wholeCount ss o)) ∧ Below w.heap.size w w' := by
  by_cases hk : Gate.hasKind ss o.kd = true
  all_goals
    first
      | (have HK : Hid (Gate.hasKind ss o.kd = true) := hk)
      | (have HK : Hid (Gate.hasKind ss o.kd = false) := by simpa [Hid] using hk)
    clear hk
    go_enter Tryz.func58, Tryz.ntmps58
    go_wp2_with fail
    refine (shapeOf_any _ _ _ _ _ (hw.mono ((Below.refl _ _).alloc (Nat.le_refl _) _))).mono ?_
    rintro e w1 ⟨fa, fcap, rfl, _, hb1⟩
    rw [HK.out]
    have hX1 := box_later (box_new w _ _) (by simp) hb1
    have hz1 : w.heap.size < w1.heap.size := by have := hb1.size; simp at this; omega
    have hB1 : Below w.heap.size w w1 := ((Below.refl _ _).alloc (Nat.le_refl _) _).trans (hb1.mono (by simp))
    clear hb1
    go_wp2_with (go_at_call 60; refine (wholeUnless_any _ _).mono ?_; rintro e w2 ⟨rfl, rfl⟩)
    go_ret
  · refine ⟨ret_err ?_, hB1.alloc (by omega) _⟩
    unfold Gate.wholeCount; rw [HK.out]
    rw [Bool.eq_iff_iff]; simp; omega
  · refine ⟨ret_err (a := false) (b := Gate.wholeCount ss o) ?_, hB1.alloc (by omega) _⟩
    unfold Gate.wholeCount; rw [HK.out]; rfl

end Go.Proofs.YtnacbdhibmaefaaGreatDoor

namespace Go.Proofs.YtnacbdhibmaefaaGreatDoor
open Go.RowKit

namespace Gate
def same (old o : Ob) : Bool := decide (old.kd = o.kd) && (decide (old.nm = o.nm) && decide (old.tm = o.tm))
/-- Nothing is wrong with the turn of one value. -/
def fixOk (f : Fld) (v u : ByteArray) : Bool := !(f.fx && (!decide (v.size = 0) && !decide (v = u)))
def fixOkAt (fs : List Fld) (vs us : List ByteArray) (i : Nat) : Bool := fixOk (fs.getD i noField) (vs.getD i ByteArray.empty) (us.getD i ByteArray.empty)
def fixRes (fs : List Fld) (vs us : List ByteArray) : Int × Int := match (List.range fs.length).find? (fun i => !fixOkAt fs vs us i) with | some i => (4, i) | none => (0, 0)
theorem fixRes_at {fs : List Fld} {vs us : List ByteArray} {k : Nat} (hk : k < fs.length) (hu : up (fixOkAt fs vs us) k = true) (hp : fixOkAt fs vs us k = false) : fixRes fs vs us = (4, (k : Int)) := by
  unfold fixRes; rw [find_range hk hu hp]
theorem fixRes_none {fs : List Fld} {vs us : List ByteArray} (hu : up (fixOkAt fs vs us) fs.length = true) : fixRes fs vs us = (0, 0) := by
  unfold fixRes; rw [find_range_none hu]
theorem fixOkAt_eq {fs : List Fld} {vs us : List ByteArray} {k : Nat} (h1 : k < fs.length) (h2 : k < vs.length) (h3 : k < us.length) : fixOkAt fs vs us k = fixOk fs[k] vs[k] us[k] := by
  unfold fixOkAt; rw [getD_at fs k _ h1, getD_at vs k _ h2, getD_at us k _ h3]
/-- What is wrong with a turn, by shapes that are ok. -/
def turnRes (ss : List Shp) (old o : Ob) : Int × Int :=
  if (checkRes ss old).1 = 0 ∧ (checkRes ss o).1 = 0 ∧ same old o = true then fixRes (shapeOf ss old.kd).fs old.vs o.vs else (1, 0)
def turned (ss : List Shp) (old o : Ob) : Int × Int := if shapesOk ss = true then turnRes ss old o else (1, 0)
end Gate

theorem below3' (w : World) (o1 o2 o3 : Obj) : Below w.heap.size w (((w.alloc o1).alloc o2).alloc o3) :=
  (((Below.refl _ _).alloc (Nat.le_refl _) _).alloc (by simp) _).alloc (by simp; omega) _

set_option maxHeartbeats 1000000 in
theorem checkSame_any (kd : ByteArray) (fa : Option Addr) (n fcap : Nat) (old o : Ob) (a a' b b' : Option Addr) (cap cap' dap dap' : Nat) (w : World) :
    Calls Tryz.prog 34 #[.agg #[.string kd, .slice fa n fcap], .agg #[.string old.kd, .string old.nm, .string old.tm, .slice a old.vs.length cap, .bool old.en, .slice a' old.hs.length cap', .int .i64 old.vr], .agg #[.string o.kd, .string o.nm, .string o.tm, .slice b o.vs.length dap, .bool o.en, .slice b' o.hs.length dap', .int .i64 o.vr]] w
      fun e w' => e = .returned (wholeErr (Gate.same old o)) ∧ Below w.heap.size w w' := by
  have t1 := Gate.beq_toList old.kd o.kd
  have t2 := Gate.beq_toList old.nm o.nm
  have t3 := Gate.beq_toList old.tm o.tm
  by_cases h1 : old.kd = o.kd
  · have d1 : decide (old.kd = o.kd) = true := by simpa using h1
    rw [d1] at t1
    by_cases h2 : old.nm = o.nm
    · have d2 : decide (old.nm = o.nm) = true := by simpa using h2
      rw [d2] at t2
      have HS : Hid (Gate.same old o = decide (old.tm = o.tm)) := by unfold Hid Gate.same; rw [d1, d2]; rfl
      clear d1 d2 h1 h2
      generalize hd : decide (old.tm = o.tm) = d at *
      go_enter Tryz.func34, Tryz.ntmps34
      go_wp2_with fail
      refine (wholeUnless_any _ _).mono ?_
      rintro e w1 ⟨rfl, rfl⟩
      go_wp2_with fail
      go_ret
      exact ⟨by rw [HS.out]; rfl, below3' _ _ _ _⟩
    · have d2 : decide (old.nm = o.nm) = false := by simpa using h2
      rw [d2] at t2
      have HS : Hid (Gate.same old o = false) := by unfold Hid Gate.same; rw [d1, d2]; rfl
      clear d1 d2 h1 h2
      go_enter Tryz.func34, Tryz.ntmps34
      go_wp2_with fail
      refine (wholeUnless_any _ _).mono ?_
      rintro e w1 ⟨rfl, rfl⟩
      go_wp2_with fail
      go_ret
      exact ⟨by rw [HS.out]; rfl, below3' _ _ _ _⟩
  · have d1 : decide (old.kd = o.kd) = false := by simpa using h1
    rw [d1] at t1
    have HS : Hid (Gate.same old o = false) := by unfold Hid Gate.same; rw [d1]; rfl
    clear d1 h1
    go_enter Tryz.func34, Tryz.ntmps34
    go_wp2_with fail
    refine (wholeUnless_any _ _).mono ?_
    rintro e w1 ⟨rfl, rfl⟩
    go_wp2_with fail
    go_ret
    exact ⟨by rw [HS.out]; rfl, below3' _ _ _ _⟩

end Go.Proofs.YtnacbdhibmaefaaGreatDoor

namespace Go.Proofs.YtnacbdhibmaefaaGreatDoor
open Go.RowKit

theorem errV_of {c p : Int} (h : c ≠ 0) : errV c p = .iface 68 (.agg #[.int .i64 c, .int .i64 p]) := by simp [errV, h]

set_option maxHeartbeats 4000000 in
theorem checkValues_any (a0 : Option Addr) (cap0 : Nat) (ss : List Shp) (o : Ob) (a a' : Option Addr) (cap cap' : Nat) (w : World) (hw : ShpsAt w a0 ss) (ho : ObAt w o a a') (hcnt : o.vs.length = (Gate.shapeOf ss o.kd).fs.length) :
    Calls Tryz.prog 59 #[.slice a0 ss.length cap0, .agg #[.string o.kd, .string o.nm, .string o.tm, .slice a o.vs.length cap, .bool o.en, .slice a' o.hs.length cap', .int .i64 o.vr]] w
      fun e w' => e = .returned (errV (Gate.valRes (Gate.shapeOf ss o.kd).fs o.vs).1 (Gate.valRes (Gate.shapeOf ss o.kd).fs o.vs).2) ∧ Below w.heap.size w w' := by
  have HC : Hid (o.vs.length = (Gate.shapeOf ss o.kd).fs.length) := hcnt
  clear hcnt
  go_enter Tryz.func59, Tryz.ntmps59
  go_wp2_with fail
  refine (fieldKinds_any _).mono ?_
  rintro e w0 ⟨rfl, hw0⟩
  have hX0 : ∀ j, w0.cell? ⟨w.heap.size, j, none⟩ = (#[.string o.kd, .string o.nm, .string o.tm, .slice a o.vs.length cap, .bool o.en, .slice a' o.hs.length cap', .int .i64 o.vr] : Array Value)[j]? := fun j => by
    rw [hw0, World.cell?_alloc_lt _ _ ⟨w.heap.size, j, none⟩ (by simp)]; exact box_new w _ _ j
  have hm0 : w0.heap[w.heap.size + 1]? = some (.map kindEs 4) := by
    rw [hw0]; have := alloc_at (w.alloc (.cells #[.string o.kd, .string o.nm, .string o.tm, .slice a o.vs.length cap, .bool o.en, .slice a' o.hs.length cap', .int .i64 o.vr] 32)) (.map kindEs 4); simpa using this
  have hB00 : Below w.heap.size w w0 := by rw [hw0]; exact below2' _ _ _
  have hz0 : w.heap.size + 1 < w0.heap.size := by rw [hw0]; simp
  clear hw0
  simp only [World.size_alloc]
  have hzz : w.heap.size < w0.heap.size := by omega
  go_wp2_with fail
  refine (shapeOf_any _ _ _ _ _ (hw.mono hB00)).mono ?_
  rintro e w1 ⟨fa, fcap, rfl, hfl0, hb1⟩
  have hX1 := box_later hX0 hzz hb1
  have hm1 := (hb1.block _ hz0).trans hm0
  have hz1 : w.heap.size + 1 < w1.heap.size := by have := hb1.size; omega
  have hB01 := hB00.trans (hb1.mono (by omega))
  have hfl1 := hfl0.mono hb1
  clear hX0 hm0 hb1 hfl0 hz0 hzz
  generalize hfs : (Gate.shapeOf ss o.kd).fs = fs at *
  have hlen := hfl1.len
  unfold maxLen at hlen
  go_wp2_with fail
  go_loopw [22] (fun i wr => ∃ k : Nat, k ≤ fs.length ∧ i = .int .i64 k ∧ Gate.up (Gate.valOkAt fs o.vs) k = true ∧ Below w1.heap.size w1 wr) (fun i _ => fs.length - (intOf i).toNat)
  case atStart => exact ⟨0, Nat.zero_le _, rfl, rfl, (Below.refl _ _).alloc (Nat.le_refl _) _⟩
  case round =>
    obtain ⟨k, hk, rfl, hup, hBr⟩ := hrel
    have hszr := hBr.size
    have hB : Below w.heap.size w wr := hB01.trans (hBr.mono (by omega))
    by_cases hlt : k < fs.length
    · have hXr := box_later hX1 (by omega) hBr
      have hmr := (hBr.block _ hz1).trans hm1
      obtain ⟨b, off, rfl, hb, hr⟩ := hfl1.rows (by rintro rfl; simp at hlt)
      obtain ⟨wa, wcap, hf0⟩ := hr k hlt
      have hf := hf0.mono hb hBr
      obtain ⟨c0, c1, c2, c3, c4, c5, c6, c7, c8, c9, c10⟩ := hf.load
      have hst := hf.strs
      have hltv : k < o.vs.length := by rw [HC.out]; exact hlt
      obtain ⟨vb, voff, rfl, hvb, hvc⟩ := ho.vals.cells (by intro h; rw [h] at hltv; simp at hltv)
      have hcv := (hB.cell (p := ⟨vb, voff + k, none⟩) hvb).trans (hvc k hltv)
      have hvs := ho.vals.small _ (List.getElem_mem hltv)
      have hltI : (k : Int) < (fs.length : Int) := by omega
      have hltV : (k : Int) < (o.vs.length : Int) := by omega
      have hbr : b < wr.heap.size := by omega
      have hvbr : vb < wr.heap.size := by omega
      have hwr1 : w.heap.size < wr.heap.size := by omega
      have HFX : Hid (Gate.faultIx fs o.vs k = Gate.faultAt fs[k] o.vs[k]) := Gate.faultIx_eq hlt hltv
      have HS : Hid (Gate.faultAt fs[k] o.vs[k] = 0 → Gate.up (Gate.valOkAt fs o.vs) (k + 1) = true) := fun h => by
        rw [Gate.up_succ, hup]; unfold Gate.valOkAt; rw [HFX.out, h]; rfl
      have HN : Hid (∀ n : Int, n ≠ 0 → Gate.faultAt fs[k] o.vs[k] = n → errV (Gate.valRes fs o.vs).1 (Gate.valRes fs o.vs).2 = .iface 68 (.agg #[.int .i64 n, .int .i64 k])) := fun n hn0 h => by
        rw [Gate.valRes_at hlt hup (by unfold Gate.valOkAt; rw [HFX.out, h]; simp [hn0]), HFX.out, h]; exact errV_of hn0
      clear hX1 hm1 hr hf0 hf hup
      by_cases he : o.vs[k].size = 0
      · have hne : o.vs[k].toList.isEmpty = true := by rw [Gate.isEmpty_of_size]; simp [he]
        have HE : Hid (o.vs[k].size = 0) := he
        clear he
        by_cases hmu : fs[k].mu = true
        · have HM : Hid (fs[k].mu = true) := hmu
          go_wp2_with fail
          go_ret
          have hv := HN.out 2 (by decide) (by unfold Gate.faultAt; rw [if_pos HE.out, if_pos HM.out])
          exact ⟨by rw [hfs, hv]; rfl, hB.alloc (by omega) _⟩
        · have hmu' : fs[k].mu = false := by simpa using hmu
          have HM : Hid (fs[k].mu = false) := hmu'
          clear hmu
          go_wp2_with fail
          go_quiet (fail)
          go_wp2_with fail
          exact ⟨⟨k + 1, by omega, by go_num, HS.out (by unfold Gate.faultAt; rw [if_pos HE.out, HM.out]; rfl), below_drewN (hBr.alloc (by omega) _) _⟩, by simp [intOf]; omega⟩
      · have hne : o.vs[k].toList.isEmpty = false := by rw [Gate.isEmpty_of_size]; simp [he]
        have HE : Hid (¬ o.vs[k].size = 0) := he
        clear he
        by_cases hfit : Gate.fits fs[k].kd fs[k].ls fs[k].ms fs[k].ws o.vs[k] = true
        all_goals
          first
            | (have HFT : Hid (Gate.fits fs[k].kd fs[k].ls fs[k].ms fs[k].ws o.vs[k] = true) := hfit)
            | (have HFT : Hid (Gate.fits fs[k].kd fs[k].ls fs[k].ms fs[k].ws o.vs[k] = false) := by simpa [Hid] using hfit)
          clear hfit
          go_wp2_with fail
          have hbx : Below wr.heap.size wr ((wr.alloc (.cells #[.string fs[k].nm, .int .i64 fs[k].kd, .int .i64 fs[k].ls, .int .i64 fs[k].ms, .slice wa fs[k].ws.length wcap, .string fs[k].to, .int .i64 fs[k].rl, .bool fs[k].mu, .bool fs[k].fx, .string fs[k].df, .string fs[k].wg] 47)).drew) := ((Below.refl _ _).alloc (Nat.le_refl _) _).drew
          have hmx := (hbx.block _ (by omega)).trans hmr
          have hstx := hst.mono hbx
          go_region_with (go_at_call 73; refine (as_bool HFT.out (tableFits_any _ _ _ _ _ _ _ _ _ _ _ _ _ _ _ _ (by exact hmx) hvs (by exact hstx))).mono ?_; rintro e w3 ⟨rfl, hb3⟩)
          all_goals go_wp2_with fail
        all_goals have hB3 : Below wr.heap.size wr w3 := hbx.trans (hb3.mono (by simp))
        all_goals first
          | (have hft : Gate.fits fs[k].kd fs[k].ls fs[k].ms fs[k].ws o.vs[k] = true := HFT.out
             exact ⟨⟨k + 1, by omega, by go_num, HS.out (by unfold Gate.faultAt; rw [if_neg HE.out]; unfold Gate.fitsF; rw [hft]; rfl), hBr.trans (hB3.mono hszr)⟩, by simp [intOf]; omega⟩)
          | (have hft : Gate.fits fs[k].kd fs[k].ls fs[k].ms fs[k].ws o.vs[k] = false := HFT.out
             go_ret
             have hv := HN.out 3 (by decide) (by unfold Gate.faultAt; rw [if_neg HE.out]; unfold Gate.fitsF; rw [hft]; rfl)
             exact ⟨by rw [hfs, hv]; rfl, hB.trans (hB3.mono (by omega))⟩)
    · have HF : Hid (Gate.valRes fs o.vs = (0, 0)) := by
        have e : k = fs.length := by omega
        subst e; exact Gate.valRes_none hup
      clear hup
      go_wp2_with fail
      go_ret
      exact ⟨by rw [hfs, HF.out]; rfl, hB⟩

end Go.Proofs.YtnacbdhibmaefaaGreatDoor
