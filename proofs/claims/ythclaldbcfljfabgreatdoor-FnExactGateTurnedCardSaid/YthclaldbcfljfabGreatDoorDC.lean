import Derived.Test.YthclaldbcfljfabGreatDoorDB
import Derived.Test.YthclaldbcfljfabGreatDoorCD
namespace Go.Proofs.YthclaldbcfljfabGreatDoor
open Go.RowKit

theorem whole_of_zero {ss : List Shp} {o : Ob} (h : (Gate.checkRes ss o).1 = 0) : Gate.whole ss o = true := by
  by_cases hw : Gate.whole ss o = true
  · exact hw
  · unfold Gate.checkRes at h; rw [if_neg hw] at h; cases h

theorem fixRes_zero {fs : List Fld} {vs us : List ByteArray} (h : (Gate.fixRes fs vs us).1 = 0) : (Gate.fixRes fs vs us).2 = 0 := by
  unfold Gate.fixRes at h ⊢
  cases hf : (List.range fs.length).find? (fun i => !Gate.fixOkAt fs vs us i) with
  | none => rfl
  | some i => rw [hf] at h; cases h

def errT (ss : List Shp) (old o : Ob) : Value := errV (Gate.turnRes ss old o).1 (Gate.turnRes ss old o).2

theorem errT_not {ss : List Shp} {old o : Ob} (h : ¬ ((Gate.checkRes ss old).1 = 0 ∧ (Gate.checkRes ss o).1 = 0 ∧ Gate.same old o = true)) : errT ss old o = .iface 68 (.agg #[.int .i64 1, .int .i64 0]) := by
  unfold errT Gate.turnRes; rw [if_neg h]; rfl
theorem errT_yes {ss : List Shp} {old o : Ob} (h : (Gate.checkRes ss old).1 = 0 ∧ (Gate.checkRes ss o).1 = 0 ∧ Gate.same old o = true) : errT ss old o = errV (Gate.fixRes (Gate.shapeOf ss old.kd).fs old.vs o.vs).1 (Gate.fixRes (Gate.shapeOf ss old.kd).fs old.vs o.vs).2 := by
  unfold errT Gate.turnRes; rw [if_pos h]

theorem turnRes_zero {ss : List Shp} {old o : Ob} (h : (Gate.turnRes ss old o).1 = 0) : (Gate.turnRes ss old o).2 = 0 := by
  unfold Gate.turnRes at h ⊢
  split at h
  · rename_i hh; rw [if_pos hh]; exact fixRes_zero h
  · cases h

theorem toldBy_turn (ss : List Shp) (old o : Ob) (w : World) (hL : Laid w) : Calls Tryz.prog 19 #[errT ss old o] w fun e w' => e = .returned (.tuple #[.int .i64 (Gate.turnRes ss old o).1, .int .i64 (Gate.turnRes ss old o).2]) ∧ Below w.heap.size w w' := by
  by_cases h : (Gate.turnRes ss old o).1 = 0
  · have h2 := turnRes_zero h
    unfold errT; rw [h, h2, errV_zero]; exact toldBy_nil w
  · unfold errT; rw [errV_of h]; exact toldBy_hit _ _ w hL

theorem same_kd {old o : Ob} (h : Gate.same old o = true) : old.kd = o.kd ∧ old.nm = o.nm ∧ old.tm = o.tm := by
  unfold Gate.same at h; simpa using h

def stageT (ss : List Shp) (old o : Ob) : Nat → Bool
  | 0 => true
  | 1 => Gate.same old o
  | _ => Gate.same old o && decide ((Gate.fixRes (Gate.shapeOf ss old.kd).fs old.vs o.vs).1 = 0)

set_option maxHeartbeats 4000000 in
theorem turnError_any (a0 : Option Addr) (cap0 : Nat) (ss : List Shp) (old o : Ob) (a a' b b' : Option Addr) (cap cap' dap dap' : Nat) (w : World) (hw : ShpsAt w a0 ss) (ho : ObAt w old a a') (hn : ObAt w o b b') :
    Calls Tryz.prog 20 #[.slice a0 ss.length cap0, .agg #[.string old.kd, .string old.nm, .string old.tm, .slice a old.vs.length cap, .bool old.en, .slice a' old.hs.length cap', .int .i64 old.vr], .agg #[.string o.kd, .string o.nm, .string o.tm, .slice b o.vs.length dap, .bool o.en, .slice b' o.hs.length dap', .int .i64 o.vr]] w
      fun e w' => e = .returned (errT ss old o) ∧ Below w.heap.size w w' := by
  have hb2 : ∀ o1 o2, Below w.heap.size w ((w.alloc o1).alloc o2) := fun o1 o2 => below2' w o1 o2
  by_cases hold : (Gate.checkRes ss old).1 = 0
  rotate_left
  · have HV : Hid (errO ss old = .iface 68 (.agg #[.int .i64 (Gate.checkRes ss old).1, .int .i64 (Gate.checkRes ss old).2])) := errV_of hold
    have HR : Hid (errT ss old o = .iface 68 (.agg #[.int .i64 1, .int .i64 0])) := errT_not (fun h => hold h.1)
    clear hold
    go_enter Tryz.func20, Tryz.ntmps20
    go_wp2_with fail
    refine (as_ret HV.out (objectError_any _ _ _ _ _ _ _ _ _ (hw.mono (hb2 _ _)) (ho.mono (hb2 _ _)))).mono ?_
    rintro e w1 ⟨rfl, hb1⟩
    have hB1 := (hb2 _ _).trans (hb1.mono (by simp; omega))
    clear hb1
    go_wp2_with fail
    go_ret
    exact ⟨by rw [HR.out]; rfl, hB1⟩
  have HVo : Hid (errO ss old = .nilIface) := by unfold Hid errO; rw [hold]; rfl
  by_cases hnew : (Gate.checkRes ss o).1 = 0
  rotate_left
  · have HV : Hid (errO ss o = .iface 68 (.agg #[.int .i64 (Gate.checkRes ss o).1, .int .i64 (Gate.checkRes ss o).2])) := errV_of hnew
    have HR : Hid (errT ss old o = .iface 68 (.agg #[.int .i64 1, .int .i64 0])) := errT_not (fun h => hnew h.2.1)
    clear hold hnew
    go_enter Tryz.func20, Tryz.ntmps20
    go_wp2_with fail
    refine (as_ret HVo.out (objectError_any _ _ _ _ _ _ _ _ _ (hw.mono (hb2 _ _)) (ho.mono (hb2 _ _)))).mono ?_
    rintro e w1 ⟨rfl, hb1⟩
    have hX1 := box_later (wk := (w.alloc (.cells #[.string old.kd, .string old.nm, .string old.tm, .slice a old.vs.length cap, .bool old.en, .slice a' old.hs.length cap', .int .i64 old.vr] 32)).alloc (.cells #[.string o.kd, .string o.nm, .string o.tm, .slice b o.vs.length dap, .bool o.en, .slice b' o.hs.length dap', .int .i64 o.vr] 32)) (b := w.heap.size) (X := #[.string old.kd, .string old.nm, .string old.tm, .slice a old.vs.length cap, .bool old.en, .slice a' old.hs.length cap', .int .i64 old.vr]) (fun j => by rw [World.cell?_alloc_lt _ _ ⟨w.heap.size, j, none⟩ (by simp)]; exact box_new w _ _ j) (by simp; omega) hb1
    have hY1 := box_later (box_new (w.alloc (.cells #[.string old.kd, .string old.nm, .string old.tm, .slice a old.vs.length cap, .bool old.en, .slice a' old.hs.length cap', .int .i64 old.vr] 32)) _ _) (by simp) hb1
    simp only [World.size_alloc] at hY1
    have hz1 : w.heap.size + 1 < w1.heap.size := by have := hb1.size; simp at this; omega
    have hB1 := (hb2 _ _).trans (hb1.mono (by simp; omega))
    clear hb1
    go_wp2_with fail
    refine (as_ret HV.out (objectError_any _ _ _ _ _ _ _ _ _ (hw.mono hB1) (hn.mono hB1))).mono ?_
    rintro e w2 ⟨rfl, hb3⟩
    have hB2 := hB1.trans (hb3.mono hB1.size)
    clear hb3
    go_wp2_with fail
    go_ret
    exact ⟨by rw [HR.out]; rfl, hB2⟩
  have HVn : Hid (errO ss o = .nilIface) := by unfold Hid errO; rw [hnew]; rfl
  have HOld : Hid ((Gate.checkRes ss old).1 = 0) := hold
  have HNew : Hid ((Gate.checkRes ss o).1 = 0) := hnew
  clear hold hnew
  go_enter Tryz.func20, Tryz.ntmps20
  go_wp2_with fail
  refine (as_ret HVo.out (objectError_any _ _ _ _ _ _ _ _ _ (hw.mono (hb2 _ _)) (ho.mono (hb2 _ _)))).mono ?_
  rintro e w1 ⟨rfl, hb1⟩
  have hX1 := box_later (wk := (w.alloc (.cells #[.string old.kd, .string old.nm, .string old.tm, .slice a old.vs.length cap, .bool old.en, .slice a' old.hs.length cap', .int .i64 old.vr] 32)).alloc (.cells #[.string o.kd, .string o.nm, .string o.tm, .slice b o.vs.length dap, .bool o.en, .slice b' o.hs.length dap', .int .i64 o.vr] 32)) (b := w.heap.size) (X := #[.string old.kd, .string old.nm, .string old.tm, .slice a old.vs.length cap, .bool old.en, .slice a' old.hs.length cap', .int .i64 old.vr]) (fun j => by rw [World.cell?_alloc_lt _ _ ⟨w.heap.size, j, none⟩ (by simp)]; exact box_new w _ _ j) (by simp; omega) hb1
  have hY1 := box_later (box_new (w.alloc (.cells #[.string old.kd, .string old.nm, .string old.tm, .slice a old.vs.length cap, .bool old.en, .slice a' old.hs.length cap', .int .i64 old.vr] 32)) _ _) (by simp) hb1
  simp only [World.size_alloc] at hY1
  have hz1 : w.heap.size + 1 < w1.heap.size := by have := hb1.size; simp at this; omega
  have hB1 := (hb2 _ _).trans (hb1.mono (by simp; omega))
  clear hb1
  go_wp2_with fail
  refine (as_ret HVn.out (objectError_any _ _ _ _ _ _ _ _ _ (hw.mono hB1) (hn.mono hB1))).mono ?_
  rintro e w2 ⟨rfl, hb3⟩
  have hX2 := box_later hX1 (by omega) hb3
  have hY2 := box_later hY1 hz1 hb3
  have hz2 := Nat.lt_of_lt_of_le hz1 hb3.size
  have hB2 := hB1.trans (hb3.mono hB1.size)
  clear hb3 hX1 hY1 hz1 hB1
  go_wp2_with fail
  refine (shapeOf_any _ _ _ _ _ (hw.mono hB2)).mono ?_
  rintro e w3 ⟨fa, fcap, rfl, hfl0, hb3⟩
  have hX3 := box_later hX2 (by omega) hb3
  have hY3 := box_later hY2 hz2 hb3
  have hz3 := Nat.lt_of_lt_of_le hz2 hb3.size
  have hB3 := hB2.trans (hb3.mono hB2.size)
  have hfl := hfl0.mono hb3
  clear hb3 hX2 hY2 hz2 hB2 hfl0
  go_wp2_with fail
  go_loopw [33] (fun i wr => ∃ k : Nat, k ≤ 2 ∧ i = .int .i64 k ∧ stageT ss old o k = true ∧ Below (w3.heap.size + 1 + 1) ((w3.alloc (.cells #[.string (Gate.shapeOf ss old.kd).kd, .slice fa (Gate.shapeOf ss old.kd).fs.length fcap] 49)).alloc (.cells #[.func (.func 34) #[] #[], .func (.func 35) #[] #[]] 76)) wr) (fun i _ => 2 - (intOf i).toNat)
  case atStart => exact ⟨0, Nat.zero_le _, rfl, rfl, Below.refl _ _⟩
  case round =>
    obtain ⟨k, hk, rfl, hstg, hBr⟩ := hrel
    have HStg : Hid (stageT ss old o k = true) := hstg
    clear hstg
    have hszr : w3.heap.size + 1 < wr.heap.size := by have := hBr.size; simp at this; omega
    have hB3r : Below w3.heap.size w3 wr := (below2' _ _ _).trans (hBr.mono (by omega))
    have hB : Below w.heap.size w wr := hB3.trans (hB3r.mono (by omega))
    have hXr := box_later hX3 (by omega) hB3r
    have hYr := box_later hY3 hz3 hB3r
    have hSr : ∀ j, wr.cell? ⟨w3.heap.size, j, none⟩ = (#[.string (Gate.shapeOf ss old.kd).kd, .slice fa (Gate.shapeOf ss old.kd).fs.length fcap] : Array Value)[j]? := fun j => (hBr.cell (p := ⟨w3.heap.size, j, none⟩) (by simp; omega)).trans (by rw [World.cell?_alloc_lt _ _ ⟨w3.heap.size, j, none⟩ (by simp)]; exact box_new w3 _ _ j)
    have hFr : ∀ j, wr.cell? ⟨w3.heap.size + 1, j, none⟩ = (#[.func (.func 34) #[] #[], .func (.func 35) #[] #[]] : Array Value)[j]? := fun j => (hBr.cell (p := ⟨w3.heap.size + 1, j, none⟩) (by simp)).trans (by rw [World.cell?_alloc_at _ _ _ _ (by simp)])
    have hflr := hfl.mono hB3r
    have hor := ho.mono hB
    have hnr := hn.mono hB
    clear hX3 hY3 hfl hB3r
    have hw3r : w.heap.size + 1 < wr.heap.size := by omega
    have hcases : k = 0 ∨ k = 1 ∨ k = 2 := by omega
    rcases hcases with rfl | rfl | rfl
    · by_cases hc : Gate.same old o = true
      · have HV : Hid (wholeErr (Gate.same old o) = .nilIface) := by unfold Hid; rw [hc]; rfl
        have HS : Hid (stageT ss old o (0 + 1) = true) := hc
        clear hc
        go_wp2_with fail
        refine (as_ret HV.out (checkSame_any _ _ _ _ _ _ _ _ _ _ _ _ _ _ _)).mono ?_
        rintro e w4 ⟨rfl, hb4⟩
        go_wp2_with fail
        exact ⟨⟨0 + 1, by omega, by rfl, HS.out, hBr.trans (hb4.mono (by omega))⟩, by simp [intOf]⟩
      · have hc' : Gate.same old o = false := by simpa using hc
        have HV : Hid (wholeErr (Gate.same old o) = .iface 68 (.agg #[.int .i64 1, .int .i64 0])) := by unfold Hid; rw [hc']; rfl
        have HW : Hid (errT ss old o = .iface 68 (.agg #[.int .i64 1, .int .i64 0])) := errT_not (fun h => hc h.2.2)
        clear hc hc'
        go_wp2_with fail
        refine (as_ret HV.out (checkSame_any _ _ _ _ _ _ _ _ _ _ _ _ _ _ _)).mono ?_
        rintro e w4 ⟨rfl, hb4⟩
        go_wp2_with fail
        go_ret
        exact ⟨by rw [HW.out]; rfl, hB.trans (hb4.mono (by omega))⟩
    · have hsm : Gate.same old o = true := HStg.out
      have HW : Hid (errT ss old o = errV (Gate.fixRes (Gate.shapeOf ss old.kd).fs old.vs o.vs).1 (Gate.fixRes (Gate.shapeOf ss old.kd).fs old.vs o.vs).2) := errT_yes ⟨HOld.out, HNew.out, hsm⟩
      have HC1 : Hid (old.vs.length = (Gate.shapeOf ss old.kd).fs.length) := count_of_whole (whole_of_zero HOld.out)
      have HC2 : Hid (o.vs.length = (Gate.shapeOf ss old.kd).fs.length) := by rw [(same_kd hsm).1]; exact count_of_whole (whole_of_zero HNew.out)
      by_cases hc : (Gate.fixRes (Gate.shapeOf ss old.kd).fs old.vs o.vs).1 = 0
      · have HV : Hid (errV (Gate.fixRes (Gate.shapeOf ss old.kd).fs old.vs o.vs).1 (Gate.fixRes (Gate.shapeOf ss old.kd).fs old.vs o.vs).2 = .nilIface) := by unfold Hid; rw [hc]; rfl
        have HS : Hid (stageT ss old o (1 + 1) = true) := by simp [stageT, hsm, hc, Hid]
        clear hc hsm
        go_wp2_with fail
        refine (as_ret HV.out (checkFixed_any _ _ _ _ _ _ _ _ _ _ _ _ _ _ _ hflr hor hnr HC1.out HC2.out)).mono ?_
        rintro e w4 ⟨rfl, hb4⟩
        go_wp2_with fail
        exact ⟨⟨1 + 1, by omega, by rfl, HS.out, hBr.trans (hb4.mono (by omega))⟩, by simp [intOf]⟩
      · have HV : Hid (errV (Gate.fixRes (Gate.shapeOf ss old.kd).fs old.vs o.vs).1 (Gate.fixRes (Gate.shapeOf ss old.kd).fs old.vs o.vs).2 = .iface 68 (.agg #[.int .i64 (Gate.fixRes (Gate.shapeOf ss old.kd).fs old.vs o.vs).1, .int .i64 (Gate.fixRes (Gate.shapeOf ss old.kd).fs old.vs o.vs).2])) := errV_of hc
        clear hc hsm
        go_wp2_with fail
        refine (as_ret HV.out (checkFixed_any _ _ _ _ _ _ _ _ _ _ _ _ _ _ _ hflr hor hnr HC1.out HC2.out)).mono ?_
        rintro e w4 ⟨rfl, hb4⟩
        go_wp2_with fail
        go_ret
        exact ⟨by rw [HW.out, HV.out]; rfl, hB.trans (hb4.mono (by omega))⟩
    · have HW : Hid (errT ss old o = .nilIface) := by
        have h0 := HStg.out
        simp only [stageT, Bool.and_eq_true, decide_eq_true_eq] at h0
        unfold Hid; rw [errT_yes ⟨HOld.out, HNew.out, h0.1⟩, h0.2]; rfl
      go_wp2_with fail
      go_ret
      exact ⟨by rw [HW.out]; rfl, hB⟩

set_option maxHeartbeats 1000000 in
theorem implTurned_any (a0 : Option Addr) (cap0 : Nat) (ss : List Shp) (old o : Ob) (a a' b b' : Option Addr) (cap cap' dap dap' : Nat) (w : World) (hL : Laid w) (hw : ShpsAt w a0 ss) (ho : ObAt w old a a') (hn : ObAt w o b b') :
    Calls Tryz.prog 9 #[.slice a0 ss.length cap0, .agg #[.string old.kd, .string old.nm, .string old.tm, .slice a old.vs.length cap, .bool old.en, .slice a' old.hs.length cap', .int .i64 old.vr], .agg #[.string o.kd, .string o.nm, .string o.tm, .slice b o.vs.length dap, .bool o.en, .slice b' o.hs.length dap', .int .i64 o.vr]] w
      fun e w' => e = .returned (.tuple #[.int .i64 (Gate.turned ss old o).1, .int .i64 (Gate.turned ss old o).2]) ∧ Below w.heap.size w w' := by
  have hb2 : ∀ o1 o2, Below w.heap.size w ((w.alloc o1).alloc o2) := fun o1 o2 => below2' w o1 o2
  by_cases hs : Gate.shapesOk ss = true
  · have HS : Hid (Gate.shapesOk ss = true) := hs
    have HC : Hid (Gate.turned ss old o = Gate.turnRes ss old o) := by unfold Hid Gate.turned; rw [if_pos hs]
    clear hs
    go_enter Tryz.func9, Tryz.ntmps9
    go_wp2_with fail
    refine (as_bool HS.out (implShapesOk_any _ _ _ _ (hw.mono (hb2 _ _)))).mono ?_
    rintro e w1 ⟨rfl, hb1⟩
    have hX1 := box_later (wk := (w.alloc (.cells #[.string old.kd, .string old.nm, .string old.tm, .slice a old.vs.length cap, .bool old.en, .slice a' old.hs.length cap', .int .i64 old.vr] 32)).alloc (.cells #[.string o.kd, .string o.nm, .string o.tm, .slice b o.vs.length dap, .bool o.en, .slice b' o.hs.length dap', .int .i64 o.vr] 32)) (b := w.heap.size) (X := #[.string old.kd, .string old.nm, .string old.tm, .slice a old.vs.length cap, .bool old.en, .slice a' old.hs.length cap', .int .i64 old.vr]) (fun j => by rw [World.cell?_alloc_lt _ _ ⟨w.heap.size, j, none⟩ (by simp)]; exact box_new w _ _ j) (by simp; omega) hb1
    have hY1 := box_later (box_new (w.alloc (.cells #[.string old.kd, .string old.nm, .string old.tm, .slice a old.vs.length cap, .bool old.en, .slice a' old.hs.length cap', .int .i64 old.vr] 32)) _ _) (by simp) hb1
    simp only [World.size_alloc] at hY1
    have hz1 : w.heap.size + 1 < w1.heap.size := by have := hb1.size; simp at this; omega
    have hB1 := (hb2 _ _).trans (hb1.mono (by simp; omega))
    clear hb1
    go_wp2_with fail
    refine (turnError_any _ _ _ _ _ _ _ _ _ _ _ _ _ _ (hw.mono hB1) (ho.mono hB1) (hn.mono hB1)).mono ?_
    rintro e w2 ⟨rfl, hb3⟩
    have hB2 := hB1.trans (hb3.mono hB1.size)
    clear hb3 hX1 hY1
    go_wp2_with fail
    refine (toldBy_turn _ _ _ _ (hL.mono hB2)).mono ?_
    rintro e w3 ⟨rfl, hb3⟩
    have hB3 := hB2.trans (hb3.mono hB2.size)
    clear hb3
    go_wp2_with fail
    go_ret2
    exact ⟨by rw [HC.out]; rfl, hB3⟩
  · have HS : Hid (Gate.shapesOk ss = false) := by simpa [Hid] using hs
    have HC : Hid (Gate.turned ss old o = (1, 0)) := by unfold Hid Gate.turned; rw [if_neg hs]
    clear hs
    go_enter Tryz.func9, Tryz.ntmps9
    go_wp2_with fail
    refine (as_bool HS.out (implShapesOk_any _ _ _ _ (hw.mono (hb2 _ _)))).mono ?_
    rintro e w1 ⟨rfl, hb1⟩
    go_wp2_with fail
    go_ret2
    exact ⟨by rw [HC.out]; rfl, (hb2 _ _).trans (hb1.mono (by simp; omega))⟩

end Go.Proofs.YthclaldbcfljfabGreatDoor
