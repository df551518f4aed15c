import Derived.Test.YtnacbdhibmaefaaGreatDoorM12
import Derived.Test.YtnacbdhibmaefaaGreatDoorM05
import Derived.Test.YtnacbdhibmaefaaGreatDoorM02
import Derived.Test.YtnacbdhibmaefaaGreatDoorM03
import Derived.Deep.QuietTactic
import Derived.BigQuiet
namespace Go.Proofs.YtnacbdhibmaefaaGreatDoor
open Go.RowKit

/-- The library's variable that the asking needs holds what start-up lays. -/
def Laid (w : World) : Prop := w.cell? ⟨0, 0, none⟩ = some (.iface 117 (.agg #[.pointer (some ⟨1, 55, none⟩)]))

theorem Laid.pos {w : World} (h : Laid w) : 0 < w.heap.size := by
  rcases Nat.eq_zero_or_pos w.heap.size with h0 | h1
  · unfold Laid at h; simp [World.cell?, h0] at h
  · exact h1
theorem Laid.mono {w w' : World} (h : Laid w) (hb : Below w.heap.size w w') : Laid w' := (hb.cell (p := ⟨0, 0, none⟩) h.pos).trans h

set_option maxHeartbeats 1000000 in
theorem toldBy_nil (w : World) : Calls Tryz.prog 19 #[.nilIface] w fun e w' => e = .returned (.tuple #[.int .i64 0, .int .i64 0]) ∧ Below w.heap.size w w' := by
  go_enter Tryz.func19, Tryz.ntmps19
  go_wp2_with fail
  refine (Told.as_nil _ _).mono ?_
  rintro e w1 ⟨rfl, rfl⟩
  go_wp2_with fail
  go_ret2
  exact ⟨rfl, (Below.refl _ _).alloc (Nat.le_refl _) _⟩

set_option maxHeartbeats 1000000 in
theorem toldBy_hit (c p : Int) (w : World) (hL : Laid w) : Calls Tryz.prog 19 #[.iface 68 (.agg #[.int .i64 c, .int .i64 p])] w fun e w' => e = .returned (.tuple #[.int .i64 c, .int .i64 p]) ∧ Below w.heap.size w w' := by
  have HL : Hid (Laid (w.alloc (.cells #[.int .i64 0, .int .i64 0] 68))) := hL.mono ((Below.refl _ _).alloc (Nat.le_refl _) _)
  clear hL
  go_enter Tryz.func19, Tryz.ntmps19
  go_wp2_with fail
  refine (Told.as_hit c p _ (.int .i64 0) (.int .i64 0) _ HL.out (by simp) (by rw [World.cell?_alloc_at _ _ _ _ rfl]; rfl) (by rw [World.cell?_alloc_at _ _ _ _ rfl]; rfl) (by rw [World.frozen?_alloc_at _ _ _ _ rfl]) (by rw [World.frozen?_alloc_at _ _ _ _ rfl])).mono ?_
  rintro e w1 ⟨rfl, hw1⟩
  have hB : Below w.heap.size w w1 := by
    rw [hw1]
    exact ((((((((Below.refl _ _).alloc (Nat.le_refl _) _).alloc (by simp) _).alloc (by simp; omega) _).alloc (by simp; omega) _).alloc (by simp; omega) _)).setCell (Nat.le_refl _) _).setCell (Nat.le_refl _) _
  have hblk : w1.heap[w.heap.size]? = some (.cells ((#[.int .i64 0, .int .i64 0] : Array Value).setIfInBounds 0 (.int .i64 c) |>.setIfInBounds 1 (.int .i64 p)) 68) := by
    rw [hw1]
    refine heap_setCell_at (heap_setCell_at ?_ _) _
    exact ((((Below.refl (w.heap.size + 1) _).alloc (by simp) _).alloc (by simp) _).alloc (by simp) _ |>.alloc (by simp) _).block w.heap.size (by omega) |>.trans (alloc_at _ _)
  have hc0 : w1.cell? ⟨w.heap.size, 0, none⟩ = some (.int .i64 c) := by rw [cell_of_block hblk]; rfl
  have hc1 : w1.cell? ⟨w.heap.size, 1, none⟩ = some (.int .i64 p) := by rw [cell_of_block hblk]; rfl
  clear hblk
  clear hw1
  go_wp2_with fail
  go_quiet (fail)
  go_wp2_with fail
  go_ret2
  exact ⟨rfl, below_drewN hB _⟩

theorem valRes_zero {fs : List Fld} {vs : List ByteArray} (h : (Gate.valRes fs vs).1 = 0) : (Gate.valRes fs vs).2 = 0 := by
  unfold Gate.valRes at h ⊢
  cases hf : (List.range fs.length).find? (fun i => !Gate.valOkAt fs vs i) with
  | none => rfl
  | some i =>
    rw [hf] at h
    have hi := List.find?_some hf
    simp only [Gate.valOkAt, Bool.not_eq_true', decide_eq_false_iff_not] at hi
    exact absurd h hi
theorem checkRes_zero {ss : List Shp} {o : Ob} (h : (Gate.checkRes ss o).1 = 0) : (Gate.checkRes ss o).2 = 0 := by
  unfold Gate.checkRes at h ⊢
  split at h
  · rename_i hh; rw [if_pos hh]; exact valRes_zero h
  · cases h

theorem toldBy_any (ss : List Shp) (o : Ob) (w : World) (hL : Laid w) : Calls Tryz.prog 19 #[errO ss o] w fun e w' => e = .returned (.tuple #[.int .i64 (Gate.checkRes ss o).1, .int .i64 (Gate.checkRes ss o).2]) ∧ Below w.heap.size w w' := by
  by_cases h : (Gate.checkRes ss o).1 = 0
  · have h2 := checkRes_zero h
    unfold errO; rw [h, h2, errV_zero]; exact toldBy_nil w
  · unfold errO; rw [errV_of h]; exact toldBy_hit _ _ w hL

end Go.Proofs.YtnacbdhibmaefaaGreatDoor

namespace Go.Proofs.YtnacbdhibmaefaaGreatDoor
open Go.RowKit

theorem whole_of_zero {ss : List Shp} {o : Ob} (h : (Gate.checkRes ss o).1 = 0) : Gate.whole ss o = true := by
  by_cases hw : Gate.whole ss o = true
  · exact hw
  · unfold Gate.checkRes at h; rw [if_neg hw] at h; cases h

theorem fixRes_zero {fs : List Fld} {vs us : List ByteArray} (h : (Gate.fixRes fs vs us).1 = 0) : (Gate.fixRes fs vs us).2 = 0 := by
  unfold Gate.fixRes at h ⊢
  cases hf : (List.range fs.length).find? (fun i => !Gate.fixOkAt fs vs us i) with
  | none => rfl
  | some i => rw [hf] at h; cases h

def errT (ss : List Shp) (old o : Ob) : Value := errV (Gate.turnRes ss old o).1 (Gate.turnRes ss old o).2

theorem errT_not {ss : List Shp} {old o : Ob} (h : ¬ ((Gate.checkRes ss old).1 = 0 ∧ (Gate.checkRes ss o).1 = 0 ∧ Gate.same old o = true)) : errT ss old o = .iface 68 (.agg #[.int .i64 1, .int .i64 0]) := by
  unfold errT Gate.turnRes; rw [if_neg h]; rfl
theorem errT_yes {ss : List Shp} {old o : Ob} (h : (Gate.checkRes ss old).1 = 0 ∧ (Gate.checkRes ss o).1 = 0 ∧ Gate.same old o = true) : errT ss old o = errV (Gate.fixRes (Gate.shapeOf ss old.kd).fs old.vs o.vs).1 (Gate.fixRes (Gate.shapeOf ss old.kd).fs old.vs o.vs).2 := by
  unfold errT Gate.turnRes; rw [if_pos h]

theorem turnRes_zero {ss : List Shp} {old o : Ob} (h : (Gate.turnRes ss old o).1 = 0) : (Gate.turnRes ss old o).2 = 0 := by
  unfold Gate.turnRes at h ⊢
  split at h
  · rename_i hh; rw [if_pos hh]; exact fixRes_zero h
  · cases h

theorem toldBy_turn (ss : List Shp) (old o : Ob) (w : World) (hL : Laid w) : Calls Tryz.prog 19 #[errT ss old o] w fun e w' => e = .returned (.tuple #[.int .i64 (Gate.turnRes ss old o).1, .int .i64 (Gate.turnRes ss old o).2]) ∧ Below w.heap.size w w' := by
  by_cases h : (Gate.turnRes ss old o).1 = 0
  · have h2 := turnRes_zero h
    unfold errT; rw [h, h2, errV_zero]; exact toldBy_nil w
  · unfold errT; rw [errV_of h]; exact toldBy_hit _ _ w hL

theorem same_kd {old o : Ob} (h : Gate.same old o = true) : old.kd = o.kd ∧ old.nm = o.nm ∧ old.tm = o.tm := by
  unfold Gate.same at h; simpa using h

def stageT (ss : List Shp) (old o : Ob) : Nat → Bool
  | 0 => true
  | 1 => Gate.same old o
  | _ => Gate.same old o && decide ((Gate.fixRes (Gate.shapeOf ss old.kd).fs old.vs o.vs).1 = 0)

set_option maxHeartbeats 4000000 in
theorem turnError_any (a0 : Option Addr) (cap0 : Nat) (ss : List Shp) (old o : Ob) (a a' b b' : Option Addr) (cap cap' dap dap' : Nat) (w : World) (hw : ShpsAt w a0 ss) (ho : ObAt w old a a') (hn : ObAt w o b b') :
    Calls Tryz.prog 20 #[.slice a0 ss.length cap0, .agg #[.string old.kd, .string old.nm, .string old.tm, .slice a old.vs.length cap, .bool old.en, .slice a' old.hs.length cap', .int .i64 old.vr], .agg #[.string o.kd, .string o.nm, .string o.tm, .slice b o.vs.length dap, .bool o.en, .slice b' o.hs.length dap', .int .i64 o.vr]] w
      fun e w' => e = .returned (errT ss old o) ∧ Below w.heap.size w w' := by
  have hb2 : ∀ o1 o2, Below w.heap.size w ((w.alloc o1).alloc o2) := fun o1 o2 => below2' w o1 o2
  by_cases hold : (Gate.checkRes ss old).1 = 0
  rotate_left
  · have HV : Hid (errO ss old = .iface 68 (.agg #[.int .i64 (Gate.checkRes ss old).1, .int .i64 (Gate.checkRes ss old).2])) := errV_of hold
    have HR : Hid (errT ss old o = .iface 68 (.agg #[.int .i64 1, .int .i64 0])) := errT_not (fun h => hold h.1)
    clear hold
    go_enter Tryz.func20, Tryz.ntmps20
    go_wp2_with fail
    refine (as_ret HV.out (objectError_any _ _ _ _ _ _ _ _ _ (hw.mono (hb2 _ _)) (ho.mono (hb2 _ _)))).mono ?_
    rintro e w1 ⟨rfl, hb1⟩
    have hB1 := (hb2 _ _).trans (hb1.mono (by simp; omega))
    clear hb1
    go_wp2_with fail
    go_ret
    exact ⟨by rw [HR.out]; rfl, hB1⟩
  have HVo : Hid (errO ss old = .nilIface) := by unfold Hid errO; rw [hold]; rfl
  by_cases hnew : (Gate.checkRes ss o).1 = 0
  rotate_left
  · have HV : Hid (errO ss o = .iface 68 (.agg #[.int .i64 (Gate.checkRes ss o).1, .int .i64 (Gate.checkRes ss o).2])) := errV_of hnew
    have HR : Hid (errT ss old o = .iface 68 (.agg #[.int .i64 1, .int .i64 0])) := errT_not (fun h => hnew h.2.1)
    clear hold hnew
    go_enter Tryz.func20, Tryz.ntmps20
    go_wp2_with fail
    refine (as_ret HVo.out (objectError_any _ _ _ _ _ _ _ _ _ (hw.mono (hb2 _ _)) (ho.mono (hb2 _ _)))).mono ?_
    rintro e w1 ⟨rfl, hb1⟩
    have hX1 := box_later (wk := (w.alloc (.cells #[.string old.kd, .string old.nm, .string old.tm, .slice a old.vs.length cap, .bool old.en, .slice a' old.hs.length cap', .int .i64 old.vr] 32)).alloc (.cells #[.string o.kd, .string o.nm, .string o.tm, .slice b o.vs.length dap, .bool o.en, .slice b' o.hs.length dap', .int .i64 o.vr] 32)) (b := w.heap.size) (X := #[.string old.kd, .string old.nm, .string old.tm, .slice a old.vs.length cap, .bool old.en, .slice a' old.hs.length cap', .int .i64 old.vr]) (fun j => by rw [World.cell?_alloc_lt _ _ ⟨w.heap.size, j, none⟩ (by simp)]; exact box_new w _ _ j) (by simp; omega) hb1
    have hY1 := box_later (box_new (w.alloc (.cells #[.string old.kd, .string old.nm, .string old.tm, .slice a old.vs.length cap, .bool old.en, .slice a' old.hs.length cap', .int .i64 old.vr] 32)) _ _) (by simp) hb1
    simp only [World.size_alloc] at hY1
    have hz1 : w.heap.size + 1 < w1.heap.size := by have := hb1.size; simp at this; omega
    have hB1 := (hb2 _ _).trans (hb1.mono (by simp; omega))
    clear hb1
    go_wp2_with fail
    refine (as_ret HV.out (objectError_any _ _ _ _ _ _ _ _ _ (hw.mono hB1) (hn.mono hB1))).mono ?_
    rintro e w2 ⟨rfl, hb3⟩
    have hB2 := hB1.trans (hb3.mono hB1.size)
    clear hb3
    go_wp2_with fail
    go_ret
    exact ⟨by rw [HR.out]; rfl, hB2⟩
  have HVn : Hid (errO ss o = .nilIface) := by unfold Hid errO; rw [hnew]; rfl
  have HOld : Hid ((Gate.checkRes ss old).1 = 0) := hold
  have HNew : Hid ((Gate.checkRes ss o).1 = 0) := hnew
  clear hold hnew
  go_enter Tryz.func20, Tryz.ntmps20
  go_wp2_with fail
  refine (as_ret HVo.out (objectError_any _ _ _ _ _ _ _ _ _ (hw.mono (hb2 _ _)) (ho.mono (hb2 _ _)))).mono ?_
  rintro e w1 ⟨rfl, hb1⟩
  have hX1 := box_later (wk := (w.alloc (.cells #[.string old.kd, .string old.nm, .string old.tm, .slice a old.vs.length cap, .bool old.en, .slice a' old.hs.length cap', .int .i64 old.vr] 32)).alloc (.cells #[.string o.kd, .string o.nm, .string o.tm, .slice b o.vs.length dap, .bool o.en, .slice b' o.hs.length dap', .int .i64 o.vr] 32)) (b := w.heap.size) (X := #[.string old.kd, .string old.nm, .string old.tm, .slice a old.vs.length cap, .bool old.en, .slice a' old.hs.length cap', .int .i64 old.vr]) (fun j => by rw [World.cell?_alloc_lt _ _ ⟨w.heap.size, j, none⟩ (by simp)]; exact box_new w _ _ j) (by simp; omega) hb1
  have hY1 := box_later (box_new (w.alloc (.cells #[.string old.kd, .string old.nm, .string old.tm, .slice a old.vs.length cap, .bool old.en, .slice a' old.hs.length cap', .int .i64 old.vr] 32)) _ _) (by simp) hb1
  simp only [World.size_alloc] at hY1
  have hz1 : w.heap.size + 1 < w1.heap.size := by have := hb1.size; simp at this; omega
  have hB1 := (hb2 _ _).trans (hb1.mono (by simp; omega))
  clear hb1
  go_wp2_with fail
  refine (as_ret HVn.out (objectError_any _ _ _ _ _ _ _ _ _ (hw.mono hB1) (hn.mono hB1))).mono ?_
  rintro e w2 ⟨rfl, hb3⟩
  have hX2 := box_later hX1 (by omega) hb3
  have hY2 := box_later hY1 hz1 hb3
  have hz2 := Nat.lt_of_lt_of_le hz1 hb3.size
  have hB2 := hB1.trans (hb3.mono hB1.size)
  clear hb3 hX1 hY1 hz1 hB1
  go_wp2_with fail
  refine (shapeOf_any _ _ _ _ _ (hw.mono hB2)).mono ?_
  rintro e w3 ⟨fa, fcap, rfl, hfl0, hb3⟩
  have hX3 := box_later hX2 (by omega) hb3
  have hY3 := box_later hY2 hz2 hb3
  have hz3 := Nat.lt_of_lt_of_le hz2 hb3.size
  have hB3 := hB2.trans (hb3.mono hB2.size)
  have hfl := hfl0.mono hb3
  clear hb3 hX2 hY2 hz2 hB2 hfl0
  go_wp2_with fail
  go_loopw [33] (fun i wr => ∃ k : Nat, k ≤ 2 ∧ i = .int .i64 k ∧ stageT ss old o k = true ∧ Below (w3.heap.size + 1 + 1) ((w3.alloc (.cells #[.string (Gate.shapeOf ss old.kd).kd, .slice fa (Gate.shapeOf ss old.kd).fs.length fcap] 49)).alloc (.cells #[.func (.func 34) #[] #[], .func (.func 35) #[] #[]] 76)) wr) (fun i _ => 2 - (intOf i).toNat)
  case atStart => exact ⟨0, Nat.zero_le _, rfl, rfl, Below.refl _ _⟩
  case round =>
    obtain ⟨k, hk, rfl, hstg, hBr⟩ := hrel
    have HStg : Hid (stageT ss old o k = true) := hstg
    clear hstg
    have hszr : w3.heap.size + 1 < wr.heap.size := by have := hBr.size; simp at this; omega
    have hB3r : Below w3.heap.size w3 wr := (below2' _ _ _).trans (hBr.mono (by omega))
    have hB : Below w.heap.size w wr := hB3.trans (hB3r.mono (by omega))
    have hXr := box_later hX3 (by omega) hB3r
    have hYr := box_later hY3 hz3 hB3r
    have hSr : ∀ j, wr.cell? ⟨w3.heap.size, j, none⟩ = (#[.string (Gate.shapeOf ss old.kd).kd, .slice fa (Gate.shapeOf ss old.kd).fs.length fcap] : Array Value)[j]? := fun j => (hBr.cell (p := ⟨w3.heap.size, j, none⟩) (by simp; omega)).trans (by rw [World.cell?_alloc_lt _ _ ⟨w3.heap.size, j, none⟩ (by simp)]; exact box_new w3 _ _ j)
    have hFr : ∀ j, wr.cell? ⟨w3.heap.size + 1, j, none⟩ = (#[.func (.func 34) #[] #[], .func (.func 35) #[] #[]] : Array Value)[j]? := fun j => (hBr.cell (p := ⟨w3.heap.size + 1, j, none⟩) (by simp)).trans (by rw [World.cell?_alloc_at _ _ _ _ (by simp)])
    have hflr := hfl.mono hB3r
    have hor := ho.mono hB
    have hnr := hn.mono hB
    clear hX3 hY3 hfl hB3r
    have hw3r : w.heap.size + 1 < wr.heap.size := by omega
    have hcases : k = 0 ∨ k = 1 ∨ k = 2 := by omega
    rcases hcases with rfl | rfl | rfl
    · by_cases hc : Gate.same old o = true
      · have HV : Hid (wholeErr (Gate.same old o) = .nilIface) := by unfold Hid; rw [hc]; rfl
        have HS : Hid (stageT ss old o (0 + 1) = true) := hc
        clear hc
        go_wp2_with fail
        refine (as_ret HV.out (checkSame_any _ _ _ _ _ _ _ _ _ _ _ _ _ _ _)).mono ?_
        rintro e w4 ⟨rfl, hb4⟩
        go_wp2_with fail
        exact ⟨⟨0 + 1, by omega, by rfl, HS.out, hBr.trans (hb4.mono (by omega))⟩, by simp [intOf]⟩
      · have hc' : Gate.same old o = false := by simpa using hc
        have HV : Hid (wholeErr (Gate.same old o) = .iface 68 (.agg #[.int .i64 1, .int .i64 0])) := by unfold Hid; rw [hc']; rfl
        have HW : Hid (errT ss old o = .iface 68 (.agg #[.int .i64 1, .int .i64 0])) := errT_not (fun h => hc h.2.2)
        clear hc hc'
        go_wp2_with fail
        refine (as_ret HV.out (checkSame_any _ _ _ _ _ _ _ _ _ _ _ _ _ _ _)).mono ?_
        rintro e w4 ⟨rfl, hb4⟩
        go_wp2_with fail
        go_ret
        exact ⟨by rw [HW.out]; rfl, hB.trans (hb4.mono (by omega))⟩
    · have hsm : Gate.same old o = true := HStg.out
      have HW : Hid (errT ss old o = errV (Gate.fixRes (Gate.shapeOf ss old.kd).fs old.vs o.vs).1 (Gate.fixRes (Gate.shapeOf ss old.kd).fs old.vs o.vs).2) := errT_yes ⟨HOld.out, HNew.out, hsm⟩
      have HC1 : Hid (old.vs.length = (Gate.shapeOf ss old.kd).fs.length) := count_of_whole (whole_of_zero HOld.out)
      have HC2 : Hid (o.vs.length = (Gate.shapeOf ss old.kd).fs.length) := by rw [(same_kd hsm).1]; exact count_of_whole (whole_of_zero HNew.out)
      by_cases hc : (Gate.fixRes (Gate.shapeOf ss old.kd).fs old.vs o.vs).1 = 0
      · have HV : Hid (errV (Gate.fixRes (Gate.shapeOf ss old.kd).fs old.vs o.vs).1 (Gate.fixRes (Gate.shapeOf ss old.kd).fs old.vs o.vs).2 = .nilIface) := by unfold Hid; rw [hc]; rfl
        have HS : Hid (stageT ss old o (1 + 1) = true) := by simp [stageT, hsm, hc, Hid]
        clear hc hsm
        go_wp2_with fail
        refine (as_ret HV.out (checkFixed_any _ _ _ _ _ _ _ _ _ _ _ _ _ _ _ hflr hor hnr HC1.out HC2.out)).mono ?_
        rintro e w4 ⟨rfl, hb4⟩
        go_wp2_with fail
        exact ⟨⟨1 + 1, by omega, by rfl, HS.out, hBr.trans (hb4.mono (by omega))⟩, by simp [intOf]⟩
      · have HV : Hid (errV (Gate.fixRes (Gate.shapeOf ss old.kd).fs old.vs o.vs).1 (Gate.fixRes (Gate.shapeOf ss old.kd).fs old.vs o.vs).2 = .iface 68 (.agg #[.int .i64 (Gate.fixRes (Gate.shapeOf ss old.kd).fs old.vs o.vs).1, .int .i64 (Gate.fixRes (Gate.shapeOf ss old.kd).fs old.vs o.vs).2])) := errV_of hc
        clear hc hsm
        go_wp2_with fail
        refine (as_ret HV.out (checkFixed_any _ _ _ _ _ _ _ _ _ _ _ _ _ _ _ hflr hor hnr HC1.out HC2.out)).mono ?_
        rintro e w4 ⟨rfl, hb4⟩
        go_wp2_with fail
        go_ret
        exact ⟨by rw [HW.out, HV.out]; rfl, hB.trans (hb4.mono (by omega))⟩
    · have HW : Hid (errT ss old o = .nilIface) := by
        have h0 := HStg.out
        simp only [stageT, Bool.and_eq_true, decide_eq_true_eq] at h0
        unfold Hid; rw [errT_yes ⟨HOld.out, HNew.out, h0.1⟩, h0.2]; rfl
      go_wp2_with fail
      go_ret
      exact ⟨by rw [HW.out]; rfl, hB⟩

set_option maxHeartbeats 1000000 in
theorem implTurned_any (a0 : Option Addr) (cap0 : Nat) (ss : List Shp) (old o : Ob) (a a' b b' : Option Addr) (cap cap' dap dap' : Nat) (w : World) (hL : Laid w) (hw : ShpsAt w a0 ss) (ho : ObAt w old a a') (hn : ObAt w o b b') :
    Calls Tryz.prog 9 #[.slice a0 ss.length cap0, .agg #[.string old.kd, .string old.nm, .string old.tm, .slice a old.vs.length cap, .bool old.en, .slice a' old.hs.length cap', .int .i64 old.vr], .agg #[.string o.kd, .string o.nm, .string o.tm, .slice b o.vs.length dap, .bool o.en, .slice b' o.hs.length dap', .int .i64 o.vr]] w
      fun e w' => e = .returned (.tuple #[.int .i64 (Gate.turned ss old o).1, .int .i64 (Gate.turned ss old o).2]) ∧ Below w.heap.size w w' := by
  have hb2 : ∀ o1 o2, Below w.heap.size w ((w.alloc o1).alloc o2) := fun o1 o2 => below2' w o1 o2
  by_cases hs : Gate.shapesOk ss = true
  · have HS : Hid (Gate.shapesOk ss = true) := hs
    have HC : Hid (Gate.turned ss old o = Gate.turnRes ss old o) := by unfold Hid Gate.turned; rw [if_pos hs]
    clear hs
    go_enter Tryz.func9, Tryz.ntmps9
    go_wp2_with fail
    refine (as_bool HS.out (implShapesOk_any _ _ _ _ (hw.mono (hb2 _ _)))).mono ?_
    rintro e w1 ⟨rfl, hb1⟩
    have hX1 := box_later (wk := (w.alloc (.cells #[.string old.kd, .string old.nm, .string old.tm, .slice a old.vs.length cap, .bool old.en, .slice a' old.hs.length cap', .int .i64 old.vr] 32)).alloc (.cells #[.string o.kd, .string o.nm, .string o.tm, .slice b o.vs.length dap, .bool o.en, .slice b' o.hs.length dap', .int .i64 o.vr] 32)) (b := w.heap.size) (X := #[.string old.kd, .string old.nm, .string old.tm, .slice a old.vs.length cap, .bool old.en, .slice a' old.hs.length cap', .int .i64 old.vr]) (fun j => by rw [World.cell?_alloc_lt _ _ ⟨w.heap.size, j, none⟩ (by simp)]; exact box_new w _ _ j) (by simp; omega) hb1
    have hY1 := box_later (box_new (w.alloc (.cells #[.string old.kd, .string old.nm, .string old.tm, .slice a old.vs.length cap, .bool old.en, .slice a' old.hs.length cap', .int .i64 old.vr] 32)) _ _) (by simp) hb1
    simp only [World.size_alloc] at hY1
    have hz1 : w.heap.size + 1 < w1.heap.size := by have := hb1.size; simp at this; omega
    have hB1 := (hb2 _ _).trans (hb1.mono (by simp; omega))
    clear hb1
    go_wp2_with fail
    refine (turnError_any _ _ _ _ _ _ _ _ _ _ _ _ _ _ (hw.mono hB1) (ho.mono hB1) (hn.mono hB1)).mono ?_
    rintro e w2 ⟨rfl, hb3⟩
    have hB2 := hB1.trans (hb3.mono hB1.size)
    clear hb3 hX1 hY1
    go_wp2_with fail
    refine (toldBy_turn _ _ _ _ (hL.mono hB2)).mono ?_
    rintro e w3 ⟨rfl, hb3⟩
    have hB3 := hB2.trans (hb3.mono hB2.size)
    clear hb3
    go_wp2_with fail
    go_ret2
    exact ⟨by rw [HC.out]; rfl, hB3⟩
  · have HS : Hid (Gate.shapesOk ss = false) := by simpa [Hid] using hs
    have HC : Hid (Gate.turned ss old o = (1, 0)) := by unfold Hid Gate.turned; rw [if_neg hs]
    clear hs
    go_enter Tryz.func9, Tryz.ntmps9
    go_wp2_with fail
    refine (as_bool HS.out (implShapesOk_any _ _ _ _ (hw.mono (hb2 _ _)))).mono ?_
    rintro e w1 ⟨rfl, hb1⟩
    go_wp2_with fail
    go_ret2
    exact ⟨by rw [HC.out]; rfl, (hb2 _ _).trans (hb1.mono (by simp; omega))⟩

end Go.Proofs.YtnacbdhibmaefaaGreatDoor

namespace Go.Proofs.YtnacbdhibmaefaaGreatDoor
open Go.RowKit

set_option maxHeartbeats 1000000 in
theorem l1Ascending_any (a : Option Addr) (cap : Nat) (ws : List ByteArray) (w : World) (hw : StrsAt w a ws) :
    Calls Tryz.prog 40 #[.slice a ws.length cap] w fun e w' => e = .returned (.bool (Gate.asc ws)) ∧ ∃ n, w' = w.drewN n := by
  have hl := hw.len
  unfold maxLen at hl
  go_enter Tryz.func40, Tryz.ntmps40
  go_wp2
  go_loopw [3] (fun i wr => ∃ k : Nat, k ≤ ws.length ∧ i = .int .i64 k ∧ Gate.up (Gate.ascAt ws) k = true ∧ ∃ n, wr = w.drewN n) (fun i _ => ws.length - (intOf i).toNat)
  case atStart => exact ⟨0, Nat.zero_le _, rfl, rfl, 0, rfl⟩
  case round =>
    obtain ⟨k, hk, rfl, hup, hwr⟩ := hrel
    have HW : Hid (∃ n, wr = w.drewN n) := hwr
    by_cases hlt : k < ws.length
    · obtain ⟨b, off, rfl, hb, hc0⟩ := hw.cells (by rintro rfl; simp at hlt)
      have hc : ∀ i (h : i < ws.length), wr.cell? ⟨b, off + i, none⟩ = some (.string ws[i]) := by obtain ⟨n, rfl⟩ := hwr; exact hc0
      have hsm := hw.small _ (List.getElem_mem hlt)
      clear hw hc0 hwr
      have hck := hc k hlt
      have hltI : (k : Int) < (ws.length : Int) := by omega
      by_cases hn : Gate.nameOk ws[k] = true
      · have hn' := hn
        by_cases hk0 : k = 0
        · have HF : Hid (Gate.up (Gate.ascAt ws) (k + 1) = true) := by subst hk0; unfold Hid; rw [Gate.up_succ, Gate.ascAt_first hlt hn]; rfl
          have hg : decide (0 < k) = false := by simp; omega
          clear hn hc hup hk0
          go_wp2
          go_quiet ((go_at_call 38; exact Calls.quiet_of_same (as_bool hn' (l1NameOk_any _ _ hsm))))
          go_wp2
          obtain ⟨n, rfl⟩ := HW.out
          exact ⟨⟨k + 1, by omega, by go_num, HF.out, n + nq, by simp⟩, by simp [intOf]; omega⟩
        · obtain ⟨m, rfl⟩ : ∃ m, k = m + 1 := ⟨k - 1, by omega⟩
          have hcm := hc m (by omega)
          have HU : Hid (Gate.up (Gate.ascAt ws) (m + 1 + 1) = Gate.less ws[m] ws[m + 1]) := by unfold Hid; rw [Gate.up_succ, hup, Gate.ascAt_more hlt hn]; rfl
          have HN : Hid (Gate.less ws[m] ws[m + 1] = false → Gate.asc ws = false) := fun h => Gate.up_not hlt (by rw [Gate.ascAt_more hlt hn]; exact h)
          clear hn hc hup hk0
          by_cases hls : Gate.less ws[m] ws[m + 1] = true
          · have hls' : Op.bytesLess ws[m].toList ws[m + 1].toList = true := hls
            have HLS : Hid (Gate.less ws[m] ws[m + 1] = true) := hls
            clear hls
            go_wp2
            go_quiet ((go_at_call 38; exact Calls.quiet_of_same (as_bool hn' (l1NameOk_any _ _ hsm))))
            go_wp2
            obtain ⟨n, rfl⟩ := HW.out
            exact ⟨⟨m + 1 + 1, by omega, by go_num, by rw [HU.out, HLS.out], n + nq, by simp⟩, by simp [intOf]; omega⟩
          · have hls' : Op.bytesLess ws[m].toList ws[m + 1].toList = false := by simpa [Gate.less] using hls
            have HLS : Hid (Gate.less ws[m] ws[m + 1] = false) := hls'
            clear hls
            go_wp2
            go_quiet ((go_at_call 38; exact Calls.quiet_of_same (as_bool hn' (l1NameOk_any _ _ hsm))))
            go_wp2
            go_ret
            refine ⟨ret_bool (HN.out HLS.out).symm, ?_⟩
            obtain ⟨n, rfl⟩ := HW.out
            exact ⟨n + nq, by simp⟩
      · have hn' : Gate.nameOk ws[k] = false := by simpa using hn
        have HF : Hid (Gate.asc ws = false) := Gate.up_not hlt (Gate.ascAt_name hlt hn')
        clear hn hc hup
        go_wp2
        go_quiet ((go_at_call 38; exact Calls.quiet_of_same (as_bool hn' (l1NameOk_any _ _ hsm))))
        go_wp2
        go_ret
        refine ⟨ret_bool HF.out.symm, ?_⟩
        obtain ⟨n, rfl⟩ := HW.out
        exact ⟨n + nq, by simp⟩
    · have HF : Hid (Gate.asc ws = true) := by
        have e : k = ws.length := by omega
        subst e; exact hup
      clear hw hup hwr
      go_wp2
      go_ret
      exact ⟨ret_bool HF.out.symm, HW.out⟩

end Go.Proofs.YtnacbdhibmaefaaGreatDoor
