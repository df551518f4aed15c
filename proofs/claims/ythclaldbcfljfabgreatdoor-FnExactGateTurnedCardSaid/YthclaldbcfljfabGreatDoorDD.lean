import Derived.Test.YthclaldbcfljfabGreatDoorDC
import Derived.Test.YthclaldbcfljfabGreatDoorCF
namespace Go.Proofs.YthclaldbcfljfabGreatDoor
open Go.RowKit

theorem turned_no {ss : List Shp} {old o : Ob} (h : ¬ ((Gate.check ss old).1 = 0 ∧ (Gate.check ss o).1 = 0 ∧ Gate.same old o = true)) : Gate.turned ss old o = (1, 0) := by
  unfold Gate.turned
  by_cases hs : Gate.shapesOk ss = true
  · rw [if_pos hs]; unfold Gate.turnRes; rw [if_neg]; unfold Gate.check at h; rwa [if_pos hs, if_pos hs] at h
  · rw [if_neg hs]
theorem turned_yes {ss : List Shp} {old o : Ob} (h : (Gate.check ss old).1 = 0 ∧ (Gate.check ss o).1 = 0 ∧ Gate.same old o = true) :
    Gate.turned ss old o = Gate.fixRes (Gate.shapeOf ss o.kd).fs old.vs o.vs ∧ Gate.wholeCount ss o = true ∧ old.vs.length = (Gate.shapeOf ss o.kd).fs.length ∧ o.vs.length = (Gate.shapeOf ss o.kd).fs.length := by
  by_cases hs : Gate.shapesOk ss = true
  · unfold Gate.check at h
    rw [if_pos hs, if_pos hs] at h
    have e := (same_kd h.2.2).1
    have w1 := whole_of_zero h.1
    have w2 := whole_of_zero h.2.1
    refine ⟨?_, ?_, ?_, count_of_whole w2⟩
    · unfold Gate.turned Gate.turnRes; rw [if_pos hs, if_pos h, e]
    · unfold Gate.whole at w2; simp only [Bool.and_eq_true] at w2; exact w2.2
    · rw [← e]; exact count_of_whole w1
  · unfold Gate.check at h; rw [if_neg hs] at h; exact absurd h.1 (by decide)

set_option maxHeartbeats 4000000 in
theorem specTurned_any (a0 : Option Addr) (cap0 : Nat) (ss : List Shp) (old o : Ob) (a a' b b' : Option Addr) (cap cap' dap dap' : Nat) (w : World) (hw : ShpsAt w a0 ss) (ho : ObAt w old a a') (hn : ObAt w o b b') :
    Calls Tryz.prog 6 #[.slice a0 ss.length cap0, .agg #[.string old.kd, .string old.nm, .string old.tm, .slice a old.vs.length cap, .bool old.en, .slice a' old.hs.length cap', .int .i64 old.vr], .agg #[.string o.kd, .string o.nm, .string o.tm, .slice b o.vs.length dap, .bool o.en, .slice b' o.hs.length dap', .int .i64 o.vr]] w
      fun e w' => e = .returned (.tuple #[.int .i64 (Gate.turned ss old o).1, .int .i64 (Gate.turned ss old o).2]) ∧ Below w.heap.size w w' := by
  have hb2 : ∀ o1 o2, Below w.heap.size w ((w.alloc o1).alloc o2) := fun o1 o2 => below2' w o1 o2
  go_enter Tryz.func6, Tryz.ntmps6
  go_wp2_with fail
  refine (specCheck_any _ _ _ _ _ _ _ _ _ (hw.mono (hb2 _ _)) (ho.mono (hb2 _ _))).mono ?_
  rintro e w1 ⟨rfl, hb1⟩
  have hX1 := box_later (wk := (w.alloc (.cells #[.string old.kd, .string old.nm, .string old.tm, .slice a old.vs.length cap, .bool old.en, .slice a' old.hs.length cap', .int .i64 old.vr] 32)).alloc (.cells #[.string o.kd, .string o.nm, .string o.tm, .slice b o.vs.length dap, .bool o.en, .slice b' o.hs.length dap', .int .i64 o.vr] 32)) (b := w.heap.size) (X := #[.string old.kd, .string old.nm, .string old.tm, .slice a old.vs.length cap, .bool old.en, .slice a' old.hs.length cap', .int .i64 old.vr]) (fun j => by rw [World.cell?_alloc_lt _ _ ⟨w.heap.size, j, none⟩ (by simp)]; exact box_new w _ _ j) (by simp; omega) hb1
  have hY1 := box_later (box_new (w.alloc (.cells #[.string old.kd, .string old.nm, .string old.tm, .slice a old.vs.length cap, .bool old.en, .slice a' old.hs.length cap', .int .i64 old.vr] 32)) _ _) (by simp) hb1
  simp only [World.size_alloc] at hY1
  have hz1 : w.heap.size + 1 < w1.heap.size := by have := hb1.size; simp at this; omega
  have hB1 := (hb2 _ _).trans (hb1.mono (by simp; omega))
  clear hb1
  go_wp2_with fail
  refine (specCheck_any _ _ _ _ _ _ _ _ _ (hw.mono hB1) (hn.mono hB1)).mono ?_
  rintro e w2 ⟨rfl, hb3⟩
  have hX2 := box_later hX1 (by omega) hb3
  have hY2 := box_later hY1 hz1 hb3
  have hz2 := Nat.lt_of_lt_of_le hz1 hb3.size
  have hB2 := hB1.trans (hb3.mono hB1.size)
  clear hb3 hX1 hY1 hz1 hB1
  by_cases hc1 : (Gate.check ss old).1 = 0
  rotate_left
  · have HR : Hid (Gate.turned ss old o = (1, 0)) := turned_no (fun h => hc1 h.1)
    have hne : ((Gate.check ss old).1 != 0) = true := by simpa using hc1
    generalize (Gate.check ss old).1 = c1 at *
    go_wp2_with fail
    go_ret2
    exact ⟨by rw [HR.out]; rfl, hB2⟩
  have hne1 : ((Gate.check ss old).1 != 0) = false := by simpa using hc1
  by_cases hc2 : (Gate.check ss o).1 = 0
  rotate_left
  · have HR : Hid (Gate.turned ss old o = (1, 0)) := turned_no (fun h => hc2 h.2.1)
    have hne : ((Gate.check ss o).1 != 0) = true := by simpa using hc2
    rw [hc1]
    clear hne1
    generalize (Gate.check ss o).1 = c2 at *
    go_wp2_with fail
    go_ret2
    exact ⟨by rw [HR.out]; rfl, hB2⟩
  have t1 := Gate.beq_toList old.kd o.kd
  have t2 := Gate.beq_toList old.nm o.nm
  have t3 := Gate.beq_toList old.tm o.tm
  by_cases hs : Gate.same old o = true
  rotate_left
  · have HR : Hid (Gate.turned ss old o = (1, 0)) := turned_no (fun h => hs h.2.2)
    rw [hc1, hc2]
    clear hne1 hc1 hc2
    have hs' : ¬ old.kd = o.kd ∨ old.kd = o.kd ∧ (¬ old.nm = o.nm ∨ old.nm = o.nm ∧ ¬ old.tm = o.tm) := by
      unfold Gate.same at hs
      simp only [Bool.and_eq_true, decide_eq_true_eq] at hs
      by_cases h1 : old.kd = o.kd
      · by_cases h2 : old.nm = o.nm
        · exact Or.inr ⟨h1, Or.inr ⟨h2, fun h3 => hs ⟨h1, h2, h3⟩⟩⟩
        · exact Or.inr ⟨h1, Or.inl h2⟩
      · exact Or.inl h1
    clear hs
    rcases hs' with h1 | ⟨h1, h2 | ⟨h2, h3⟩⟩
    · rw [decide_eq_false h1] at t1
      clear h1
      go_wp2_with fail
      go_ret2
      exact ⟨by rw [HR.out]; rfl, hB2⟩
    · rw [decide_eq_true h1] at t1
      rw [decide_eq_false h2] at t2
      clear h1 h2
      go_wp2_with fail
      go_ret2
      exact ⟨by rw [HR.out]; rfl, hB2⟩
    · rw [decide_eq_true h1] at t1
      rw [decide_eq_true h2] at t2
      rw [decide_eq_false h3] at t3
      clear h1 h2 h3
      go_wp2_with fail
      go_ret2
      exact ⟨by rw [HR.out]; rfl, hB2⟩
  obtain ⟨hR, hwc, hl1, hl2⟩ := turned_yes ⟨hc1, hc2, hs⟩
  obtain ⟨e1, e2, e3⟩ := same_kd hs
  rw [decide_eq_true e1] at t1
  rw [decide_eq_true e2] at t2
  rw [decide_eq_true e3] at t3
  have HR : Hid (Gate.turned ss old o = Gate.fixRes (Gate.shapeOf ss o.kd).fs old.vs o.vs) := hR
  have HWC : Hid (Gate.wholeCount ss o = true) := hwc
  have HL1 : Hid (old.vs.length = (Gate.shapeOf ss o.kd).fs.length) := hl1
  have HL2 : Hid (o.vs.length = (Gate.shapeOf ss o.kd).fs.length) := hl2
  rw [hc1, hc2]
  clear hR hwc hl1 hl2 e1 e2 e3 hs hc1 hc2 hne1
  go_wp2_with fail
  refine (l2Fields_yes _ _ _ _ _ _ _ _ _ (hw.mono hB2) (hn.mono hB2) HWC.out).mono ?_
  rintro e w3 ⟨fa, fcap, rfl, hfl0, hb3⟩
  have hX3 := box_later hX2 (by omega) hb3
  have hY3 := box_later hY2 hz2 hb3
  have hz3 := Nat.lt_of_lt_of_le hz2 hb3.size
  have hB3 := hB2.trans (hb3.mono hB2.size)
  have hfl := hfl0.mono hb3
  clear hb3 hX2 hY2 hz2 hB2 hfl0 t1 t2 t3
  generalize hfs : (Gate.shapeOf ss o.kd).fs = fs at *
  have hlen := hfl.len
  unfold maxLen at hlen
  go_wp2_with fail
  go_loopw [14] (fun i wr => ∃ k : Nat, k ≤ fs.length ∧ i = .int .i64 k ∧ Gate.up (Gate.fixOkAt fs old.vs o.vs) k = true ∧ Below w3.heap.size w3 wr) (fun i _ => fs.length - (intOf i).toNat)
  case atStart => exact ⟨0, Nat.zero_le _, rfl, rfl, Below.refl _ _⟩
  case round =>
    obtain ⟨k, hk, rfl, hup, hBr⟩ := hrel
    have hszr := hBr.size
    have hB : Below w.heap.size w wr := hB3.trans (hBr.mono (by omega))
    by_cases hlt : k < fs.length
    · have hXr := box_later hX3 (by omega) hBr
      have hYr := box_later hY3 hz3 hBr
      obtain ⟨b, off, rfl, hb, hr⟩ := hfl.rows (by rintro rfl; simp at hlt)
      obtain ⟨wa, wcap, hf0⟩ := hr k hlt
      have hf := hf0.mono hb hBr
      obtain ⟨c0, c1, c2, c3, c4, c5, c6, c7, c8, c9, c10⟩ := hf.load
      have hltv : k < old.vs.length := by rw [HL1.out]; exact hlt
      have hltu : k < o.vs.length := by rw [HL2.out]; exact hlt
      obtain ⟨vb, voff, rfl, hvb, hvc⟩ := ho.vals.cells (by intro h; rw [h] at hltv; simp at hltv)
      obtain ⟨ub, uoff, rfl, hub, huc⟩ := hn.vals.cells (by intro h; rw [h] at hltu; simp at hltu)
      have hcv := (hB.cell (p := ⟨vb, voff + k, none⟩) hvb).trans (hvc k hltv)
      have hcu := (hB.cell (p := ⟨ub, uoff + k, none⟩) hub).trans (huc k hltu)
      have hltI : (k : Int) < (fs.length : Int) := by omega
      have hltV : (k : Int) < (old.vs.length : Int) := by omega
      have hltU : (k : Int) < (o.vs.length : Int) := by omega
      have HFX : Hid (Gate.fixOkAt fs old.vs o.vs k = Gate.fixOk fs[k] old.vs[k] o.vs[k]) := Gate.fixOkAt_eq hlt hltv hltu
      have HS : Hid (Gate.fixOk fs[k] old.vs[k] o.vs[k] = true → Gate.up (Gate.fixOkAt fs old.vs o.vs) (k + 1) = true) := fun h => by
        rw [Gate.up_succ, hup, HFX.out, h]; rfl
      have HN : Hid (Gate.fixOk fs[k] old.vs[k] o.vs[k] = false → Gate.turned ss old o = (4, (k : Int))) := fun h => by
        rw [HR.out]; exact Gate.fixRes_at hlt hup (by rw [HFX.out, h])
      clear hX3 hY3 hr hf0 hf hup
      have tv := Gate.beq_toList old.vs[k] o.vs[k]
      by_cases hfx : fs[k].fx = true
      rotate_left
      · have hfx' : fs[k].fx = false := by simpa using hfx
        have HU : Hid (Gate.fixOk fs[k] old.vs[k] o.vs[k] = true) := by unfold Hid Gate.fixOk; rw [hfx']; rfl
        clear hfx tv
        go_wp2_with fail
        go_quiet (fail)
        go_wp2_with fail
        exact ⟨⟨k + 1, by omega, by go_num, HS.out HU.out, below_drewN hBr _⟩, by simp [intOf]; omega⟩
      by_cases he : old.vs[k].size = 0
      · have hne : old.vs[k].toList.isEmpty = true := by rw [Gate.isEmpty_of_size]; simp [he]
        have HU : Hid (Gate.fixOk fs[k] old.vs[k] o.vs[k] = true) := by unfold Hid Gate.fixOk; rw [hfx, decide_eq_true he]; rfl
        clear he tv
        go_wp2_with fail
        go_quiet (fail)
        go_wp2_with fail
        exact ⟨⟨k + 1, by omega, by go_num, HS.out HU.out, below_drewN hBr _⟩, by simp [intOf]; omega⟩
      have hne : old.vs[k].toList.isEmpty = false := by rw [Gate.isEmpty_of_size]; simp [he]
      by_cases hq : old.vs[k] = o.vs[k]
      · have HU : Hid (Gate.fixOk fs[k] old.vs[k] o.vs[k] = true) := by unfold Hid Gate.fixOk; rw [hfx, decide_eq_true hq]; simp
        rw [decide_eq_true hq] at tv
        clear he hq
        go_wp2_with fail
        go_quiet (fail)
        go_wp2_with fail
        exact ⟨⟨k + 1, by omega, by go_num, HS.out HU.out, below_drewN hBr _⟩, by simp [intOf]; omega⟩
      · have HU : Hid (Gate.fixOk fs[k] old.vs[k] o.vs[k] = false) := by unfold Hid Gate.fixOk; rw [hfx, decide_eq_false hq, decide_eq_false he]; rfl
        rw [decide_eq_false hq] at tv
        clear he hq
        go_wp2_with fail
        go_quiet (fail)
        go_wp2_with fail
        go_ret2
        exact ⟨by rw [HN.out HU.out]; rfl, below_drewN hB _⟩
    · have HF : Hid (Gate.turned ss old o = (0, 0)) := by
        have e : k = fs.length := by omega
        subst e; rw [HR.out]; exact Gate.fixRes_none hup
      clear hup
      go_wp2_with fail
      go_ret2
      exact ⟨by rw [HF.out]; rfl, hB⟩

end Go.Proofs.YthclaldbcfljfabGreatDoor
