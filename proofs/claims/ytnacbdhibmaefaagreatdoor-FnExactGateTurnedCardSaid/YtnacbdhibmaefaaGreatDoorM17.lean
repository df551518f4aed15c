import Derived.Test.YtnacbdhibmaefaaGreatDoorM16
import Derived.Deep.RegionWith
import Derived.Test.YtnacbdhibmaefaaGreatDoorM13
import Derived.Test.YtnacbdhibmaefaaGreatDoorM05
import Derived.Test.YtnacbdhibmaefaaGreatDoorM06
import Derived.Test.YtnacbdhibmaefaaGreatDoorM08
import Derived.Deep.RegionHeld3
namespace Go.Proofs.YtnacbdhibmaefaaGreatDoor
open Go.RowKit

set_option maxHeartbeats 4000000 in
theorem l2Check_any (a0 : Option Addr) (cap0 : Nat) (ss : List Shp) (o : Ob) (a a' : Option Addr) (cap cap' : Nat) (w : World) (hw : ShpsAt w a0 ss) (ho : ObAt w o a a') :
    Calls Tryz.prog 25 #[.slice a0 ss.length cap0, .agg #[.string o.kd, .string o.nm, .string o.tm, .slice a o.vs.length cap, .bool o.en, .slice a' o.hs.length cap', .int .i64 o.vr]] w fun e w' => e = .returned (.tuple #[.int .i64 (Gate.checkRes ss o).1, .int .i64 (Gate.checkRes ss o).2]) ∧ Below w.heap.size w w' := by
  have hlh := ho.holds.len
  unfold maxLen at hlh
  by_cases hc : Gate.wholeCount ss o = true
  rotate_left
  · have HCt : Hid (Gate.wholeCount ss o = false) := by simpa [Hid] using hc
    have HR : Hid (Gate.checkRes ss o = (1, 0)) := by unfold Hid Gate.checkRes; rw [if_neg]; unfold Gate.whole; rw [HCt.out]; simp
    clear hc
    go_enter Tryz.func25, Tryz.ntmps25
    go_wp2_with fail
    refine (l2Fields_no _ _ _ _ _ _ _ _ _ (hw.mono ((Below.refl _ _).alloc (Nat.le_refl _) _)) (ho.mono ((Below.refl _ _).alloc (Nat.le_refl _) _)) HCt.out).mono ?_
    rintro e w1 ⟨v, rfl, hb1⟩
    have hB1 : Below w.heap.size w w1 := ((Below.refl _ _).alloc (Nat.le_refl _) _).trans (hb1.mono (by simp))
    clear hb1
    go_wp2_with fail
    go_ret2
    exact ⟨by rw [HR.out]; rfl, hB1⟩
  have HCt : Hid (Gate.wholeCount ss o = true) := hc
  by_cases hn : Gate.nameOk o.nm = true
  rotate_left
  · have hn' : Gate.nameOk o.nm = false := by simpa using hn
    have HNm : Hid (Gate.nameOk o.nm = false) := hn'
    clear hn hc
    have HR : Hid (Gate.checkRes ss o = (1, 0)) := by
      unfold Hid Gate.checkRes; rw [if_neg]; unfold Gate.whole Gate.wholeNames; simp [hn']
    go_enter Tryz.func25, Tryz.ntmps25
    go_wp2_with fail
    refine (l2Fields_yes _ _ _ _ _ _ _ _ _ (hw.mono ((Below.refl _ _).alloc (Nat.le_refl _) _)) (ho.mono ((Below.refl _ _).alloc (Nat.le_refl _) _)) HCt.out).mono ?_
    rintro e w1 ⟨fa, fcap, rfl, hfl0, hb1⟩
    have hX1 := box_later (box_new w _ _) (by simp) hb1
    have hz1 : w.heap.size < w1.heap.size := by have := hb1.size; simp at this; omega
    have hB1 : Below w.heap.size w w1 := ((Below.refl _ _).alloc (Nat.le_refl _) _).trans (hb1.mono (by simp))
    have hfl1 := hfl0.mono hb1
    clear hb1 hfl0
    go_wp2_with fail
    refine (as_bool HNm.out (l1NameOk_any _ _ ho.small.nm)).mono ?_
    rintro e w2 ⟨rfl, rfl⟩
    go_wp2_with fail
    go_ret2
    exact ⟨by rw [HR.out]; rfl, hB1⟩

  have HNm : Hid (Gate.nameOk o.nm = true) := hn
  by_cases ht : Gate.nameOk o.tm = true
  rotate_left
  · have ht' : Gate.nameOk o.tm = false := by simpa using ht
    have HTm : Hid (Gate.nameOk o.tm = false) := ht'
    clear ht hc hn
    have HR : Hid (Gate.checkRes ss o = (1, 0)) := by
      unfold Hid Gate.checkRes; rw [if_neg]; unfold Gate.whole Gate.wholeNames; simp [ht']
    go_enter Tryz.func25, Tryz.ntmps25
    go_wp2_with fail
    refine (l2Fields_yes _ _ _ _ _ _ _ _ _ (hw.mono ((Below.refl _ _).alloc (Nat.le_refl _) _)) (ho.mono ((Below.refl _ _).alloc (Nat.le_refl _) _)) HCt.out).mono ?_
    rintro e w1 ⟨fa, fcap, rfl, hfl0, hb1⟩
    have hX1 := box_later (box_new w _ _) (by simp) hb1
    have hz1 : w.heap.size < w1.heap.size := by have := hb1.size; simp at this; omega
    have hB1 : Below w.heap.size w w1 := ((Below.refl _ _).alloc (Nat.le_refl _) _).trans (hb1.mono (by simp))
    have hfl1 := hfl0.mono hb1
    clear hb1 hfl0
    go_wp2_with fail
    refine (as_bool HNm.out (l1NameOk_any _ _ ho.small.nm)).mono ?_
    rintro e w2 ⟨rfl, rfl⟩
    go_wp2_with fail
    refine (as_bool HTm.out (l1NameOk_any _ _ ho.small.tm)).mono ?_
    rintro e w3 ⟨rfl, rfl⟩
    go_wp2_with fail
    go_ret2
    exact ⟨by rw [HR.out]; rfl, hB1⟩

  have HTm : Hid (Gate.nameOk o.tm = true) := ht
  by_cases h3 : o.hs.length ≤ 3
  rotate_left
  · have h3I : (3 : Int) < (o.hs.length : Int) := by omega
    clear ht hc hn
    have HR : Hid (Gate.checkRes ss o = (1, 0)) := by
      unfold Hid Gate.checkRes; rw [if_neg]; unfold Gate.whole Gate.wholeHolds; simp [show ¬ o.hs.length ≤ 3 by omega]
    go_enter Tryz.func25, Tryz.ntmps25
    go_wp2_with fail
    refine (l2Fields_yes _ _ _ _ _ _ _ _ _ (hw.mono ((Below.refl _ _).alloc (Nat.le_refl _) _)) (ho.mono ((Below.refl _ _).alloc (Nat.le_refl _) _)) HCt.out).mono ?_
    rintro e w1 ⟨fa, fcap, rfl, hfl0, hb1⟩
    have hX1 := box_later (box_new w _ _) (by simp) hb1
    have hz1 : w.heap.size < w1.heap.size := by have := hb1.size; simp at this; omega
    have hB1 : Below w.heap.size w w1 := ((Below.refl _ _).alloc (Nat.le_refl _) _).trans (hb1.mono (by simp))
    have hfl1 := hfl0.mono hb1
    clear hb1 hfl0
    go_wp2_with fail
    refine (as_bool HNm.out (l1NameOk_any _ _ ho.small.nm)).mono ?_
    rintro e w2 ⟨rfl, rfl⟩
    go_wp2_with fail
    refine (as_bool HTm.out (l1NameOk_any _ _ ho.small.tm)).mono ?_
    rintro e w3 ⟨rfl, rfl⟩
    go_wp2_with fail
    go_ret2
    exact ⟨by rw [HR.out]; rfl, hB1⟩

  have h3I : (o.hs.length : Int) ≤ 3 := by omega
  by_cases ha : Gate.asc o.hs = true
  rotate_left
  · have ha' : Gate.asc o.hs = false := by simpa using ha
    have HAsc : Hid (Gate.asc o.hs = false) := ha'
    clear ht hc hn ha
    have HR : Hid (Gate.checkRes ss o = (1, 0)) := by
      unfold Hid Gate.checkRes; rw [if_neg]; unfold Gate.whole Gate.wholeHolds; simp [ha']
    go_enter Tryz.func25, Tryz.ntmps25
    go_wp2_with fail
    refine (l2Fields_yes _ _ _ _ _ _ _ _ _ (hw.mono ((Below.refl _ _).alloc (Nat.le_refl _) _)) (ho.mono ((Below.refl _ _).alloc (Nat.le_refl _) _)) HCt.out).mono ?_
    rintro e w1 ⟨fa, fcap, rfl, hfl0, hb1⟩
    have hX1 := box_later (box_new w _ _) (by simp) hb1
    have hz1 : w.heap.size < w1.heap.size := by have := hb1.size; simp at this; omega
    have hB1 : Below w.heap.size w w1 := ((Below.refl _ _).alloc (Nat.le_refl _) _).trans (hb1.mono (by simp))
    have hfl1 := hfl0.mono hb1
    clear hb1 hfl0
    go_wp2_with fail
    refine (as_bool HNm.out (l1NameOk_any _ _ ho.small.nm)).mono ?_
    rintro e w2 ⟨rfl, rfl⟩
    go_wp2_with fail
    refine (as_bool HTm.out (l1NameOk_any _ _ ho.small.tm)).mono ?_
    rintro e w3 ⟨rfl, rfl⟩
    go_wp2_with fail
    refine (as_bool HAsc.out (l1Ascending_any _ _ _ _ (ho.holds.mono hB1))).mono ?_
    rintro e w4 ⟨rfl, nd, rfl⟩
    go_wp2_with fail
    go_ret2
    exact ⟨by rw [HR.out]; rfl, below_drewN hB1 _⟩

  have HAsc : Hid (Gate.asc o.hs = true) := ha
  by_cases hv : 0 ≤ o.vr ∧ o.vr ≤ 1000000
  rotate_left
  · have HV : Hid (¬ (0 ≤ o.vr ∧ o.vr ≤ 1000000)) := hv
    have HR : Hid (Gate.checkRes ss o = (1, 0)) := by
      unfold Hid Gate.checkRes; rw [if_neg]; unfold Gate.whole Gate.wholeVersion; intro h; simp only [Bool.and_eq_true, decide_eq_true_eq] at h; exact hv h.1.2
    clear ht hc hn ha hv
    go_enter Tryz.func25, Tryz.ntmps25
    go_wp2_with fail
    refine (l2Fields_yes _ _ _ _ _ _ _ _ _ (hw.mono ((Below.refl _ _).alloc (Nat.le_refl _) _)) (ho.mono ((Below.refl _ _).alloc (Nat.le_refl _) _)) HCt.out).mono ?_
    rintro e w1 ⟨fa, fcap, rfl, hfl0, hb1⟩
    have hX1 := box_later (box_new w _ _) (by simp) hb1
    have hz1 : w.heap.size < w1.heap.size := by have := hb1.size; simp at this; omega
    have hB1 : Below w.heap.size w w1 := ((Below.refl _ _).alloc (Nat.le_refl _) _).trans (hb1.mono (by simp))
    have hfl1 := hfl0.mono hb1
    clear hb1 hfl0
    go_wp2_with fail
    refine (as_bool HNm.out (l1NameOk_any _ _ ho.small.nm)).mono ?_
    rintro e w2 ⟨rfl, rfl⟩
    go_wp2_with fail
    refine (as_bool HTm.out (l1NameOk_any _ _ ho.small.tm)).mono ?_
    rintro e w3 ⟨rfl, rfl⟩
    go_wp2_with fail
    refine (as_bool HAsc.out (l1Ascending_any _ _ _ _ (ho.holds.mono hB1))).mono ?_
    rintro e w4 ⟨rfl, nd, rfl⟩
    go_wp2_with fail
    refine (l1In_no _ _ _ _ (by have := HV.out; omega)).mono ?_
    rintro e w5 ⟨rfl, rfl⟩
    go_wp2_with fail
    go_ret2
    exact ⟨by rw [HR.out]; rfl, below_drewN hB1 _⟩
  obtain ⟨hv0, hv1⟩ := hv
  have HR : Hid (Gate.checkRes ss o = Gate.valRes (Gate.shapeOf ss o.kd).fs o.vs) := by
    unfold Hid Gate.checkRes; rw [if_pos]; unfold Gate.whole Gate.wholeNames Gate.wholeHolds Gate.wholeVersion; simp [hc, hn, ht, h3, ha, hv0, hv1]
  have HLn : Hid (o.vs.length = (Gate.shapeOf ss o.kd).fs.length) := by
    unfold Gate.wholeCount at hc; simp only [Bool.and_eq_true, decide_eq_true_eq] at hc; exact hc.2
  clear hc hn ht ha
  go_enter Tryz.func25, Tryz.ntmps25
  go_wp2_with fail
  refine (l2Fields_yes _ _ _ _ _ _ _ _ _ (hw.mono ((Below.refl _ _).alloc (Nat.le_refl _) _)) (ho.mono ((Below.refl _ _).alloc (Nat.le_refl _) _)) HCt.out).mono ?_
  rintro e w1 ⟨fa, fcap, rfl, hfl0, hb1⟩
  have hX1 := box_later (box_new w _ _) (by simp) hb1
  have hz1 : w.heap.size < w1.heap.size := by have := hb1.size; simp at this; omega
  have hB1 : Below w.heap.size w w1 := ((Below.refl _ _).alloc (Nat.le_refl _) _).trans (hb1.mono (by simp))
  have hfl1 := hfl0.mono hb1
  clear hb1 hfl0
  go_wp2_with fail
  refine (as_bool HNm.out (l1NameOk_any _ _ ho.small.nm)).mono ?_
  rintro e w2 ⟨rfl, rfl⟩
  go_wp2_with fail
  refine (as_bool HTm.out (l1NameOk_any _ _ ho.small.tm)).mono ?_
  rintro e w3 ⟨rfl, rfl⟩
  go_wp2_with fail
  refine (as_bool HAsc.out (l1Ascending_any _ _ _ _ (ho.holds.mono hB1))).mono ?_
  rintro e w4 ⟨rfl, nd, rfl⟩
  go_wp2_with fail
  refine (l1In_yes _ _ _ _ hv0 hv1).mono ?_
  rintro e w5 ⟨rfl, rfl⟩
  generalize hfs : (Gate.shapeOf ss o.kd).fs = fs at *
  have hlen := hfl1.len
  unfold maxLen at hlen
  go_wp2_with fail
  go_loopw [8] (fun i wr => ∃ k : Nat, k ≤ fs.length ∧ i = .int .i64 k ∧ Gate.up (Gate.valOkAt fs o.vs) k = true ∧ Below w3.heap.size w3 wr) (fun i _ => fs.length - (intOf i).toNat)
  case atStart => exact ⟨0, Nat.zero_le _, rfl, rfl, below_drewN (Below.refl _ _) _⟩
  case round =>
    obtain ⟨k, hk, rfl, hup, hBr⟩ := hrel
    have hszr := hBr.size
    have hB : Below w.heap.size w wr := hB1.trans (hBr.mono (by omega))
    by_cases hlt : k < fs.length
    · have hXr := box_later hX1 hz1 hBr
      obtain ⟨b, off, rfl, hb, hr⟩ := hfl1.rows (by rintro rfl; simp at hlt)
      obtain ⟨wa, wcap, hf0⟩ := hr k hlt
      have hf := hf0.mono hb hBr
      obtain ⟨c0, c1, c2, c3, c4, c5, c6, c7, c8, c9, c10⟩ := hf.load
      have hst := hf.strs
      have hltv : k < o.vs.length := by rw [HLn.out]; exact hlt
      obtain ⟨vb, voff, rfl, hvb, hvc⟩ := ho.vals.cells (by intro h; rw [h] at hltv; simp at hltv)
      have hcv := (hB.cell (p := ⟨vb, voff + k, none⟩) hvb).trans (hvc k hltv)
      have hvs := ho.vals.small _ (List.getElem_mem hltv)
      have hltI : (k : Int) < (fs.length : Int) := by omega
      have hltV : (k : Int) < (o.vs.length : Int) := by omega
      have HFX : Hid (Gate.faultIx fs o.vs k = Gate.faultAt fs[k] o.vs[k]) := Gate.faultIx_eq hlt hltv
      have HS : Hid (Gate.faultAt fs[k] o.vs[k] = 0 → Gate.up (Gate.valOkAt fs o.vs) (k + 1) = true) := fun h => by
        rw [Gate.up_succ, hup]; unfold Gate.valOkAt; rw [HFX.out, h]; rfl
      have HN : Hid (∀ n : Int, n ≠ 0 → Gate.faultAt fs[k] o.vs[k] = n → Gate.checkRes ss o = (n, (k : Int))) := fun n hn0 h => by
        rw [HR.out, Gate.valRes_at hlt hup (by unfold Gate.valOkAt; rw [HFX.out, h]; simp [hn0]), HFX.out, h]
      clear hX1 hr hf0 hf hup
      by_cases he : o.vs[k].size = 0
      · have hne : o.vs[k].toList.isEmpty = true := by rw [Gate.isEmpty_of_size]; simp [he]
        have HE : Hid (o.vs[k].size = 0) := he
        clear he
        by_cases hmu : fs[k].mu = true
        · have HM : Hid (fs[k].mu = true) := hmu
          go_wp2_with fail
          go_ret2
          have hv := HN.out 2 (by decide) (by unfold Gate.faultAt; rw [if_pos HE.out, if_pos HM.out])
          exact ⟨by rw [hv]; rfl, hB⟩
        · have hmu' : fs[k].mu = false := by simpa using hmu
          have HM : Hid (fs[k].mu = false) := hmu'
          clear hmu
          go_wp2_with fail
          exact ⟨⟨k + 1, by omega, by go_num, HS.out (by unfold Gate.faultAt; rw [if_pos HE.out, HM.out]; rfl), hBr⟩, by simp [intOf]; omega⟩
      · have hne : o.vs[k].toList.isEmpty = false := by rw [Gate.isEmpty_of_size]; simp [he]
        have HE : Hid (¬ o.vs[k].size = 0) := he
        clear he
        by_cases hfit : Gate.fits fs[k].kd fs[k].ls fs[k].ms fs[k].ws o.vs[k] = true
        all_goals
          first
            | (have HFT : Hid (Gate.fits fs[k].kd fs[k].ls fs[k].ms fs[k].ws o.vs[k] = true) := hfit)
            | (have HFT : Hid (Gate.fits fs[k].kd fs[k].ls fs[k].ms fs[k].ws o.vs[k] = false) := by simpa [Hid] using hfit)
          clear hfit
          go_wp2_with fail
          have hbx : Below wr.heap.size wr wr.drew := (Below.refl _ _).drew
          go_region_with (go_at_call 42; refine (as_bool HFT.out (specFits_any _ _ _ _ _ _ _ _ _ _ _ _ _ _ _ hvs (by exact hst.mono hbx))).mono ?_; rintro e w3 ⟨rfl, hb3⟩)
          all_goals go_wp2_with fail
        all_goals have hB3 : Below wr.heap.size wr w3 := hbx.trans hb3
        all_goals first
          | (have hft : Gate.fits fs[k].kd fs[k].ls fs[k].ms fs[k].ws o.vs[k] = true := HFT.out
             exact ⟨⟨k + 1, by omega, by go_num, HS.out (by unfold Gate.faultAt; rw [if_neg HE.out]; unfold Gate.fitsF; rw [hft]; rfl), hBr.trans (hB3.mono hszr)⟩, by simp [intOf]; omega⟩)
          | (have hft : Gate.fits fs[k].kd fs[k].ls fs[k].ms fs[k].ws o.vs[k] = false := HFT.out
             go_ret2
             have hv := HN.out 3 (by decide) (by unfold Gate.faultAt; rw [if_neg HE.out]; unfold Gate.fitsF; rw [hft]; rfl)
             exact ⟨by rw [hv]; rfl, hB.trans (hB3.mono (by omega))⟩)
    · have HF : Hid (Gate.checkRes ss o = (0, 0)) := by
        have e : k = fs.length := by omega
        subst e; rw [HR.out]; exact Gate.valRes_none hup
      clear hup
      go_wp2_with fail
      go_ret2
      exact ⟨by rw [HF.out]; rfl, hB⟩

set_option maxHeartbeats 1000000 in
theorem specCheck_any (a0 : Option Addr) (cap0 : Nat) (ss : List Shp) (o : Ob) (a a' : Option Addr) (cap cap' : Nat) (w : World) (hw : ShpsAt w a0 ss) (ho : ObAt w o a a') :
    Calls Tryz.prog 14 #[.slice a0 ss.length cap0, .agg #[.string o.kd, .string o.nm, .string o.tm, .slice a o.vs.length cap, .bool o.en, .slice a' o.hs.length cap', .int .i64 o.vr]] w fun e w' => e = .returned (.tuple #[.int .i64 (Gate.check ss o).1, .int .i64 (Gate.check ss o).2]) ∧ Below w.heap.size w w' := by
  by_cases hs : Gate.shapesOk ss = true
  · have HS : Hid (Gate.shapesOk ss = true) := hs
    have HC : Hid (Gate.check ss o = Gate.checkRes ss o) := by unfold Hid Gate.check; rw [if_pos hs]
    clear hs
    go_enter Tryz.func14, Tryz.ntmps14
    go_wp2_with fail
    refine (as_bool HS.out (specShapesOk_any _ _ _ _ (hw.mono ((Below.refl _ _).alloc (Nat.le_refl _) _)))).mono ?_
    rintro e w1 ⟨rfl, hb1⟩
    have hX1 := box_later (box_new w _ _) (by simp) hb1
    have hz1 : w.heap.size < w1.heap.size := by have := hb1.size; simp at this; omega
    have hB1 : Below w.heap.size w w1 := ((Below.refl _ _).alloc (Nat.le_refl _) _).trans (hb1.mono (by simp))
    clear hb1
    go_wp2_with fail
    refine (l2Check_any _ _ _ _ _ _ _ _ _ (hw.mono hB1) (ho.mono hB1)).mono ?_
    rintro e w2 ⟨rfl, hb2⟩
    have hB2 := hB1.trans (hb2.mono (by omega))
    clear hb2 hX1
    go_wp2_with fail
    go_ret2
    exact ⟨by rw [HC.out]; rfl, hB2⟩
  · have HS : Hid (Gate.shapesOk ss = false) := by simpa [Hid] using hs
    have HC : Hid (Gate.check ss o = (1, 0)) := by unfold Hid Gate.check; rw [if_neg hs]
    clear hs
    go_enter Tryz.func14, Tryz.ntmps14
    go_wp2_with fail
    refine (as_bool HS.out (specShapesOk_any _ _ _ _ (hw.mono ((Below.refl _ _).alloc (Nat.le_refl _) _)))).mono ?_
    rintro e w1 ⟨rfl, hb1⟩
    go_wp2_with fail
    go_ret2
    exact ⟨by rw [HC.out]; rfl, ((Below.refl _ _).alloc (Nat.le_refl _) _).trans (hb1.mono (by simp))⟩

end Go.Proofs.YtnacbdhibmaefaaGreatDoor

namespace Go.Proofs.YtnacbdhibmaefaaGreatDoor
open Go.RowKit

theorem turned_no {ss : List Shp} {old o : Ob} (h : ¬ ((Gate.check ss old).1 = 0 ∧ (Gate.check ss o).1 = 0 ∧ Gate.same old o = true)) : Gate.turned ss old o = (1, 0) := by
  unfold Gate.turned
  by_cases hs : Gate.shapesOk ss = true
  · rw [if_pos hs]; unfold Gate.turnRes; rw [if_neg]; unfold Gate.check at h; rwa [if_pos hs, if_pos hs] at h
  · rw [if_neg hs]
theorem turned_yes {ss : List Shp} {old o : Ob} (h : (Gate.check ss old).1 = 0 ∧ (Gate.check ss o).1 = 0 ∧ Gate.same old o = true) :
    Gate.turned ss old o = Gate.fixRes (Gate.shapeOf ss o.kd).fs old.vs o.vs ∧ Gate.wholeCount ss o = true ∧ old.vs.length = (Gate.shapeOf ss o.kd).fs.length ∧ o.vs.length = (Gate.shapeOf ss o.kd).fs.length := by
  by_cases hs : Gate.shapesOk ss = true
  · unfold Gate.check at h
    rw [if_pos hs, if_pos hs] at h
    have e := (same_kd h.2.2).1
    have w1 := whole_of_zero h.1
    have w2 := whole_of_zero h.2.1
    refine ⟨?_, ?_, ?_, count_of_whole w2⟩
    · unfold Gate.turned Gate.turnRes; rw [if_pos hs, if_pos h, e]
    · unfold Gate.whole at w2; simp only [Bool.and_eq_true] at w2; exact w2.2
    · rw [← e]; exact count_of_whole w1
  · unfold Gate.check at h; rw [if_neg hs] at h; exact absurd h.1 (by decide)

set_option maxHeartbeats 4000000 in
theorem specTurned_any (a0 : Option Addr) (cap0 : Nat) (ss : List Shp) (old o : Ob) (a a' b b' : Option Addr) (cap cap' dap dap' : Nat) (w : World) (hw : ShpsAt w a0 ss) (ho : ObAt w old a a') (hn : ObAt w o b b') :
    Calls Tryz.prog 6 #[.slice a0 ss.length cap0, .agg #[.string old.kd, .string old.nm, .string old.tm, .slice a old.vs.length cap, .bool old.en, .slice a' old.hs.length cap', .int .i64 old.vr], .agg #[.string o.kd, .string o.nm, .string o.tm, .slice b o.vs.length dap, .bool o.en, .slice b' o.hs.length dap', .int .i64 o.vr]] w
      fun e w' => e = .returned (.tuple #[.int .i64 (Gate.turned ss old o).1, .int .i64 (Gate.turned ss old o).2]) ∧ Below w.heap.size w w' := by
  have hb2 : ∀ o1 o2, Below w.heap.size w ((w.alloc o1).alloc o2) := fun o1 o2 => below2' w o1 o2
  go_enter Tryz.func6, Tryz.ntmps6
  go_wp2_with fail
  refine (specCheck_any _ _ _ _ _ _ _ _ _ (hw.mono (hb2 _ _)) (ho.mono (hb2 _ _))).mono ?_
  rintro e w1 ⟨rfl, hb1⟩
  have hX1 := box_later (wk := (w.alloc (.cells #[.string old.kd, .string old.nm, .string old.tm, .slice a old.vs.length cap, .bool old.en, .slice a' old.hs.length cap', .int .i64 old.vr] 32)).alloc (.cells #[.string o.kd, .string o.nm, .string o.tm, .slice b o.vs.length dap, .bool o.en, .slice b' o.hs.length dap', .int .i64 o.vr] 32)) (b := w.heap.size) (X := #[.string old.kd, .string old.nm, .string old.tm, .slice a old.vs.length cap, .bool old.en, .slice a' old.hs.length cap', .int .i64 old.vr]) (fun j => by rw [World.cell?_alloc_lt _ _ ⟨w.heap.size, j, none⟩ (by simp)]; exact box_new w _ _ j) (by simp; omega) hb1
  have hY1 := box_later (box_new (w.alloc (.cells #[.string old.kd, .string old.nm, .string old.tm, .slice a old.vs.length cap, .bool old.en, .slice a' old.hs.length cap', .int .i64 old.vr] 32)) _ _) (by simp) hb1
  simp only [World.size_alloc] at hY1
  have hz1 : w.heap.size + 1 < w1.heap.size := by have := hb1.size; simp at this; omega
  have hB1 := (hb2 _ _).trans (hb1.mono (by simp; omega))
  clear hb1
  go_wp2_with fail
  refine (specCheck_any _ _ _ _ _ _ _ _ _ (hw.mono hB1) (hn.mono hB1)).mono ?_
  rintro e w2 ⟨rfl, hb3⟩
  have hX2 := box_later hX1 (by omega) hb3
  have hY2 := box_later hY1 hz1 hb3
  have hz2 := Nat.lt_of_lt_of_le hz1 hb3.size
  have hB2 := hB1.trans (hb3.mono hB1.size)
  clear hb3 hX1 hY1 hz1 hB1
  by_cases hc1 : (Gate.check ss old).1 = 0
  rotate_left
  · have HR : Hid (Gate.turned ss old o = (1, 0)) := turned_no (fun h => hc1 h.1)
    have hne : ((Gate.check ss old).1 != 0) = true := by simpa using hc1
    generalize (Gate.check ss old).1 = c1 at *
    go_wp2_with fail
    go_ret2
    exact ⟨by rw [HR.out]; rfl, hB2⟩
  have hne1 : ((Gate.check ss old).1 != 0) = false := by simpa using hc1
  by_cases hc2 : (Gate.check ss o).1 = 0
  rotate_left
  · have HR : Hid (Gate.turned ss old o = (1, 0)) := turned_no (fun h => hc2 h.2.1)
    have hne : ((Gate.check ss o).1 != 0) = true := by simpa using hc2
    rw [hc1]
    clear hne1
    generalize (Gate.check ss o).1 = c2 at *
    go_wp2_with fail
    go_ret2
    exact ⟨by rw [HR.out]; rfl, hB2⟩
  have t1 := Gate.beq_toList old.kd o.kd
  have t2 := Gate.beq_toList old.nm o.nm
  have t3 := Gate.beq_toList old.tm o.tm
  by_cases hs : Gate.same old o = true
  rotate_left
  · have HR : Hid (Gate.turned ss old o = (1, 0)) := turned_no (fun h => hs h.2.2)
    rw [hc1, hc2]
    clear hne1 hc1 hc2
    have hs' : ¬ old.kd = o.kd ∨ old.kd = o.kd ∧ (¬ old.nm = o.nm ∨ old.nm = o.nm ∧ ¬ old.tm = o.tm) := by
      unfold Gate.same at hs
      simp only [Bool.and_eq_true, decide_eq_true_eq] at hs
      by_cases h1 : old.kd = o.kd
      · by_cases h2 : old.nm = o.nm
        · exact Or.inr ⟨h1, Or.inr ⟨h2, fun h3 => hs ⟨h1, h2, h3⟩⟩⟩
        · exact Or.inr ⟨h1, Or.inl h2⟩
      · exact Or.inl h1
    clear hs
    rcases hs' with h1 | ⟨h1, h2 | ⟨h2, h3⟩⟩
    · rw [decide_eq_false h1] at t1
      clear h1
      go_wp2_with fail
      go_ret2
      exact ⟨by rw [HR.out]; rfl, hB2⟩
    · rw [decide_eq_true h1] at t1
      rw [decide_eq_false h2] at t2
      clear h1 h2
      go_wp2_with fail
      go_ret2
      exact ⟨by rw [HR.out]; rfl, hB2⟩
    · rw [decide_eq_true h1] at t1
      rw [decide_eq_true h2] at t2
      rw [decide_eq_false h3] at t3
      clear h1 h2 h3
      go_wp2_with fail
      go_ret2
      exact ⟨by rw [HR.out]; rfl, hB2⟩
  obtain ⟨hR, hwc, hl1, hl2⟩ := turned_yes ⟨hc1, hc2, hs⟩
  obtain ⟨e1, e2, e3⟩ := same_kd hs
  rw [decide_eq_true e1] at t1
  rw [decide_eq_true e2] at t2
  rw [decide_eq_true e3] at t3
  have HR : Hid (Gate.turned ss old o = Gate.fixRes (Gate.shapeOf ss o.kd).fs old.vs o.vs) := hR
  have HWC : Hid (Gate.wholeCount ss o = true) := hwc
  have HL1 : Hid (old.vs.length = (Gate.shapeOf ss o.kd).fs.length) := hl1
  have HL2 : Hid (o.vs.length = (Gate.shapeOf ss o.kd).fs.length) := hl2
  rw [hc1, hc2]
  clear hR hwc hl1 hl2 e1 e2 e3 hs hc1 hc2 hne1
  go_wp2_with fail
  refine (l2Fields_yes _ _ _ _ _ _ _ _ _ (hw.mono hB2) (hn.mono hB2) HWC.out).mono ?_
  rintro e w3 ⟨fa, fcap, rfl, hfl0, hb3⟩
  have hX3 := box_later hX2 (by omega) hb3
  have hY3 := box_later hY2 hz2 hb3
  have hz3 := Nat.lt_of_lt_of_le hz2 hb3.size
  have hB3 := hB2.trans (hb3.mono hB2.size)
  have hfl := hfl0.mono hb3
  clear hb3 hX2 hY2 hz2 hB2 hfl0 t1 t2 t3
  generalize hfs : (Gate.shapeOf ss o.kd).fs = fs at *
  have hlen := hfl.len
  unfold maxLen at hlen
  go_wp2_with fail
  go_loopw [14] (fun i wr => ∃ k : Nat, k ≤ fs.length ∧ i = .int .i64 k ∧ Gate.up (Gate.fixOkAt fs old.vs o.vs) k = true ∧ Below w3.heap.size w3 wr) (fun i _ => fs.length - (intOf i).toNat)
  case atStart => exact ⟨0, Nat.zero_le _, rfl, rfl, Below.refl _ _⟩
  case round =>
    obtain ⟨k, hk, rfl, hup, hBr⟩ := hrel
    have hszr := hBr.size
    have hB : Below w.heap.size w wr := hB3.trans (hBr.mono (by omega))
    by_cases hlt : k < fs.length
    · have hXr := box_later hX3 (by omega) hBr
      have hYr := box_later hY3 hz3 hBr
      obtain ⟨b, off, rfl, hb, hr⟩ := hfl.rows (by rintro rfl; simp at hlt)
      obtain ⟨wa, wcap, hf0⟩ := hr k hlt
      have hf := hf0.mono hb hBr
      obtain ⟨c0, c1, c2, c3, c4, c5, c6, c7, c8, c9, c10⟩ := hf.load
      have hltv : k < old.vs.length := by rw [HL1.out]; exact hlt
      have hltu : k < o.vs.length := by rw [HL2.out]; exact hlt
      obtain ⟨vb, voff, rfl, hvb, hvc⟩ := ho.vals.cells (by intro h; rw [h] at hltv; simp at hltv)
      obtain ⟨ub, uoff, rfl, hub, huc⟩ := hn.vals.cells (by intro h; rw [h] at hltu; simp at hltu)
      have hcv := (hB.cell (p := ⟨vb, voff + k, none⟩) hvb).trans (hvc k hltv)
      have hcu := (hB.cell (p := ⟨ub, uoff + k, none⟩) hub).trans (huc k hltu)
      have hltI : (k : Int) < (fs.length : Int) := by omega
      have hltV : (k : Int) < (old.vs.length : Int) := by omega
      have hltU : (k : Int) < (o.vs.length : Int) := by omega
      have HFX : Hid (Gate.fixOkAt fs old.vs o.vs k = Gate.fixOk fs[k] old.vs[k] o.vs[k]) := Gate.fixOkAt_eq hlt hltv hltu
      have HS : Hid (Gate.fixOk fs[k] old.vs[k] o.vs[k] = true → Gate.up (Gate.fixOkAt fs old.vs o.vs) (k + 1) = true) := fun h => by
        rw [Gate.up_succ, hup, HFX.out, h]; rfl
      have HN : Hid (Gate.fixOk fs[k] old.vs[k] o.vs[k] = false → Gate.turned ss old o = (4, (k : Int))) := fun h => by
        rw [HR.out]; exact Gate.fixRes_at hlt hup (by rw [HFX.out, h])
      clear hX3 hY3 hr hf0 hf hup
      have tv := Gate.beq_toList old.vs[k] o.vs[k]
      by_cases hfx : fs[k].fx = true
      rotate_left
      · have hfx' : fs[k].fx = false := by simpa using hfx
        have HU : Hid (Gate.fixOk fs[k] old.vs[k] o.vs[k] = true) := by unfold Hid Gate.fixOk; rw [hfx']; rfl
        clear hfx tv
        go_wp2_with fail
        go_quiet (fail)
        go_wp2_with fail
        exact ⟨⟨k + 1, by omega, by go_num, HS.out HU.out, below_drewN hBr _⟩, by simp [intOf]; omega⟩
      by_cases he : old.vs[k].size = 0
      · have hne : old.vs[k].toList.isEmpty = true := by rw [Gate.isEmpty_of_size]; simp [he]
        have HU : Hid (Gate.fixOk fs[k] old.vs[k] o.vs[k] = true) := by unfold Hid Gate.fixOk; rw [hfx, decide_eq_true he]; rfl
        clear he tv
        go_wp2_with fail
        go_quiet (fail)
        go_wp2_with fail
        exact ⟨⟨k + 1, by omega, by go_num, HS.out HU.out, below_drewN hBr _⟩, by simp [intOf]; omega⟩
      have hne : old.vs[k].toList.isEmpty = false := by rw [Gate.isEmpty_of_size]; simp [he]
      by_cases hq : old.vs[k] = o.vs[k]
      · have HU : Hid (Gate.fixOk fs[k] old.vs[k] o.vs[k] = true) := by unfold Hid Gate.fixOk; rw [hfx, decide_eq_true hq]; simp
        rw [decide_eq_true hq] at tv
        clear he hq
        go_wp2_with fail
        go_quiet (fail)
        go_wp2_with fail
        exact ⟨⟨k + 1, by omega, by go_num, HS.out HU.out, below_drewN hBr _⟩, by simp [intOf]; omega⟩
      · have HU : Hid (Gate.fixOk fs[k] old.vs[k] o.vs[k] = false) := by unfold Hid Gate.fixOk; rw [hfx, decide_eq_false hq, decide_eq_false he]; rfl
        rw [decide_eq_false hq] at tv
        clear he hq
        go_wp2_with fail
        go_quiet (fail)
        go_wp2_with fail
        go_ret2
        exact ⟨by rw [HN.out HU.out]; rfl, below_drewN hB _⟩
    · have HF : Hid (Gate.turned ss old o = (0, 0)) := by
        have e : k = fs.length := by omega
        subst e; rw [HR.out]; exact Gate.fixRes_none hup
      clear hup
      go_wp2_with fail
      go_ret2
      exact ⟨by rw [HF.out]; rfl, hB⟩

end Go.Proofs.YtnacbdhibmaefaaGreatDoor

namespace Go.Proofs.YtnacbdhibmaefaaGreatDoor
open Go.RowKit

set_option maxHeartbeats 4000000 in
theorem lawTurned_any (a0 : Option Addr) (cap0 : Nat) (ss : List Shp) (old o : Ob) (a a' b b' : Option Addr) (cap cap' dap dap' : Nat) (w : World) (hL : Laid w) (hw : ShpsAt w a0 ss) (ho : ObAt w old a a') (hn : ObAt w o b b') :
    Calls Tryz.prog 3 #[.slice a0 ss.length cap0, .agg #[.string old.kd, .string old.nm, .string old.tm, .slice a old.vs.length cap, .bool old.en, .slice a' old.hs.length cap', .int .i64 old.vr], .agg #[.string o.kd, .string o.nm, .string o.tm, .slice b o.vs.length dap, .bool o.en, .slice b' o.hs.length dap', .int .i64 o.vr]] w fun e w' => e = .returned (.bool true) ∧ Below w.heap.size w w' := by
  have hb0 : Below w.heap.size w ((w.alloc (.cells #[.string old.kd, .string old.nm, .string old.tm, .slice a old.vs.length cap, .bool old.en, .slice a' old.hs.length cap', .int .i64 old.vr] 25)).alloc (.cells #[.string o.kd, .string o.nm, .string o.tm, .slice b o.vs.length dap, .bool o.en, .slice b' o.hs.length dap', .int .i64 o.vr] 25)) := below2' _ _ _
  have hX0 : ∀ j, ((w.alloc (.cells #[.string old.kd, .string old.nm, .string old.tm, .slice a old.vs.length cap, .bool old.en, .slice a' old.hs.length cap', .int .i64 old.vr] 25)).alloc (.cells #[.string o.kd, .string o.nm, .string o.tm, .slice b o.vs.length dap, .bool o.en, .slice b' o.hs.length dap', .int .i64 o.vr] 25)).cell? ⟨w.heap.size, j, none⟩ = (#[.string old.kd, .string old.nm, .string old.tm, .slice a old.vs.length cap, .bool old.en, .slice a' old.hs.length cap', .int .i64 old.vr] : Array Value)[j]? := fun j => by
    rw [World.cell?_alloc_lt _ _ ⟨w.heap.size, j, none⟩ (by simp)]; exact box_new w _ _ j
  have hY0 : ∀ j, ((w.alloc (.cells #[.string old.kd, .string old.nm, .string old.tm, .slice a old.vs.length cap, .bool old.en, .slice a' old.hs.length cap', .int .i64 old.vr] 25)).alloc (.cells #[.string o.kd, .string o.nm, .string o.tm, .slice b o.vs.length dap, .bool o.en, .slice b' o.hs.length dap', .int .i64 o.vr] 25)).cell? ⟨w.heap.size + 1, j, none⟩ = (#[.string o.kd, .string o.nm, .string o.tm, .slice b o.vs.length dap, .bool o.en, .slice b' o.hs.length dap', .int .i64 o.vr] : Array Value)[j]? := fun j => by
    simp
  by_cases hsz : (shpsSz ss : Int) ≤ 1048576
  rotate_left
  · clear hX0 hY0
    go_enter Tryz.func3, Tryz.ntmps3
    go_wp2_with fail
    refine (szGateShapeS_any _ _ _ _ _ (hw.mono hb0) (by omega) (by omega)).mono ?_
    rintro e w1 ⟨rfl, hb1⟩
    rw [szRes_no (by omega)]
    go_wp2_with fail
    go_ret
    exact ⟨rfl, hb0.trans (hb1.mono (by simp; omega))⟩
  have HLS : Hid (ss.length ≤ 1048576 ∧ ∀ i (h : i < ss.length), ss[i].fs.length ≤ 1048576 ∧ ∀ j (h' : j < ss[i].fs.length), ss[i].fs[j].ws.length ≤ 1048576) := shps_few hsz
  have hneg : decide (1048576 - (shpsSz ss : Int) < 0) = false := by simp; omega
  by_cases hoz : (obSz old : Int) ≤ 1048576 - (shpsSz ss : Int)
  rotate_left
  · go_enter Tryz.func3, Tryz.ntmps3
    go_wp2_with fail
    refine (szGateShapeS_any _ _ _ _ _ (hw.mono hb0) (by omega) (by omega)).mono ?_
    rintro e w1 ⟨rfl, hb1⟩
    rw [szRes_yes hsz]
    have hX1 := box_later hX0 (by simp; omega) hb1
    have hY1 := box_later hY0 (by simp) hb1
    have hz1 : w.heap.size + 1 < w1.heap.size := by have := hb1.size; simp at this; omega
    have hB1 := hb0.trans (hb1.mono (by simp; omega))
    clear hb1 hb0 hX0 hY0
    go_wp2_with fail
    refine (szGateObject_any _ _ _ _ _ _ _ (ho.mono hB1) (by omega) (by omega)).mono ?_
    rintro e w2 ⟨rfl, hb2⟩
    rw [szRes_no (by omega)]
    go_wp2_with fail
    go_ret
    exact ⟨rfl, hB1.trans (hb2.mono hB1.size)⟩
  have HLO : Hid (old.vs.length ≤ 1048576 ∧ old.hs.length ≤ 1048576) := ob_few hoz (by omega)
  have hneg' : decide (1048576 - (shpsSz ss : Int) - (obSz old : Int) < 0) = false := by simp; omega
  by_cases hnz : (obSz o : Int) ≤ 1048576 - (shpsSz ss : Int) - (obSz old : Int)
  rotate_left
  · go_enter Tryz.func3, Tryz.ntmps3
    go_wp2_with fail
    refine (szGateShapeS_any _ _ _ _ _ (hw.mono hb0) (by omega) (by omega)).mono ?_
    rintro e w1 ⟨rfl, hb1⟩
    rw [szRes_yes hsz]
    have hX1 := box_later hX0 (by simp; omega) hb1
    have hY1 := box_later hY0 (by simp) hb1
    have hz1 : w.heap.size + 1 < w1.heap.size := by have := hb1.size; simp at this; omega
    have hB1 := hb0.trans (hb1.mono (by simp; omega))
    clear hb1 hb0 hX0 hY0
    go_wp2_with fail
    refine (szGateObject_any _ _ _ _ _ _ _ (ho.mono hB1) (by omega) (by omega)).mono ?_
    rintro e w2 ⟨rfl, hb2⟩
    rw [szRes_yes hoz]
    have hX2 := box_later hX1 (by omega) hb2
    have hY2 := box_later hY1 hz1 hb2
    have hz2 := Nat.lt_of_lt_of_le hz1 hb2.size
    have hB2 := hB1.trans (hb2.mono hB1.size)
    clear hX1 hY1 hz1 hB1 hb2
    go_wp2_with fail
    refine (szGateObject_any _ _ _ _ _ _ _ (hn.mono hB2) (by omega) (by omega)).mono ?_
    rintro e w2' ⟨rfl, hb2⟩
    rw [szRes_no (by omega)]
    go_wp2_with fail
    go_ret
    exact ⟨rfl, hB2.trans (hb2.mono hB2.size)⟩
  have HLN : Hid (o.vs.length ≤ 1048576 ∧ o.hs.length ≤ 1048576) := ob_few hnz (by omega)
  have hneg2 : decide (1048576 - (shpsSz ss : Int) - (obSz old : Int) - (obSz o : Int) < 0) = false := by simp; omega
  have hml : ss.length ≤ maxLen := hw.len
  have hsm := hw.smalls
  go_enter Tryz.func3, Tryz.ntmps3
  go_wp2_with fail
  refine (szGateShapeS_any _ _ _ _ _ (hw.mono hb0) (by omega) (by omega)).mono ?_
  rintro e w1 ⟨rfl, hb1⟩
  rw [szRes_yes hsz]
  have hX1 := box_later hX0 (by simp; omega) hb1
  have hY1 := box_later hY0 (by simp) hb1
  have hz1 : w.heap.size + 1 < w1.heap.size := by have := hb1.size; simp at this; omega
  have hB1 := hb0.trans (hb1.mono (by simp; omega))
  clear hb1 hb0 hX0 hY0
  go_wp2_with fail
  refine (szGateObject_any _ _ _ _ _ _ _ (ho.mono hB1) (by omega) (by omega)).mono ?_
  rintro e w2 ⟨rfl, hb2⟩
  rw [szRes_yes hoz]
  have hX2 := box_later hX1 (by omega) hb2
  have hY2 := box_later hY1 hz1 hb2
  have hz2 := Nat.lt_of_lt_of_le hz1 hb2.size
  have hB2 := hB1.trans (hb2.mono hB1.size)
  clear hX1 hY1 hz1 hB1 hb2
  go_wp2_with fail
  refine (szGateObject_any _ _ _ _ _ _ _ (hn.mono hB2) (by omega) (by omega)).mono ?_
  rintro e w2' ⟨rfl, hb2⟩
  rw [szRes_yes hnz]
  have hX3 := box_later hX2 (by omega) hb2
  have hY3 := box_later hY2 hz2 hb2
  have hz3 := Nat.lt_of_lt_of_le hz2 hb2.size
  have hB3 := hB2.trans (hb2.mono hB2.size)
  clear hX2 hY2 hz2 hB2 hb2
  go_wp2_with fail
  have hB := hB3.drew
  have hX := box_later hX3 (by omega) (Below.refl w2'.heap.size w2').drew
  have hY := box_later hY3 hz3 (Below.refl w2'.heap.size w2').drew
  have hz : w.heap.size + 1 < w2'.drew.heap.size := hz3
  clear hB3 hX3 hY3 hz3
  go_region_held3 (fun w' => (∀ j, w'.cell? ⟨w.heap.size, j, none⟩ = (#[.string old.kd, .string old.nm, .string old.tm, .slice a old.vs.length cap, .bool old.en, .slice a' old.hs.length cap', .int .i64 old.vr] : Array Value)[j]?) ∧ ∀ j, w'.cell? ⟨w.heap.size + 1, j, none⟩ = (#[.string o.kd, .string o.nm, .string o.tm, .slice b o.vs.length dap, .bool o.en, .slice b' o.hs.length dap', .int .i64 o.vr] : Array Value)[j]?) (exact ⟨hX, hY⟩) (first
    | (go_at_call 7; refine (toGateShapeS_any _ _ _ _ (by exact hw.mono hB) HLS.out.1 HLS.out.2).mono ?_; rintro e w3 ⟨rfl, hown, hb⟩; have hs := hown.at hsm hml; clear hown; (try have hoo := hoo.mono hb); (try have hnn := hnn.mono hb); have hX := box_later hX (Nat.lt_of_succ_lt hz) hb; have hY := box_later hY hz hb; have hB := hB.trans (hb.mono hB.size); have hz := Nat.lt_of_lt_of_le hz hb.size; clear hb)
    | (go_at_call 8; have hready := hoo; clear hready; refine (toGateObject_any o _ _ _ _ _ (by exact hn.mono hB) HLN.out.1 HLN.out.2).mono ?_; rintro e w3 ⟨bv3, bh3, rfl, hlo, hhi, hne, hv3, hh3, hb⟩; have hnn := ob_own hn hv3 hh3; clear hlo hhi hne hv3 hh3; (try have hs := hs.mono hb); (try have hoo := hoo.mono hb); have hX := box_later hX (Nat.lt_of_succ_lt hz) hb; have hY := box_later hY hz hb; have hB := hB.trans (hb.mono hB.size); have hz := Nat.lt_of_lt_of_le hz hb.size; clear hb)
    | (go_at_call 8; refine (toGateObject_any old _ _ _ _ _ (by exact ho.mono hB) HLO.out.1 HLO.out.2).mono ?_; rintro e w3 ⟨bv3, bh3, rfl, hlo, hhi, hne, hv3, hh3, hb⟩; have hoo := ob_own ho hv3 hh3; clear hlo hhi hne hv3 hh3; (try have hs := hs.mono hb); (try have hnn := hnn.mono hb); have hX := box_later hX (Nat.lt_of_succ_lt hz) hb; have hY := box_later hY hz hb; have hB := hB.trans (hb.mono hB.size); have hz := Nat.lt_of_lt_of_le hz hb.size; clear hb)
    | (go_at_call 6; refine (specTurned_any _ _ _ _ _ _ _ _ _ _ _ _ _ _ (by exact hs) (by exact hoo) (by exact hnn)).mono ?_; rintro e w3 ⟨rfl, hb⟩; clear hs hoo hnn; have hX := box_later hX (Nat.lt_of_succ_lt hz) hb; have hY := box_later hY hz hb; have hB := hB.trans (hb.mono hB.size); have hz := Nat.lt_of_lt_of_le hz hb.size; clear hb))
  go_wp2_with fail
  refine (toGateShapeS_any _ _ _ _ (hw.mono hB) HLS.out.1 HLS.out.2).mono ?_
  rintro e w4 ⟨rfl, hown, hb⟩
  have hs4 := hown.at hsm hml
  have hX4 := box_later hX (Nat.lt_of_succ_lt hz) hb
  have hY4 := box_later hY hz hb
  have hz4 := Nat.lt_of_lt_of_le hz hb.size
  have hB4 := hB.trans (hb.mono hB.size)
  clear hown hb hX hY hz hB
  go_wp2_with fail
  refine (toGateObject_any old _ _ _ _ _ (ho.mono hB4) HLO.out.1 HLO.out.2).mono ?_
  rintro e w5 ⟨bv5, bh5, rfl, hlo, hhi, hne, hv, hh, hb⟩
  have hb' : Below w4.heap.size w4 (w5.alloc (.cells #[.string old.kd, .string old.nm, .string old.tm, .slice (some ⟨bv5, 0, none⟩) old.vs.length old.vs.length, .bool old.en, .slice (some ⟨bh5, 0, none⟩) old.hs.length old.hs.length, .int .i64 old.vr] 32)) := hb.alloc hb.size _
  have ho5 := (ob_own ho hv hh).mono ((Below.refl _ _).alloc (Nat.le_refl _) (.cells #[.string old.kd, .string old.nm, .string old.tm, .slice (some ⟨bv5, 0, none⟩) old.vs.length old.vs.length, .bool old.en, .slice (some ⟨bh5, 0, none⟩) old.hs.length old.hs.length, .int .i64 old.vr] 32))
  have hs5 := hs4.mono hb'
  have hX5 := box_later hX4 (Nat.lt_of_succ_lt hz4) hb'
  have hY5 := box_later hY4 hz4 hb'
  have hU5 := box_new w5 #[.string old.kd, .string old.nm, .string old.tm, .slice (some ⟨bv5, 0, none⟩) old.vs.length old.vs.length, .bool old.en, .slice (some ⟨bh5, 0, none⟩) old.hs.length old.hs.length, .int .i64 old.vr] 32
  have hz5 := Nat.lt_of_lt_of_le hz4 hb'.size
  have hB5 := hB4.trans (hb'.mono hB4.size)
  clear hlo hhi hne hv hh hb hb' hs4 hX4 hY4 hz4 hB4
  go_wp2_with fail
  have hu5 : w5.heap.size < (w5.alloc (.cells #[.string old.kd, .string old.nm, .string old.tm, .slice (some ⟨bv5, 0, none⟩) old.vs.length old.vs.length, .bool old.en, .slice (some ⟨bh5, 0, none⟩) old.hs.length old.hs.length, .int .i64 old.vr] 32)).heap.size := by simp
  refine (toGateObject_any o _ _ _ _ _ (hn.mono hB5) HLN.out.1 HLN.out.2).mono ?_
  rintro e w6 ⟨bv6, bh6, rfl, hlo, hhi, hne, hv, hh, hb'⟩
  have hb : Below (w5.alloc (.cells #[.string old.kd, .string old.nm, .string old.tm, .slice (some ⟨bv5, 0, none⟩) old.vs.length old.vs.length, .bool old.en, .slice (some ⟨bh5, 0, none⟩) old.hs.length old.hs.length, .int .i64 old.vr] 32)).heap.size (w5.alloc (.cells #[.string old.kd, .string old.nm, .string old.tm, .slice (some ⟨bv5, 0, none⟩) old.vs.length old.vs.length, .bool old.en, .slice (some ⟨bh5, 0, none⟩) old.hs.length old.hs.length, .int .i64 old.vr] 32)) (w6.alloc (.cells #[.string o.kd, .string o.nm, .string o.tm, .slice (some ⟨bv6, 0, none⟩) o.vs.length o.vs.length, .bool o.en, .slice (some ⟨bh6, 0, none⟩) o.hs.length o.hs.length, .int .i64 o.vr] 32)) := hb'.alloc hb'.size _
  have hn6 := (ob_own hn hv hh).mono ((Below.refl _ _).alloc (Nat.le_refl _) (.cells #[.string o.kd, .string o.nm, .string o.tm, .slice (some ⟨bv6, 0, none⟩) o.vs.length o.vs.length, .bool o.en, .slice (some ⟨bh6, 0, none⟩) o.hs.length o.hs.length, .int .i64 o.vr] 32))
  have hV6 := box_new w6 #[.string o.kd, .string o.nm, .string o.tm, .slice (some ⟨bv6, 0, none⟩) o.vs.length o.vs.length, .bool o.en, .slice (some ⟨bh6, 0, none⟩) o.hs.length o.hs.length, .int .i64 o.vr] 32
  have hv6 : w6.heap.size < (w6.alloc (.cells #[.string o.kd, .string o.nm, .string o.tm, .slice (some ⟨bv6, 0, none⟩) o.vs.length o.vs.length, .bool o.en, .slice (some ⟨bh6, 0, none⟩) o.hs.length o.hs.length, .int .i64 o.vr] 32)).heap.size := by simp
  have hs6 := hs5.mono hb
  have ho6 := ho5.mono hb
  have hX6 := box_later hX5 (Nat.lt_of_succ_lt hz5) hb
  have hY6 := box_later hY5 hz5 hb
  have hU6 := box_later hU5 hu5 hb
  have hu6 := Nat.lt_of_lt_of_le hu5 hb.size
  have hB6 := hB5.trans (hb.mono hB5.size)
  have hz6 := Nat.lt_of_lt_of_le hz5 hb.size
  clear hb hs5 ho5 hX5 hY5 hU5 hu5 hB5 hz5
  clear hlo hhi hne hv hh hb'
  go_wp2_with fail
  refine (implTurned_any _ _ _ _ _ _ _ _ _ _ _ _ _ _ (hL.mono hB6) (by exact hs6) (by exact ho6) (by exact hn6)).mono ?_
  rintro e w7 ⟨rfl, hb⟩
  have hs7 := hs6.mono hb
  have ho7 := ho6.mono hb
  have hn7 := hn6.mono hb
  have hX7 := box_later hX6 (Nat.lt_of_succ_lt hz6) hb
  have hY7 := box_later hY6 hz6 hb
  have hU7 := box_later hU6 hu6 hb
  have hV7 := box_later hV6 hv6 hb
  have hu7 := Nat.lt_of_lt_of_le hu6 hb.size
  have hv7 := Nat.lt_of_lt_of_le hv6 hb.size
  have hB7 := hB6.trans (hb.mono hB6.size)
  have hz7 := Nat.lt_of_lt_of_le hz6 hb.size
  clear hb hs6 ho6 hn6 hX6 hY6 hU6 hV6 hu6 hv6 hB6 hz6
  go_wp2_with fail
  refine (toGateShapeS_any _ _ _ _ (hw.mono hB7) HLS.out.1 HLS.out.2).mono ?_
  rintro e w8 ⟨rfl, hown, hb⟩
  have hs8' := hown.at hsm hml
  clear hown
  have hs8 := hs7.mono hb
  have ho8 := ho7.mono hb
  have hn8 := hn7.mono hb
  have hX8 := box_later hX7 (Nat.lt_of_succ_lt hz7) hb
  have hY8 := box_later hY7 hz7 hb
  have hU8 := box_later hU7 hu7 hb
  have hV8 := box_later hV7 hv7 hb
  have hu8 := Nat.lt_of_lt_of_le hu7 hb.size
  have hv8 := Nat.lt_of_lt_of_le hv7 hb.size
  have hB8 := hB7.trans (hb.mono hB7.size)
  have hz8 := Nat.lt_of_lt_of_le hz7 hb.size
  clear hb hs7 ho7 hn7 hX7 hY7 hU7 hV7 hu7 hv7 hB7 hz7
  go_wp2_with fail
  refine (eqGateShapeS_yes _ _ _ _ _ _ hs8 hs8').mono ?_
  rintro e w9 ⟨rfl, hb⟩
  clear hs8'
  have ho9 := ho8.mono hb
  have hn9 := hn8.mono hb
  have hX9 := box_later hX8 (Nat.lt_of_succ_lt hz8) hb
  have hY9 := box_later hY8 hz8 hb
  have hU9 := box_later hU8 hu8 hb
  have hV9 := box_later hV8 hv8 hb
  have hu9 := Nat.lt_of_lt_of_le hu8 hb.size
  have hv9 := Nat.lt_of_lt_of_le hv8 hb.size
  have hB9 := hB8.trans (hb.mono hB8.size)
  have hz9 := Nat.lt_of_lt_of_le hz8 hb.size
  clear hb ho8 hn8 hX8 hY8 hU8 hV8 hu8 hv8 hB8 hz8
  clear hs8
  go_wp2_with fail
  have hb0 : Below w9.heap.size w9 w9.drew := (Below.refl w9.heap.size w9).drew
  have hX := box_later hX9 (Nat.lt_of_succ_lt hz9) hb0
  have hY := box_later hY9 hz9 hb0
  have hU := box_later hU9 hu9 hb0
  have hV := box_later hV9 hv9 hb0
  have hu := Nat.lt_of_lt_of_le hu9 hb0.size
  have hv := Nat.lt_of_lt_of_le hv9 hb0.size
  have hz := Nat.lt_of_lt_of_le hz9 hb0.size
  have hB := hB9.trans (hb0.mono hB9.size)
  have hoo := ho9.mono hb0
  have hnn := hn9.mono hb0
  clear hb0 hX9 hY9 hU9 hV9 hz9 hu9 hv9 hB9 ho9 hn9
  go_region_held3 (fun w' => (∀ j, w'.cell? ⟨w.heap.size, j, none⟩ = (#[.string old.kd, .string old.nm, .string old.tm, .slice a old.vs.length cap, .bool old.en, .slice a' old.hs.length cap', .int .i64 old.vr] : Array Value)[j]?) ∧ ∀ j, w'.cell? ⟨w5.heap.size, j, none⟩ = (#[.string old.kd, .string old.nm, .string old.tm, .slice (some ⟨bv5, 0, none⟩) old.vs.length old.vs.length, .bool old.en, .slice (some ⟨bh5, 0, none⟩) old.hs.length old.hs.length, .int .i64 old.vr] : Array Value)[j]?) (exact ⟨hX, hU⟩) (first
    | (go_at_call 8; refine (toGateObject_any old _ _ _ _ _ (by exact ho.mono hB) HLO.out.1 HLO.out.2).mono ?_; rintro e w10 ⟨bv, bh, rfl, hlo, hhi, hne, hv', hh, hb⟩; have hq := ob_own ho hv' hh; clear hlo hhi hne hv' hh; have hX := box_later hX (Nat.lt_of_succ_lt hz) hb; have hY := box_later hY hz hb; have hU := box_later hU hu hb; have hV := box_later hV hv hb; have hu := Nat.lt_of_lt_of_le hu hb.size; have hv := Nat.lt_of_lt_of_le hv hb.size; have hz := Nat.lt_of_lt_of_le hz hb.size; have hB := hB.trans (hb.mono hB.size); have hoo := hoo.mono hb; have hnn := hnn.mono hb; clear hb)
    | (go_at_call 11; refine (eqGateObject_yes _ _ _ _ _ _ _ _ _ _ (by exact hoo) (by exact hq)).mono ?_; rintro e w11 ⟨rfl, hb⟩; clear hq; have hX := box_later hX (Nat.lt_of_succ_lt hz) hb; have hY := box_later hY hz hb; have hU := box_later hU hu hb; have hV := box_later hV hv hb; have hu := Nat.lt_of_lt_of_le hu hb.size; have hv := Nat.lt_of_lt_of_le hv hb.size; have hz := Nat.lt_of_lt_of_le hz hb.size; have hB := hB.trans (hb.mono hB.size); have hnn := hnn.mono hb; clear hb))
  go_wp2_with fail
  have hb0 := (Below.refl w11.heap.size w11).drew
  have hY := box_later hY hz hb0
  have hX := box_later hX (Nat.lt_of_succ_lt hz) hb0
  have hU := box_later hU hu hb0
  have hV := box_later hV hv hb0
  have hu := Nat.lt_of_lt_of_le hu hb0.size
  have hv := Nat.lt_of_lt_of_le hv hb0.size
  have hz := Nat.lt_of_lt_of_le hz hb0.size
  have hB := hB.trans (hb0.mono hB.size)
  have hnn := hnn.mono hb0
  clear hb0
  go_region_held3 (fun w' => (∀ j, w'.cell? ⟨w.heap.size + 1, j, none⟩ = (#[.string o.kd, .string o.nm, .string o.tm, .slice b o.vs.length dap, .bool o.en, .slice b' o.hs.length dap', .int .i64 o.vr] : Array Value)[j]?) ∧ ∀ j, w'.cell? ⟨w6.heap.size, j, none⟩ = (#[.string o.kd, .string o.nm, .string o.tm, .slice (some ⟨bv6, 0, none⟩) o.vs.length o.vs.length, .bool o.en, .slice (some ⟨bh6, 0, none⟩) o.hs.length o.hs.length, .int .i64 o.vr] : Array Value)[j]?) (exact ⟨hY, hV⟩) (first
    | (go_at_call 8; refine (toGateObject_any o _ _ _ _ _ (by exact hn.mono hB) HLN.out.1 HLN.out.2).mono ?_; rintro e w12 ⟨bv, bh, rfl, hlo, hhi, hne, hv', hh, hb⟩; have hq := ob_own hn hv' hh; clear hlo hhi hne hv' hh; have hX := box_later hX (Nat.lt_of_succ_lt hz) hb; have hY := box_later hY hz hb; have hU := box_later hU hu hb; have hV := box_later hV hv hb; have hu := Nat.lt_of_lt_of_le hu hb.size; have hv := Nat.lt_of_lt_of_le hv hb.size; have hz := Nat.lt_of_lt_of_le hz hb.size; have hB := hB.trans (hb.mono hB.size); have hnn := hnn.mono hb; clear hb)
    | (go_at_call 11; refine (eqGateObject_yes _ _ _ _ _ _ _ _ _ _ (by exact hnn) (by exact hq)).mono ?_; rintro e w13 ⟨rfl, hb⟩; clear hq; have hX := box_later hX (Nat.lt_of_succ_lt hz) hb; have hY := box_later hY hz hb; have hU := box_later hU hu hb; have hV := box_later hV hv hb; have hu := Nat.lt_of_lt_of_le hu hb.size; have hv := Nat.lt_of_lt_of_le hv hb.size; have hz := Nat.lt_of_lt_of_le hz hb.size; have hB := hB.trans (hb.mono hB.size); clear hb))
  go_wp2_with fail
  go_ret
  exact ⟨rfl, hB⟩

end Go.Proofs.YtnacbdhibmaefaaGreatDoor
