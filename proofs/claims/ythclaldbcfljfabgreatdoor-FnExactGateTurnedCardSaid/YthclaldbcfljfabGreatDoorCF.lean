import Derived.Test.YthclaldbcfljfabGreatDoorCE
import Derived.Deep.RegionWith
namespace Go.Proofs.YthclaldbcfljfabGreatDoor
open Go.RowKit

set_option maxHeartbeats 4000000 in
theorem l2Check_any (a0 : Option Addr) (cap0 : Nat) (ss : List Shp) (o : Ob) (a a' : Option Addr) (cap cap' : Nat) (w : World) (hw : ShpsAt w a0 ss) (ho : ObAt w o a a') :
    Calls Tryz.prog 25 #[.slice a0 ss.length cap0, .agg #[.string o.kd, .string o.nm, .string o.tm, .slice a o.vs.length cap, .bool o.en, .slice a' o.hs.length cap', .int .i64 o.vr]] w fun e w' => e = .returned (.tuple #[.int .i64 (Gate.checkRes ss o).1, .int .i64 (Gate.checkRes ss o).2]) ∧ Below w.heap.size w w' := by
  have hlh := ho.holds.len
  unfold maxLen at hlh
  by_cases hc : Gate.wholeCount ss o = true
  rotate_left
  · have HCt : Hid (Gate.wholeCount ss o = false) := by simpa [Hid] using hc
    have HR : Hid (Gate.checkRes ss o = (1, 0)) := by unfold Hid Gate.checkRes; rw [if_neg]; unfold Gate.whole; rw [HCt.out]; simp
    clear hc
    go_enter Tryz.func25, Tryz.ntmps25
    go_wp2_with fail
    refine (l2Fields_no _ _ _ _ _ _ _ _ _ (hw.mono ((Below.refl _ _).alloc (Nat.le_refl _) _)) (ho.mono ((Below.refl _ _).alloc (Nat.le_refl _) _)) HCt.out).mono ?_
    rintro e w1 ⟨v, rfl, hb1⟩
    have hB1 : Below w.heap.size w w1 := ((Below.refl _ _).alloc (Nat.le_refl _) _).trans (hb1.mono (by simp))
    clear hb1
    go_wp2_with fail
    go_ret2
    exact ⟨by rw [HR.out]; rfl, hB1⟩
  have HCt : Hid (Gate.wholeCount ss o = true) := hc
  by_cases hn : Gate.nameOk o.nm = true
  rotate_left
  · have hn' : Gate.nameOk o.nm = false := by simpa using hn
    have HNm : Hid (Gate.nameOk o.nm = false) := hn'
    clear hn hc
    have HR : Hid (Gate.checkRes ss o = (1, 0)) := by
      unfold Hid Gate.checkRes; rw [if_neg]; unfold Gate.whole Gate.wholeNames; simp [hn']
    go_enter Tryz.func25, Tryz.ntmps25
    go_wp2_with fail
    refine (l2Fields_yes _ _ _ _ _ _ _ _ _ (hw.mono ((Below.refl _ _).alloc (Nat.le_refl _) _)) (ho.mono ((Below.refl _ _).alloc (Nat.le_refl _) _)) HCt.out).mono ?_
    rintro e w1 ⟨fa, fcap, rfl, hfl0, hb1⟩
    have hX1 := box_later (box_new w _ _) (by simp) hb1
    have hz1 : w.heap.size < w1.heap.size := by have := hb1.size; simp at this; omega
    have hB1 : Below w.heap.size w w1 := ((Below.refl _ _).alloc (Nat.le_refl _) _).trans (hb1.mono (by simp))
    have hfl1 := hfl0.mono hb1
    clear hb1 hfl0
    go_wp2_with fail
    refine (as_bool HNm.out (l1NameOk_any _ _ ho.small.nm)).mono ?_
    rintro e w2 ⟨rfl, rfl⟩
    go_wp2_with fail
    go_ret2
    exact ⟨by rw [HR.out]; rfl, hB1⟩

  have HNm : Hid (Gate.nameOk o.nm = true) := hn
  by_cases ht : Gate.nameOk o.tm = true
  rotate_left
  · have ht' : Gate.nameOk o.tm = false := by simpa using ht
    have HTm : Hid (Gate.nameOk o.tm = false) := ht'
    clear ht hc hn
    have HR : Hid (Gate.checkRes ss o = (1, 0)) := by
      unfold Hid Gate.checkRes; rw [if_neg]; unfold Gate.whole Gate.wholeNames; simp [ht']
    go_enter Tryz.func25, Tryz.ntmps25
    go_wp2_with fail
    refine (l2Fields_yes _ _ _ _ _ _ _ _ _ (hw.mono ((Below.refl _ _).alloc (Nat.le_refl _) _)) (ho.mono ((Below.refl _ _).alloc (Nat.le_refl _) _)) HCt.out).mono ?_
    rintro e w1 ⟨fa, fcap, rfl, hfl0, hb1⟩
    have hX1 := box_later (box_new w _ _) (by simp) hb1
    have hz1 : w.heap.size < w1.heap.size := by have := hb1.size; simp at this; omega
    have hB1 : Below w.heap.size w w1 := ((Below.refl _ _).alloc (Nat.le_refl _) _).trans (hb1.mono (by simp))
    have hfl1 := hfl0.mono hb1
    clear hb1 hfl0
    go_wp2_with fail
    refine (as_bool HNm.out (l1NameOk_any _ _ ho.small.nm)).mono ?_
    rintro e w2 ⟨rfl, rfl⟩
    go_wp2_with fail
    refine (as_bool HTm.out (l1NameOk_any _ _ ho.small.tm)).mono ?_
    rintro e w3 ⟨rfl, rfl⟩
    go_wp2_with fail
    go_ret2
    exact ⟨by rw [HR.out]; rfl, hB1⟩

  have HTm : Hid (Gate.nameOk o.tm = true) := ht
  by_cases h3 : o.hs.length ≤ 3
  rotate_left
  · have h3I : (3 : Int) < (o.hs.length : Int) := by omega
    clear ht hc hn
    have HR : Hid (Gate.checkRes ss o = (1, 0)) := by
      unfold Hid Gate.checkRes; rw [if_neg]; unfold Gate.whole Gate.wholeHolds; simp [show ¬ o.hs.length ≤ 3 by omega]
    go_enter Tryz.func25, Tryz.ntmps25
    go_wp2_with fail
    refine (l2Fields_yes _ _ _ _ _ _ _ _ _ (hw.mono ((Below.refl _ _).alloc (Nat.le_refl _) _)) (ho.mono ((Below.refl _ _).alloc (Nat.le_refl _) _)) HCt.out).mono ?_
    rintro e w1 ⟨fa, fcap, rfl, hfl0, hb1⟩
    have hX1 := box_later (box_new w _ _) (by simp) hb1
    have hz1 : w.heap.size < w1.heap.size := by have := hb1.size; simp at this; omega
    have hB1 : Below w.heap.size w w1 := ((Below.refl _ _).alloc (Nat.le_refl _) _).trans (hb1.mono (by simp))
    have hfl1 := hfl0.mono hb1
    clear hb1 hfl0
    go_wp2_with fail
    refine (as_bool HNm.out (l1NameOk_any _ _ ho.small.nm)).mono ?_
    rintro e w2 ⟨rfl, rfl⟩
    go_wp2_with fail
    refine (as_bool HTm.out (l1NameOk_any _ _ ho.small.tm)).mono ?_
    rintro e w3 ⟨rfl, rfl⟩
    go_wp2_with fail
    go_ret2
    exact ⟨by rw [HR.out]; rfl, hB1⟩

  have h3I : (o.hs.length : Int) ≤ 3 := by omega
  by_cases ha : Gate.asc o.hs = true
  rotate_left
  · have ha' : Gate.asc o.hs = false := by simpa using ha
    have HAsc : Hid (Gate.asc o.hs = false) := ha'
    clear ht hc hn ha
    have HR : Hid (Gate.checkRes ss o = (1, 0)) := by
      unfold Hid Gate.checkRes; rw [if_neg]; unfold Gate.whole Gate.wholeHolds; simp [ha']
    go_enter Tryz.func25, Tryz.ntmps25
    go_wp2_with fail
    refine (l2Fields_yes _ _ _ _ _ _ _ _ _ (hw.mono ((Below.refl _ _).alloc (Nat.le_refl _) _)) (ho.mono ((Below.refl _ _).alloc (Nat.le_refl _) _)) HCt.out).mono ?_
    rintro e w1 ⟨fa, fcap, rfl, hfl0, hb1⟩
    have hX1 := box_later (box_new w _ _) (by simp) hb1
    have hz1 : w.heap.size < w1.heap.size := by have := hb1.size; simp at this; omega
    have hB1 : Below w.heap.size w w1 := ((Below.refl _ _).alloc (Nat.le_refl _) _).trans (hb1.mono (by simp))
    have hfl1 := hfl0.mono hb1
    clear hb1 hfl0
    go_wp2_with fail
    refine (as_bool HNm.out (l1NameOk_any _ _ ho.small.nm)).mono ?_
    rintro e w2 ⟨rfl, rfl⟩
    go_wp2_with fail
    refine (as_bool HTm.out (l1NameOk_any _ _ ho.small.tm)).mono ?_
    rintro e w3 ⟨rfl, rfl⟩
    go_wp2_with fail
    refine (as_bool HAsc.out (l1Ascending_any _ _ _ _ (ho.holds.mono hB1))).mono ?_
    rintro e w4 ⟨rfl, nd, rfl⟩
    go_wp2_with fail
    go_ret2
    exact ⟨by rw [HR.out]; rfl, below_drewN hB1 _⟩

  have HAsc : Hid (Gate.asc o.hs = true) := ha
  by_cases hv : 0 ≤ o.vr ∧ o.vr ≤ 1000000
  rotate_left
  · have HV : Hid (¬ (0 ≤ o.vr ∧ o.vr ≤ 1000000)) := hv
    have HR : Hid (Gate.checkRes ss o = (1, 0)) := by
      unfold Hid Gate.checkRes; rw [if_neg]; unfold Gate.whole Gate.wholeVersion; intro h; simp only [Bool.and_eq_true, decide_eq_true_eq] at h; exact hv h.1.2
    clear ht hc hn ha hv
    go_enter Tryz.func25, Tryz.ntmps25
    go_wp2_with fail
    refine (l2Fields_yes _ _ _ _ _ _ _ _ _ (hw.mono ((Below.refl _ _).alloc (Nat.le_refl _) _)) (ho.mono ((Below.refl _ _).alloc (Nat.le_refl _) _)) HCt.out).mono ?_
    rintro e w1 ⟨fa, fcap, rfl, hfl0, hb1⟩
    have hX1 := box_later (box_new w _ _) (by simp) hb1
    have hz1 : w.heap.size < w1.heap.size := by have := hb1.size; simp at this; omega
    have hB1 : Below w.heap.size w w1 := ((Below.refl _ _).alloc (Nat.le_refl _) _).trans (hb1.mono (by simp))
    have hfl1 := hfl0.mono hb1
    clear hb1 hfl0
    go_wp2_with fail
    refine (as_bool HNm.out (l1NameOk_any _ _ ho.small.nm)).mono ?_
    rintro e w2 ⟨rfl, rfl⟩
    go_wp2_with fail
    refine (as_bool HTm.out (l1NameOk_any _ _ ho.small.tm)).mono ?_
    rintro e w3 ⟨rfl, rfl⟩
    go_wp2_with fail
    refine (as_bool HAsc.out (l1Ascending_any _ _ _ _ (ho.holds.mono hB1))).mono ?_
    rintro e w4 ⟨rfl, nd, rfl⟩
    go_wp2_with fail
    refine (l1In_no _ _ _ _ (by have := HV.out; omega)).mono ?_
    rintro e w5 ⟨rfl, rfl⟩
    go_wp2_with fail
    go_ret2
    exact ⟨by rw [HR.out]; rfl, below_drewN hB1 _⟩
  obtain ⟨hv0, hv1⟩ := hv
  have HR : Hid (Gate.checkRes ss o = Gate.valRes (Gate.shapeOf ss o.kd).fs o.vs) := by
    unfold Hid Gate.checkRes; rw [if_pos]; unfold Gate.whole Gate.wholeNames Gate.wholeHolds Gate.wholeVersion; simp [hc, hn, ht, h3, ha, hv0, hv1]
  have HLn : Hid (o.vs.length = (Gate.shapeOf ss o.kd).fs.length) := by
    unfold Gate.wholeCount at hc; simp only [Bool.and_eq_true, decide_eq_true_eq] at hc; exact hc.2
  clear hc hn ht ha
  go_enter Tryz.func25, Tryz.ntmps25
  go_wp2_with fail
  refine (l2Fields_yes _ _ _ _ _ _ _ _ _ (hw.mono ((Below.refl _ _).alloc (Nat.le_refl _) _)) (ho.mono ((Below.refl _ _).alloc (Nat.le_refl _) _)) HCt.out).mono ?_
  rintro e w1 ⟨fa, fcap, rfl, hfl0, hb1⟩
  have hX1 := box_later (box_new w _ _) (by simp) hb1
  have hz1 : w.heap.size < w1.heap.size := by have := hb1.size; simp at this; omega
  have hB1 : Below w.heap.size w w1 := ((Below.refl _ _).alloc (Nat.le_refl _) _).trans (hb1.mono (by simp))
  have hfl1 := hfl0.mono hb1
  clear hb1 hfl0
  go_wp2_with fail
  refine (as_bool HNm.out (l1NameOk_any _ _ ho.small.nm)).mono ?_
  rintro e w2 ⟨rfl, rfl⟩
  go_wp2_with fail
  refine (as_bool HTm.out (l1NameOk_any _ _ ho.small.tm)).mono ?_
  rintro e w3 ⟨rfl, rfl⟩
  go_wp2_with fail
  refine (as_bool HAsc.out (l1Ascending_any _ _ _ _ (ho.holds.mono hB1))).mono ?_
  rintro e w4 ⟨rfl, nd, rfl⟩
  go_wp2_with fail
  refine (l1In_yes _ _ _ _ hv0 hv1).mono ?_
  rintro e w5 ⟨rfl, rfl⟩
  generalize hfs : (Gate.shapeOf ss o.kd).fs = fs at *
  have hlen := hfl1.len
  unfold maxLen at hlen
  go_wp2_with fail
  go_loopw [8] (fun i wr => ∃ k : Nat, k ≤ fs.length ∧ i = .int .i64 k ∧ Gate.up (Gate.valOkAt fs o.vs) k = true ∧ Below w3.heap.size w3 wr) (fun i _ => fs.length - (intOf i).toNat)
  case atStart => exact ⟨0, Nat.zero_le _, rfl, rfl, below_drewN (Below.refl _ _) _⟩
  case round =>
    obtain ⟨k, hk, rfl, hup, hBr⟩ := hrel
    have hszr := hBr.size
    have hB : Below w.heap.size w wr := hB1.trans (hBr.mono (by omega))
    by_cases hlt : k < fs.length
    · have hXr := box_later hX1 hz1 hBr
      obtain ⟨b, off, rfl, hb, hr⟩ := hfl1.rows (by rintro rfl; simp at hlt)
      obtain ⟨wa, wcap, hf0⟩ := hr k hlt
      have hf := hf0.mono hb hBr
      obtain ⟨c0, c1, c2, c3, c4, c5, c6, c7, c8, c9, c10⟩ := hf.load
      have hst := hf.strs
      have hltv : k < o.vs.length := by rw [HLn.out]; exact hlt
      obtain ⟨vb, voff, rfl, hvb, hvc⟩ := ho.vals.cells (by intro h; rw [h] at hltv; simp at hltv)
      have hcv := (hB.cell (p := ⟨vb, voff + k, none⟩) hvb).trans (hvc k hltv)
      have hvs := ho.vals.small _ (List.getElem_mem hltv)
      have hltI : (k : Int) < (fs.length : Int) := by omega
      have hltV : (k : Int) < (o.vs.length : Int) := by omega
      have HFX : Hid (Gate.faultIx fs o.vs k = Gate.faultAt fs[k] o.vs[k]) := Gate.faultIx_eq hlt hltv
      have HS : Hid (Gate.faultAt fs[k] o.vs[k] = 0 → Gate.up (Gate.valOkAt fs o.vs) (k + 1) = true) := fun h => by
        rw [Gate.up_succ, hup]; unfold Gate.valOkAt; rw [HFX.out, h]; rfl
      have HN : Hid (∀ n : Int, n ≠ 0 → Gate.faultAt fs[k] o.vs[k] = n → Gate.checkRes ss o = (n, (k : Int))) := fun n hn0 h => by
        rw [HR.out, Gate.valRes_at hlt hup (by unfold Gate.valOkAt; rw [HFX.out, h]; simp [hn0]), HFX.out, h]
      clear hX1 hr hf0 hf hup
      by_cases he : o.vs[k].size = 0
      · have hne : o.vs[k].toList.isEmpty = true := by rw [Gate.isEmpty_of_size]; simp [he]
        have HE : Hid (o.vs[k].size = 0) := he
        clear he
        by_cases hmu : fs[k].mu = true
        · have HM : Hid (fs[k].mu = true) := hmu
          go_wp2_with fail
          go_ret2
          have hv := HN.out 2 (by decide) (by unfold Gate.faultAt; rw [if_pos HE.out, if_pos HM.out])
          exact ⟨by rw [hv]; rfl, hB⟩
        · have hmu' : fs[k].mu = false := by simpa using hmu
          have HM : Hid (fs[k].mu = false) := hmu'
          clear hmu
          go_wp2_with fail
          exact ⟨⟨k + 1, by omega, by go_num, HS.out (by unfold Gate.faultAt; rw [if_pos HE.out, HM.out]; rfl), hBr⟩, by simp [intOf]; omega⟩
      · have hne : o.vs[k].toList.isEmpty = false := by rw [Gate.isEmpty_of_size]; simp [he]
        have HE : Hid (¬ o.vs[k].size = 0) := he
        clear he
        by_cases hfit : Gate.fits fs[k].kd fs[k].ls fs[k].ms fs[k].ws o.vs[k] = true
        all_goals
          first
            | (have HFT : Hid (Gate.fits fs[k].kd fs[k].ls fs[k].ms fs[k].ws o.vs[k] = true) := hfit)
            | (have HFT : Hid (Gate.fits fs[k].kd fs[k].ls fs[k].ms fs[k].ws o.vs[k] = false) := by simpa [Hid] using hfit)
          clear hfit
          go_wp2_with fail
          have hbx : Below wr.heap.size wr wr.drew := (Below.refl _ _).drew
          go_region_with (go_at_call 42; refine (as_bool HFT.out (specFits_any _ _ _ _ _ _ _ _ _ _ _ _ _ _ _ hvs (by exact hst.mono hbx))).mono ?_; rintro e w3 ⟨rfl, hb3⟩)
          all_goals go_wp2_with fail
        all_goals have hB3 : Below wr.heap.size wr w3 := hbx.trans hb3
        all_goals first
          | (have hft : Gate.fits fs[k].kd fs[k].ls fs[k].ms fs[k].ws o.vs[k] = true := HFT.out
             exact ⟨⟨k + 1, by omega, by go_num, HS.out (by unfold Gate.faultAt; rw [if_neg HE.out]; unfold Gate.fitsF; rw [hft]; rfl), hBr.trans (hB3.mono hszr)⟩, by simp [intOf]; omega⟩)
          | (have hft : Gate.fits fs[k].kd fs[k].ls fs[k].ms fs[k].ws o.vs[k] = false := HFT.out
             go_ret2
             have hv := HN.out 3 (by decide) (by unfold Gate.faultAt; rw [if_neg HE.out]; unfold Gate.fitsF; rw [hft]; rfl)
             exact ⟨by rw [hv]; rfl, hB.trans (hB3.mono (by omega))⟩)
    · have HF : Hid (Gate.checkRes ss o = (0, 0)) := by
        have e : k = fs.length := by omega
        subst e; rw [HR.out]; exact Gate.valRes_none hup
      clear hup
      go_wp2_with fail
      go_ret2
      exact ⟨by rw [HF.out]; rfl, hB⟩

set_option maxHeartbeats 1000000 in
theorem specCheck_any (a0 : Option Addr) (cap0 : Nat) (ss : List Shp) (o : Ob) (a a' : Option Addr) (cap cap' : Nat) (w : World) (hw : ShpsAt w a0 ss) (ho : ObAt w o a a') :
    Calls Tryz.prog 14 #[.slice a0 ss.length cap0, .agg #[.string o.kd, .string o.nm, .string o.tm, .slice a o.vs.length cap, .bool o.en, .slice a' o.hs.length cap', .int .i64 o.vr]] w fun e w' => e = .returned (.tuple #[.int .i64 (Gate.check ss o).1, .int .i64 (Gate.check ss o).2]) ∧ Below w.heap.size w w' := by
  by_cases hs : Gate.shapesOk ss = true
  · have HS : Hid (Gate.shapesOk ss = true) := hs
    have HC : Hid (Gate.check ss o = Gate.checkRes ss o) := by unfold Hid Gate.check; rw [if_pos hs]
    clear hs
    go_enter Tryz.func14, Tryz.ntmps14
    go_wp2_with fail
    refine (as_bool HS.out (specShapesOk_any _ _ _ _ (hw.mono ((Below.refl _ _).alloc (Nat.le_refl _) _)))).mono ?_
    rintro e w1 ⟨rfl, hb1⟩
    have hX1 := box_later (box_new w _ _) (by simp) hb1
    have hz1 : w.heap.size < w1.heap.size := by have := hb1.size; simp at this; omega
    have hB1 : Below w.heap.size w w1 := ((Below.refl _ _).alloc (Nat.le_refl _) _).trans (hb1.mono (by simp))
    clear hb1
    go_wp2_with fail
    refine (l2Check_any _ _ _ _ _ _ _ _ _ (hw.mono hB1) (ho.mono hB1)).mono ?_
    rintro e w2 ⟨rfl, hb2⟩
    have hB2 := hB1.trans (hb2.mono (by omega))
    clear hb2 hX1
    go_wp2_with fail
    go_ret2
    exact ⟨by rw [HC.out]; rfl, hB2⟩
  · have HS : Hid (Gate.shapesOk ss = false) := by simpa [Hid] using hs
    have HC : Hid (Gate.check ss o = (1, 0)) := by unfold Hid Gate.check; rw [if_neg hs]
    clear hs
    go_enter Tryz.func14, Tryz.ntmps14
    go_wp2_with fail
    refine (as_bool HS.out (specShapesOk_any _ _ _ _ (hw.mono ((Below.refl _ _).alloc (Nat.le_refl _) _)))).mono ?_
    rintro e w1 ⟨rfl, hb1⟩
    go_wp2_with fail
    go_ret2
    exact ⟨by rw [HC.out]; rfl, ((Below.refl _ _).alloc (Nat.le_refl _) _).trans (hb1.mono (by simp))⟩

end Go.Proofs.YthclaldbcfljfabGreatDoor
