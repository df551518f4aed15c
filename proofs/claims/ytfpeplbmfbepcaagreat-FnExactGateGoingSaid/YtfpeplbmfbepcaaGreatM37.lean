import Derived.Test.YtfpeplbmfbepcaaGreatM11
import Derived.Test.YtfpeplbmfbepcaaGreatM28
import Derived.Test.YtfpeplbmfbepcaaGreatM13
import Derived.Test.YtfpeplbmfbepcaaGreatM03
import Derived.Deep.RegionWith
namespace Go.Proofs.YtfpeplbmfbepcaaGreat
open Go.RowKit
set_option maxHeartbeats 4000000 in
theorem zlS (a0 : Option Addr) (cap0 : Nat) (ss : List Shp) (o : Ob) (a a' : Option Addr) (cap cap' : Nat) (w : World) (hw : yI w a0 ss) (ho : qR w o a a') :
    Calls Tryz.prog 90 #[.slice a0 ss.length cap0, .agg (oC o a a' cap cap')] w fun e w' => e = .returned (.tuple #[.int .i64 (Gate.yu ss o).1, .int .i64 (Gate.yu ss o).2]) /\ Below w.heap.size w w' := by
  have hlh := ho.holds.len
  unfold maxLen at hlh
  have HNo : Hid (Gate.whole ss o = false -> Gate.yu ss o = (1, 0)) := fun h => by unfold Gate.yu; rw [if_neg]; simp [h]
  have hAl := (Below.refl w.heap.size w).alloc (Nat.le_refl _)
  go_enter Tryz.func90, Tryz.ntmps90
  go_wp2_with fail
  by_cases hc : Gate.zo ss o = true
  rotate_left
  · refine (zcA _ _ _ _ _ _ _ _ _ (hw.mono (hAl _)) (ho.mono (hAl _)) (by simpa using hc)).mono ?_
    rintro e w1 ⟨v, rfl, hb1⟩
    have hB1 := (hAl _).trans (hb1.mono (by simp))
    have HR : Hid (Gate.yu ss o = (1, 0)) := HNo.out (by unfold Gate.whole; simp [hc])
    clear hb1 hAl hc
    go_wp2_with fail
    go_ret2
    exact ⟨by rw [HR.out]; rfl, hB1⟩
  refine (zbe _ _ _ _ _ _ _ _ _ (hw.mono (hAl _)) (ho.mono (hAl _)) hc).mono ?_
  rintro e w1 ⟨fa, fcap, rfl, hfl0, hb1⟩
  have hX1 := za (zG w _ _) (by simp) hb1
  have hz1 : w.heap.size < w1.heap.size := by have := hb1.size; simp at this; omega
  have hB1 : Below w.heap.size w w1 := (hAl _).trans (hb1.mono (by simp))
  have hfl1 := hfl0.mono hb1
  have HCt := hid hc
  clear hb1 hfl0 hAl hc
  go_wp2_with fail
  refine (zS _ _ ho.small.nm).mono ?_
  rintro e w2 ⟨rfl, rfl⟩
  cases hn : Gate.zy o.nm with
  | false =>
    have HR : Hid (Gate.yu ss o = (1, 0)) := HNo.out (by unfold Gate.whole Gate.y5; simp [hn])
    go_wp2_with fail
    go_ret2
    exact ⟨by rw [HR.out]; rfl, hB1⟩
  | true =>
  go_wp2_with fail
  refine (zS _ _ ho.small.tm).mono ?_
  rintro e w3 ⟨rfl, rfl⟩
  cases ht : Gate.zy o.tm with
  | false =>
    have HR : Hid (Gate.yu ss o = (1, 0)) := HNo.out (by unfold Gate.whole Gate.y5; simp [ht])
    go_wp2_with fail
    go_ret2
    exact ⟨by rw [HR.out]; rfl, hB1⟩
  | true =>
  by_cases h3 : o.hs.length <= 3
  rotate_left
  · have h3I : (3 : Int) < (o.hs.length : Int) := by omega
    have HR : Hid (Gate.yu ss o = (1, 0)) := HNo.out (by unfold Gate.whole Gate.qx; simp [h3])
    go_wp2_with fail
    go_ret2
    exact ⟨by rw [HR.out]; rfl, hB1⟩
  have h3I : (o.hs.length : Int) <= 3 := by omega
  go_wp2_with fail
  refine (zdO _ _ _ _ (ho.holds.mono hB1)).mono ?_
  rintro e w4 ⟨rfl, nd, rfl⟩
  cases ha : Gate.asc o.hs with
  | false =>
    have HR : Hid (Gate.yu ss o = (1, 0)) := HNo.out (by unfold Gate.whole Gate.qx; simp [ha])
    go_wp2_with fail
    go_ret2
    exact ⟨by rw [HR.out]; rfl, below_drewN hB1 _⟩
  | true =>
  go_wp2_with fail
  by_cases hv : 0 <= o.vr /\ o.vr <= 1000000
  rotate_left
  · have HR : Hid (Gate.yu ss o = (1, 0)) := HNo.out (by unfold Gate.whole Gate.yQ; rw [Bool.eq_false_iff]; intro h; simp only [Bool.and_eq_true, decide_eq_true_eq] at h; exact hv h.1.2)
    refine (zet _ _ _ _ hv).mono ?_
    rintro e w5 ⟨rfl, rfl⟩
    clear hv
    go_wp2_with fail
    go_ret2
    exact ⟨by rw [HR.out]; rfl, below_drewN hB1 _⟩
  obtain ⟨hv0, hv1⟩ := hv
  have HR : Hid (Gate.yu ss o = Gate.qZ (Gate.shapeOf ss o.kd).fs o.vs) := by
    unfold Hid Gate.yu; rw [if_pos]; unfold Gate.whole Gate.y5 Gate.qx Gate.yQ; simp [HCt.out, hn, ht, h3, ha, hv0, hv1]
  have HLn : Hid (o.vs.length = (Gate.shapeOf ss o.kd).fs.length) := by
    have hc := HCt.out; unfold Gate.zo at hc; simp only [Bool.and_eq_true, decide_eq_true_eq] at hc; exact hc.2
  refine (zci _ _ _ _ hv0 hv1).mono ?_
  rintro e w5 ⟨rfl, rfl⟩
  clear hn ht ha HNo HCt
  generalize hfs : (Gate.shapeOf ss o.kd).fs = fs at *
  have hlen := hfl1.len
  unfold maxLen at hlen
  go_wp2_with fail
  go_loopw [8] (fun i wr => ∃ k : Nat, k <= fs.length /\ i = .int .i64 k /\ Gate.up (Gate.zaN fs o.vs) k = true /\ Below w3.heap.size w3 wr) (fun i _ => fs.length - (intOf i).toNat)
  case atStart => exact ⟨0, Nat.zero_le _, rfl, rfl, below_drewN (Below.refl _ _) _⟩
  case round =>
    obtain ⟨k, hk, rfl, hup, hBr⟩ := hrel
    have hszr := hBr.size
    have hB : Below w.heap.size w wr := hB1.trans (hBr.mono (by omega))
    by_cases hlt : k < fs.length
    · have hXr := za hX1 hz1 hBr
      obtain ⟨b, off, rfl, hb, hr⟩ := hfl1.rows (by rintro rfl; simp at hlt)
      obtain ⟨wa, wcap, hf0⟩ := hr k hlt
      have hf := hf0.mono hb hBr
      obtain ⟨c0, c1, c2, c3, c4, c5, c6, c7, c8, c9, c10⟩ := hf.load
      have hst := hf.strs
      have hltv : k < o.vs.length := by rw [HLn.out]; exact hlt
      obtain ⟨vb, voff, rfl, hvb, hvc⟩ := ho.vals.cells (by intro h; rw [h] at hltv; simp at hltv)
      have hcv := (hB.cell (p := ⟨vb, voff + k, none⟩) hvb).trans (hvc k hltv)
      have hvs := ho.vals.small _ (List.getElem_mem hltv)
      have hltI : (k : Int) < (fs.length : Int) := by omega
      have hltV : (k : Int) < (o.vs.length : Int) := by omega
      have HFX := hid (Gate.zi6 hlt hltv)
      have HS : Hid (Gate.zah fs[k] o.vs[k] = 0 -> Gate.up (Gate.zaN fs o.vs) (k + 1) = true) := fun h => by
        rw [Gate.jG, hup]; unfold Gate.zaN; rw [HFX.out, h]; rfl
      have HN : Hid (∀ n : Int, n ≠ 0 -> Gate.zah fs[k] o.vs[k] = n -> Gate.yu ss o = (n, (k : Int))) := fun n hn0 h => by
        rw [HR.out, Gate.zkc hlt hup (by unfold Gate.zaN; rw [HFX.out, h]; simp [hn0]), HFX.out, h]
      clear hX1 hr hf0 hf hup
      by_cases he : o.vs[k].size = 0
      · have hne : o.vs[k].toList.isEmpty = true := by rw [Gate.zu]; simp [he]
        have HE := hid he
        clear he
        by_cases hmu : fs[k].mu = true
        · have HM := hid hmu
          go_wp2_with fail
          go_ret2
          have hv := HN.out 2 (by decide) (by unfold Gate.zah; rw [if_pos HE.out, if_pos HM.out])
          exact ⟨by rw [hv]; rfl, hB⟩
        · have hmu' : fs[k].mu = false := by simpa using hmu
          have HM := hid hmu'
          clear hmu
          go_wp2_with fail
          exact ⟨⟨k + 1, by omega, by go_num, HS.out (by unfold Gate.zah; rw [if_pos HE.out, HM.out]; rfl), hBr⟩, by simp [intOf]; omega⟩
      · have hne : o.vs[k].toList.isEmpty = false := by rw [Gate.zu]; simp [he]
        have HE : Hid (¬ o.vs[k].size = 0) := he
        clear he
        by_cases hfit : Gate.fits fs[k].kd fs[k].ls fs[k].ms fs[k].ws o.vs[k] = true
        all_goals
          first
            | (have HFT : Hid (Gate.fits fs[k].kd fs[k].ls fs[k].ms fs[k].ws o.vs[k] = true) := hfit)
            | (have HFT : Hid (Gate.fits fs[k].kd fs[k].ls fs[k].ms fs[k].ws o.vs[k] = false) := by simpa [Hid] using hfit)
          clear hfit
          go_wp2_with fail
          have hbx : Below wr.heap.size wr wr.drew := (Below.refl _ _).drew
          go_region_with (go_at_call 130; refine (zw HFT.out (zdw _ _ _ _ _ _ _ _ _ _ _ _ _ _ _ hvs (by exact hst.mono hbx))).mono ?_; rintro e w3 ⟨rfl, hb3⟩)
          all_goals go_wp2_with fail
        all_goals have hB3 : Below wr.heap.size wr w3 := hbx.trans hb3
        all_goals first
          | (have hft : Gate.fits fs[k].kd fs[k].ls fs[k].ms fs[k].ws o.vs[k] = true := HFT.out
             exact ⟨⟨k + 1, by omega, by go_num, HS.out (by unfold Gate.zah; rw [if_neg HE.out]; unfold Gate.zeT; rw [hft]; rfl), hBr.trans (hB3.mono hszr)⟩, by simp [intOf]; omega⟩)
          | (have hft : Gate.fits fs[k].kd fs[k].ls fs[k].ms fs[k].ws o.vs[k] = false := HFT.out
             go_ret2
             have hv := HN.out 3 (by decide) (by unfold Gate.zah; rw [if_neg HE.out]; unfold Gate.zeT; rw [hft]; rfl)
             exact ⟨by rw [hv]; rfl, hB.trans (hB3.mono (by omega))⟩)
    · have HF : Hid (Gate.yu ss o = (0, 0)) := by
        have e : k = fs.length := by omega
        subst e; rw [HR.out]; exact Gate.zhd hup
      clear hup
      go_wp2_with fail
      go_ret2
      exact ⟨by rw [HF.out]; rfl, hB⟩
end Go.Proofs.YtfpeplbmfbepcaaGreat
