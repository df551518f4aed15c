import Derived.Test.YtmmopakjaeokaaaDoorM15
import Derived.Test.YtmmopakjaeokaaaDoorM10
import Derived.Deep.RegionWith
import Derived.Test.YtmmopakjaeokaaaDoorM05
import Derived.Test.YtmmopakjaeokaaaDoorM06
import Derived.Test.YtmmopakjaeokaaaDoorM12
namespace Go.Proofs.YtmmopakjaeokaaaDoor
open Go.RowKit

def FieldsRes (ss : List Shp) (o : Ob) (w : World) (e : Ending) : Prop := ∃ fa fcap, e = .returned (.tuple #[.slice fa (Gate.shapeOf ss o.kd).fs.length fcap, .bool true]) ∧ FldsAt w fa (Gate.shapeOf ss o.kd).fs

set_option maxHeartbeats 1000000 in
theorem l2Fields_yes (a0 : Option Addr) (cap0 : Nat) (ss : List Shp) (o : Ob) (a a' : Option Addr) (cap cap' : Nat) (w : World) (hw : ShpsAt w a0 ss) (_ho : ObAt w o a a') (hc : Gate.wholeCount ss o = true) :
    Calls Tryd.prog 26 #[.slice a0 ss.length cap0, .agg #[.string o.kd, .string o.nm, .string o.tm, .slice a o.vs.length cap, .bool o.en, .slice a' o.hs.length cap', .int .i64 o.vr]] w fun e w' => ∃ fa fcap, e = .returned (.tuple #[.slice fa (Gate.shapeOf ss o.kd).fs.length fcap, .bool true]) ∧ FldsAt w fa (Gate.shapeOf ss o.kd).fs ∧ Below w.heap.size w w' := by
  unfold Gate.wholeCount at hc
  simp only [Bool.and_eq_true, decide_eq_true_eq] at hc
  have HK : Hid (Gate.hasKind ss o.kd = true) := hc.1
  have HL : Hid (o.vs.length = (Gate.shapeOf ss o.kd).fs.length) := hc.2
  clear hc
  have hl := hw.len
  unfold maxLen at hl
  go_enter Tryd.func26, Tryd.ntmps26
  go_wp2_with fail
  refine (l1Shape_yes _ _ _ _ _ (hw.mono ((Below.refl _ _).alloc (Nat.le_refl _) _)) HK.out).mono ?_
  rintro e w1 ⟨ix, hix, rfl, hsh, rfl⟩
  have HSh : Hid (Gate.shapeOf ss o.kd = ss[ix]) := hsh
  clear hsh
  obtain ⟨b, off, rfl, hb, hr⟩ := hw.rows (by rintro rfl; simp at hix)
  obtain ⟨fa, fcap, hs⟩ := hr ix hix
  have hcl := hs.list
  have hfl := hs.flds
  have hixI : (ix : Int) < (ss.length : Int) := by omega
  have hix0 : decide ((ix : Int) < 0) = false := by simp
  have hneq : ((ss[ix].fs.length : Int) != (o.vs.length : Int)) = false := by have h1 := HL.out; have h2 := HSh.out; rw [h2] at h1; simp [h1]
  have hbw : b < w.heap.size := hb
  clear hr hs
  go_wp2_with fail
  go_quiet (fail)
  go_wp2_with fail
  go_ret2
  rw [HSh.out]
  exact ⟨fa, fcap, rfl, hfl, below_drewN ((Below.refl _ _).alloc (Nat.le_refl _) _) _⟩

set_option maxHeartbeats 1000000 in
theorem l2Fields_no (a0 : Option Addr) (cap0 : Nat) (ss : List Shp) (o : Ob) (a a' : Option Addr) (cap cap' : Nat) (w : World) (hw : ShpsAt w a0 ss) (_ho : ObAt w o a a') (hc : Gate.wholeCount ss o = false) :
    Calls Tryd.prog 26 #[.slice a0 ss.length cap0, .agg #[.string o.kd, .string o.nm, .string o.tm, .slice a o.vs.length cap, .bool o.en, .slice a' o.hs.length cap', .int .i64 o.vr]] w fun e w' => ∃ v, e = .returned (.tuple #[v, .bool false]) ∧ Below w.heap.size w w' := by
  have hl := hw.len
  unfold maxLen at hl
  by_cases hk : Gate.hasKind ss o.kd = true
  · have HK : Hid (Gate.hasKind ss o.kd = true) := hk
    have HL : Hid (¬ o.vs.length = (Gate.shapeOf ss o.kd).fs.length) := by unfold Gate.wholeCount at hc; rw [hk] at hc; simpa [Hid] using hc
    clear hc hk
    go_enter Tryd.func26, Tryd.ntmps26
    go_wp2_with fail
    refine (l1Shape_yes _ _ _ _ _ (hw.mono ((Below.refl _ _).alloc (Nat.le_refl _) _)) HK.out).mono ?_
    rintro e w1 ⟨ix, hix, rfl, hsh, rfl⟩
    have HSh : Hid (Gate.shapeOf ss o.kd = ss[ix]) := hsh
    clear hsh
    obtain ⟨b, off, rfl, hb, hr⟩ := hw.rows (by rintro rfl; simp at hix)
    obtain ⟨fa, fcap, hs⟩ := hr ix hix
    have hcl := hs.list
    have hixI : (ix : Int) < (ss.length : Int) := by omega
    have hix0 : decide ((ix : Int) < 0) = false := by simp
    have hneq : ((ss[ix].fs.length : Int) != (o.vs.length : Int)) = true := by have h1 := HL.out; have h2 := HSh.out; rw [h2] at h1; rw [bne_iff_ne]; omega
    have hbw : b < w.heap.size := hb
    clear hr hs
    go_wp2_with fail
    go_quiet (fail)
    go_wp2_with fail
    go_ret2
    exact ⟨_, rfl, below_drewN (below2' _ _ _) _⟩
  · have HK : Hid (Gate.hasKind ss o.kd = false) := by simpa [Hid] using hk
    clear hc hk
    go_enter Tryd.func26, Tryd.ntmps26
    go_wp2_with fail
    refine (l1Shape_no _ _ _ _ _ (hw.mono ((Below.refl _ _).alloc (Nat.le_refl _) _)) HK.out).mono ?_
    rintro e w1 ⟨rfl, rfl⟩
    go_wp2_with fail
    go_quiet (fail)
    go_wp2_with fail
    go_ret2
    exact ⟨_, rfl, below_drewN (below2' _ _ _) _⟩

end Go.Proofs.YtmmopakjaeokaaaDoor

namespace Go.Proofs.YtmmopakjaeokaaaDoor
open Go.RowKit

set_option maxHeartbeats 4000000 in
theorem l2Check_any (a0 : Option Addr) (cap0 : Nat) (ss : List Shp) (o : Ob) (a a' : Option Addr) (cap cap' : Nat) (w : World) (hw : ShpsAt w a0 ss) (ho : ObAt w o a a') :
    Calls Tryd.prog 15 #[.slice a0 ss.length cap0, .agg #[.string o.kd, .string o.nm, .string o.tm, .slice a o.vs.length cap, .bool o.en, .slice a' o.hs.length cap', .int .i64 o.vr]] w fun e w' => e = .returned (.tuple #[.int .i64 (Gate.checkRes ss o).1, .int .i64 (Gate.checkRes ss o).2]) ∧ Below w.heap.size w w' := by
  have hlh := ho.holds.len
  unfold maxLen at hlh
  by_cases hc : Gate.wholeCount ss o = true
  rotate_left
  · have HCt : Hid (Gate.wholeCount ss o = false) := by simpa [Hid] using hc
    have HR : Hid (Gate.checkRes ss o = (1, 0)) := by unfold Hid Gate.checkRes; rw [if_neg]; unfold Gate.whole; rw [HCt.out]; simp
    clear hc
    go_enter Tryd.func15, Tryd.ntmps15
    go_wp2_with fail
    refine (l2Fields_no _ _ _ _ _ _ _ _ _ (hw.mono ((Below.refl _ _).alloc (Nat.le_refl _) _)) (ho.mono ((Below.refl _ _).alloc (Nat.le_refl _) _)) HCt.out).mono ?_
    rintro e w1 ⟨v, rfl, hb1⟩
    have hB1 : Below w.heap.size w w1 := ((Below.refl _ _).alloc (Nat.le_refl _) _).trans (hb1.mono (by simp))
    clear hb1
    go_wp2_with fail
    go_ret2
    exact ⟨by rw [HR.out]; rfl, hB1⟩
  have HCt : Hid (Gate.wholeCount ss o = true) := hc
  by_cases hn : Gate.nameOk o.nm = true
  rotate_left
  · have hn' : Gate.nameOk o.nm = false := by simpa using hn
    have HNm : Hid (Gate.nameOk o.nm = false) := hn'
    clear hn hc
    have HR : Hid (Gate.checkRes ss o = (1, 0)) := by
      unfold Hid Gate.checkRes; rw [if_neg]; unfold Gate.whole Gate.wholeNames; simp [hn']
    go_enter Tryd.func15, Tryd.ntmps15
    go_wp2_with fail
    refine (l2Fields_yes _ _ _ _ _ _ _ _ _ (hw.mono ((Below.refl _ _).alloc (Nat.le_refl _) _)) (ho.mono ((Below.refl _ _).alloc (Nat.le_refl _) _)) HCt.out).mono ?_
    rintro e w1 ⟨fa, fcap, rfl, hfl0, hb1⟩
    have hX1 := box_later (box_new w _ _) (by simp) hb1
    have hz1 : w.heap.size < w1.heap.size := by have := hb1.size; simp at this; omega
    have hB1 : Below w.heap.size w w1 := ((Below.refl _ _).alloc (Nat.le_refl _) _).trans (hb1.mono (by simp))
    have hfl1 := hfl0.mono hb1
    clear hb1 hfl0
    go_wp2_with fail
    refine (as_bool HNm.out (l1NameOk_any _ _ ho.small.nm)).mono ?_
    rintro e w2 ⟨rfl, rfl⟩
    go_wp2_with fail
    go_ret2
    exact ⟨by rw [HR.out]; rfl, hB1⟩

  have HNm : Hid (Gate.nameOk o.nm = true) := hn
  by_cases ht : Gate.nameOk o.tm = true
  rotate_left
  · have ht' : Gate.nameOk o.tm = false := by simpa using ht
    have HTm : Hid (Gate.nameOk o.tm = false) := ht'
    clear ht hc hn
    have HR : Hid (Gate.checkRes ss o = (1, 0)) := by
      unfold Hid Gate.checkRes; rw [if_neg]; unfold Gate.whole Gate.wholeNames; simp [ht']
    go_enter Tryd.func15, Tryd.ntmps15
    go_wp2_with fail
    refine (l2Fields_yes _ _ _ _ _ _ _ _ _ (hw.mono ((Below.refl _ _).alloc (Nat.le_refl _) _)) (ho.mono ((Below.refl _ _).alloc (Nat.le_refl _) _)) HCt.out).mono ?_
    rintro e w1 ⟨fa, fcap, rfl, hfl0, hb1⟩
    have hX1 := box_later (box_new w _ _) (by simp) hb1
    have hz1 : w.heap.size < w1.heap.size := by have := hb1.size; simp at this; omega
    have hB1 : Below w.heap.size w w1 := ((Below.refl _ _).alloc (Nat.le_refl _) _).trans (hb1.mono (by simp))
    have hfl1 := hfl0.mono hb1
    clear hb1 hfl0
    go_wp2_with fail
    refine (as_bool HNm.out (l1NameOk_any _ _ ho.small.nm)).mono ?_
    rintro e w2 ⟨rfl, rfl⟩
    go_wp2_with fail
    refine (as_bool HTm.out (l1NameOk_any _ _ ho.small.tm)).mono ?_
    rintro e w3 ⟨rfl, rfl⟩
    go_wp2_with fail
    go_ret2
    exact ⟨by rw [HR.out]; rfl, hB1⟩

  have HTm : Hid (Gate.nameOk o.tm = true) := ht
  by_cases h3 : o.hs.length ≤ 3
  rotate_left
  · have h3I : (3 : Int) < (o.hs.length : Int) := by omega
    clear ht hc hn
    have HR : Hid (Gate.checkRes ss o = (1, 0)) := by
      unfold Hid Gate.checkRes; rw [if_neg]; unfold Gate.whole Gate.wholeHolds; simp [show ¬ o.hs.length ≤ 3 by omega]
    go_enter Tryd.func15, Tryd.ntmps15
    go_wp2_with fail
    refine (l2Fields_yes _ _ _ _ _ _ _ _ _ (hw.mono ((Below.refl _ _).alloc (Nat.le_refl _) _)) (ho.mono ((Below.refl _ _).alloc (Nat.le_refl _) _)) HCt.out).mono ?_
    rintro e w1 ⟨fa, fcap, rfl, hfl0, hb1⟩
    have hX1 := box_later (box_new w _ _) (by simp) hb1
    have hz1 : w.heap.size < w1.heap.size := by have := hb1.size; simp at this; omega
    have hB1 : Below w.heap.size w w1 := ((Below.refl _ _).alloc (Nat.le_refl _) _).trans (hb1.mono (by simp))
    have hfl1 := hfl0.mono hb1
    clear hb1 hfl0
    go_wp2_with fail
    refine (as_bool HNm.out (l1NameOk_any _ _ ho.small.nm)).mono ?_
    rintro e w2 ⟨rfl, rfl⟩
    go_wp2_with fail
    refine (as_bool HTm.out (l1NameOk_any _ _ ho.small.tm)).mono ?_
    rintro e w3 ⟨rfl, rfl⟩
    go_wp2_with fail
    go_ret2
    exact ⟨by rw [HR.out]; rfl, hB1⟩

  have h3I : (o.hs.length : Int) ≤ 3 := by omega
  by_cases ha : Gate.asc o.hs = true
  rotate_left
  · have ha' : Gate.asc o.hs = false := by simpa using ha
    have HAsc : Hid (Gate.asc o.hs = false) := ha'
    clear ht hc hn ha
    have HR : Hid (Gate.checkRes ss o = (1, 0)) := by
      unfold Hid Gate.checkRes; rw [if_neg]; unfold Gate.whole Gate.wholeHolds; simp [ha']
    go_enter Tryd.func15, Tryd.ntmps15
    go_wp2_with fail
    refine (l2Fields_yes _ _ _ _ _ _ _ _ _ (hw.mono ((Below.refl _ _).alloc (Nat.le_refl _) _)) (ho.mono ((Below.refl _ _).alloc (Nat.le_refl _) _)) HCt.out).mono ?_
    rintro e w1 ⟨fa, fcap, rfl, hfl0, hb1⟩
    have hX1 := box_later (box_new w _ _) (by simp) hb1
    have hz1 : w.heap.size < w1.heap.size := by have := hb1.size; simp at this; omega
    have hB1 : Below w.heap.size w w1 := ((Below.refl _ _).alloc (Nat.le_refl _) _).trans (hb1.mono (by simp))
    have hfl1 := hfl0.mono hb1
    clear hb1 hfl0
    go_wp2_with fail
    refine (as_bool HNm.out (l1NameOk_any _ _ ho.small.nm)).mono ?_
    rintro e w2 ⟨rfl, rfl⟩
    go_wp2_with fail
    refine (as_bool HTm.out (l1NameOk_any _ _ ho.small.tm)).mono ?_
    rintro e w3 ⟨rfl, rfl⟩
    go_wp2_with fail
    refine (as_bool HAsc.out (l1Ascending_any _ _ _ _ (ho.holds.mono hB1))).mono ?_
    rintro e w4 ⟨rfl, nd, rfl⟩
    go_wp2_with fail
    go_ret2
    exact ⟨by rw [HR.out]; rfl, below_drewN hB1 _⟩

  have HAsc : Hid (Gate.asc o.hs = true) := ha
  by_cases hv : 0 ≤ o.vr ∧ o.vr ≤ 1000000
  rotate_left
  · have HV : Hid (¬ (0 ≤ o.vr ∧ o.vr ≤ 1000000)) := hv
    have HR : Hid (Gate.checkRes ss o = (1, 0)) := by
      unfold Hid Gate.checkRes; rw [if_neg]; unfold Gate.whole Gate.wholeVersion; intro h; simp only [Bool.and_eq_true, decide_eq_true_eq] at h; exact hv h.1.2
    clear ht hc hn ha hv
    go_enter Tryd.func15, Tryd.ntmps15
    go_wp2_with fail
    refine (l2Fields_yes _ _ _ _ _ _ _ _ _ (hw.mono ((Below.refl _ _).alloc (Nat.le_refl _) _)) (ho.mono ((Below.refl _ _).alloc (Nat.le_refl _) _)) HCt.out).mono ?_
    rintro e w1 ⟨fa, fcap, rfl, hfl0, hb1⟩
    have hX1 := box_later (box_new w _ _) (by simp) hb1
    have hz1 : w.heap.size < w1.heap.size := by have := hb1.size; simp at this; omega
    have hB1 : Below w.heap.size w w1 := ((Below.refl _ _).alloc (Nat.le_refl _) _).trans (hb1.mono (by simp))
    have hfl1 := hfl0.mono hb1
    clear hb1 hfl0
    go_wp2_with fail
    refine (as_bool HNm.out (l1NameOk_any _ _ ho.small.nm)).mono ?_
    rintro e w2 ⟨rfl, rfl⟩
    go_wp2_with fail
    refine (as_bool HTm.out (l1NameOk_any _ _ ho.small.tm)).mono ?_
    rintro e w3 ⟨rfl, rfl⟩
    go_wp2_with fail
    refine (as_bool HAsc.out (l1Ascending_any _ _ _ _ (ho.holds.mono hB1))).mono ?_
    rintro e w4 ⟨rfl, nd, rfl⟩
    go_wp2_with fail
    refine (l1In_no _ _ _ _ (by have := HV.out; omega)).mono ?_
    rintro e w5 ⟨rfl, rfl⟩
    go_wp2_with fail
    go_ret2
    exact ⟨by rw [HR.out]; rfl, below_drewN hB1 _⟩
  obtain ⟨hv0, hv1⟩ := hv
  have HR : Hid (Gate.checkRes ss o = Gate.valRes (Gate.shapeOf ss o.kd).fs o.vs) := by
    unfold Hid Gate.checkRes; rw [if_pos]; unfold Gate.whole Gate.wholeNames Gate.wholeHolds Gate.wholeVersion; simp [hc, hn, ht, h3, ha, hv0, hv1]
  have HLn : Hid (o.vs.length = (Gate.shapeOf ss o.kd).fs.length) := by
    unfold Gate.wholeCount at hc; simp only [Bool.and_eq_true, decide_eq_true_eq] at hc; exact hc.2
  clear hc hn ht ha
  go_enter Tryd.func15, Tryd.ntmps15
  go_wp2_with fail
  refine (l2Fields_yes _ _ _ _ _ _ _ _ _ (hw.mono ((Below.refl _ _).alloc (Nat.le_refl _) _)) (ho.mono ((Below.refl _ _).alloc (Nat.le_refl _) _)) HCt.out).mono ?_
  rintro e w1 ⟨fa, fcap, rfl, hfl0, hb1⟩
  have hX1 := box_later (box_new w _ _) (by simp) hb1
  have hz1 : w.heap.size < w1.heap.size := by have := hb1.size; simp at this; omega
  have hB1 : Below w.heap.size w w1 := ((Below.refl _ _).alloc (Nat.le_refl _) _).trans (hb1.mono (by simp))
  have hfl1 := hfl0.mono hb1
  clear hb1 hfl0
  go_wp2_with fail
  refine (as_bool HNm.out (l1NameOk_any _ _ ho.small.nm)).mono ?_
  rintro e w2 ⟨rfl, rfl⟩
  go_wp2_with fail
  refine (as_bool HTm.out (l1NameOk_any _ _ ho.small.tm)).mono ?_
  rintro e w3 ⟨rfl, rfl⟩
  go_wp2_with fail
  refine (as_bool HAsc.out (l1Ascending_any _ _ _ _ (ho.holds.mono hB1))).mono ?_
  rintro e w4 ⟨rfl, nd, rfl⟩
  go_wp2_with fail
  refine (l1In_yes _ _ _ _ hv0 hv1).mono ?_
  rintro e w5 ⟨rfl, rfl⟩
  generalize hfs : (Gate.shapeOf ss o.kd).fs = fs at *
  have hlen := hfl1.len
  unfold maxLen at hlen
  go_wp2_with fail
  go_loopw [8] (fun i wr => ∃ k : Nat, k ≤ fs.length ∧ i = .int .i64 k ∧ Gate.up (Gate.valOkAt fs o.vs) k = true ∧ Below w3.heap.size w3 wr) (fun i _ => fs.length - (intOf i).toNat)
  case atStart => exact ⟨0, Nat.zero_le _, rfl, rfl, below_drewN (Below.refl _ _) _⟩
  case round =>
    obtain ⟨k, hk, rfl, hup, hBr⟩ := hrel
    have hszr := hBr.size
    have hB : Below w.heap.size w wr := hB1.trans (hBr.mono (by omega))
    by_cases hlt : k < fs.length
    · have hXr := box_later hX1 hz1 hBr
      obtain ⟨b, off, rfl, hb, hr⟩ := hfl1.rows (by rintro rfl; simp at hlt)
      obtain ⟨wa, wcap, hf0⟩ := hr k hlt
      have hf := hf0.mono hb hBr
      obtain ⟨c0, c1, c2, c3, c4, c5, c6, c7, c8, c9, c10⟩ := hf.load
      have hst := hf.strs
      have hltv : k < o.vs.length := by rw [HLn.out]; exact hlt
      obtain ⟨vb, voff, rfl, hvb, hvc⟩ := ho.vals.cells (by intro h; rw [h] at hltv; simp at hltv)
      have hcv := (hB.cell (p := ⟨vb, voff + k, none⟩) hvb).trans (hvc k hltv)
      have hvs := ho.vals.small _ (List.getElem_mem hltv)
      have hltI : (k : Int) < (fs.length : Int) := by omega
      have hltV : (k : Int) < (o.vs.length : Int) := by omega
      have HFX : Hid (Gate.faultIx fs o.vs k = Gate.faultAt fs[k] o.vs[k]) := Gate.faultIx_eq hlt hltv
      have HS : Hid (Gate.faultAt fs[k] o.vs[k] = 0 → Gate.up (Gate.valOkAt fs o.vs) (k + 1) = true) := fun h => by
        rw [Gate.up_succ, hup]; unfold Gate.valOkAt; rw [HFX.out, h]; rfl
      have HN : Hid (∀ n : Int, n ≠ 0 → Gate.faultAt fs[k] o.vs[k] = n → Gate.checkRes ss o = (n, (k : Int))) := fun n hn0 h => by
        rw [HR.out, Gate.valRes_at hlt hup (by unfold Gate.valOkAt; rw [HFX.out, h]; simp [hn0]), HFX.out, h]
      clear hX1 hr hf0 hf hup
      by_cases he : o.vs[k].size = 0
      · have hne : o.vs[k].toList.isEmpty = true := by rw [Gate.isEmpty_of_size]; simp [he]
        have HE : Hid (o.vs[k].size = 0) := he
        clear he
        by_cases hmu : fs[k].mu = true
        · have HM : Hid (fs[k].mu = true) := hmu
          go_wp2_with fail
          go_ret2
          have hv := HN.out 2 (by decide) (by unfold Gate.faultAt; rw [if_pos HE.out, if_pos HM.out])
          exact ⟨by rw [hv]; rfl, hB⟩
        · have hmu' : fs[k].mu = false := by simpa using hmu
          have HM : Hid (fs[k].mu = false) := hmu'
          clear hmu
          go_wp2_with fail
          exact ⟨⟨k + 1, by omega, by go_num, HS.out (by unfold Gate.faultAt; rw [if_pos HE.out, HM.out]; rfl), hBr⟩, by simp [intOf]; omega⟩
      · have hne : o.vs[k].toList.isEmpty = false := by rw [Gate.isEmpty_of_size]; simp [he]
        have HE : Hid (¬ o.vs[k].size = 0) := he
        clear he
        by_cases hfit : Gate.fits fs[k].kd fs[k].ls fs[k].ms fs[k].ws o.vs[k] = true
        all_goals
          first
            | (have HFT : Hid (Gate.fits fs[k].kd fs[k].ls fs[k].ms fs[k].ws o.vs[k] = true) := hfit)
            | (have HFT : Hid (Gate.fits fs[k].kd fs[k].ls fs[k].ms fs[k].ws o.vs[k] = false) := by simpa [Hid] using hfit)
          clear hfit
          go_wp2_with fail
          have hbx : Below wr.heap.size wr wr.drew := (Below.refl _ _).drew
          go_region_with (go_at_call 29; refine (as_bool HFT.out (specFits_any _ _ _ _ _ _ _ _ _ _ _ _ _ _ _ hvs (by exact hst.mono hbx))).mono ?_; rintro e w3 ⟨rfl, hb3⟩)
          all_goals go_wp2_with fail
        all_goals have hB3 : Below wr.heap.size wr w3 := hbx.trans hb3
        all_goals first
          | (have hft : Gate.fits fs[k].kd fs[k].ls fs[k].ms fs[k].ws o.vs[k] = true := HFT.out
             exact ⟨⟨k + 1, by omega, by go_num, HS.out (by unfold Gate.faultAt; rw [if_neg HE.out]; unfold Gate.fitsF; rw [hft]; rfl), hBr.trans (hB3.mono hszr)⟩, by simp [intOf]; omega⟩)
          | (have hft : Gate.fits fs[k].kd fs[k].ls fs[k].ms fs[k].ws o.vs[k] = false := HFT.out
             go_ret2
             have hv := HN.out 3 (by decide) (by unfold Gate.faultAt; rw [if_neg HE.out]; unfold Gate.fitsF; rw [hft]; rfl)
             exact ⟨by rw [hv]; rfl, hB.trans (hB3.mono (by omega))⟩)
    · have HF : Hid (Gate.checkRes ss o = (0, 0)) := by
        have e : k = fs.length := by omega
        subst e; rw [HR.out]; exact Gate.valRes_none hup
      clear hup
      go_wp2_with fail
      go_ret2
      exact ⟨by rw [HF.out]; rfl, hB⟩

set_option maxHeartbeats 1000000 in
theorem specCheck_any (a0 : Option Addr) (cap0 : Nat) (ss : List Shp) (o : Ob) (a a' : Option Addr) (cap cap' : Nat) (w : World) (hw : ShpsAt w a0 ss) (ho : ObAt w o a a') :
    Calls Tryd.prog 6 #[.slice a0 ss.length cap0, .agg #[.string o.kd, .string o.nm, .string o.tm, .slice a o.vs.length cap, .bool o.en, .slice a' o.hs.length cap', .int .i64 o.vr]] w fun e w' => e = .returned (.tuple #[.int .i64 (Gate.check ss o).1, .int .i64 (Gate.check ss o).2]) ∧ Below w.heap.size w w' := by
  by_cases hs : Gate.shapesOk ss = true
  · have HS : Hid (Gate.shapesOk ss = true) := hs
    have HC : Hid (Gate.check ss o = Gate.checkRes ss o) := by unfold Hid Gate.check; rw [if_pos hs]
    clear hs
    go_enter Tryd.func6, Tryd.ntmps6
    go_wp2_with fail
    refine (as_bool HS.out (specShapesOk_any _ _ _ _ (hw.mono ((Below.refl _ _).alloc (Nat.le_refl _) _)))).mono ?_
    rintro e w1 ⟨rfl, hb1⟩
    have hX1 := box_later (box_new w _ _) (by simp) hb1
    have hz1 : w.heap.size < w1.heap.size := by have := hb1.size; simp at this; omega
    have hB1 : Below w.heap.size w w1 := ((Below.refl _ _).alloc (Nat.le_refl _) _).trans (hb1.mono (by simp))
    clear hb1
    go_wp2_with fail
    refine (l2Check_any _ _ _ _ _ _ _ _ _ (hw.mono hB1) (ho.mono hB1)).mono ?_
    rintro e w2 ⟨rfl, hb2⟩
    have hB2 := hB1.trans (hb2.mono (by omega))
    clear hb2 hX1
    go_wp2_with fail
    go_ret2
    exact ⟨by rw [HC.out]; rfl, hB2⟩
  · have HS : Hid (Gate.shapesOk ss = false) := by simpa [Hid] using hs
    have HC : Hid (Gate.check ss o = (1, 0)) := by unfold Hid Gate.check; rw [if_neg hs]
    clear hs
    go_enter Tryd.func6, Tryd.ntmps6
    go_wp2_with fail
    refine (as_bool HS.out (specShapesOk_any _ _ _ _ (hw.mono ((Below.refl _ _).alloc (Nat.le_refl _) _)))).mono ?_
    rintro e w1 ⟨rfl, hb1⟩
    go_wp2_with fail
    go_ret2
    exact ⟨by rw [HC.out]; rfl, ((Below.refl _ _).alloc (Nat.le_refl _) _).trans (hb1.mono (by simp))⟩

end Go.Proofs.YtmmopakjaeokaaaDoor

namespace Go.Proofs.YtmmopakjaeokaaaDoor
open Go.RowKit

set_option maxHeartbeats 2000000 in
theorem lawCheck_any (a0 : Option Addr) (cap0 : Nat) (ss : List Shp) (o : Ob) (a a' : Option Addr) (cap cap' : Nat) (w : World) (hL : Laid w) (hw : ShpsAt w a0 ss) (ho : ObAt w o a a') :
    Calls Tryd.prog 3 #[.slice a0 ss.length cap0, .agg #[.string o.kd, .string o.nm, .string o.tm, .slice a o.vs.length cap, .bool o.en, .slice a' o.hs.length cap', .int .i64 o.vr]] w fun e w' => e = .returned (.bool true) ∧ Below w.heap.size w w' := by
  have hb0 : Below w.heap.size w (w.alloc (.cells #[.string o.kd, .string o.nm, .string o.tm, .slice a o.vs.length cap, .bool o.en, .slice a' o.hs.length cap', .int .i64 o.vr] 25)) := (Below.refl _ _).alloc (Nat.le_refl _) _
  by_cases hsz : (shpsSz ss : Int) ≤ 1048576
  rotate_left
  · go_enter Tryd.func3, Tryd.ntmps3
    go_wp2_with fail
    refine (szGateShapeS_any _ _ _ _ _ (hw.mono hb0) (by omega) (by omega)).mono ?_
    rintro e w1 ⟨rfl, hb1⟩
    rw [szRes_no (by omega)]
    go_wp2_with fail
    go_ret
    exact ⟨rfl, hb0.trans (hb1.mono (by simp))⟩
  have HLS : Hid (ss.length ≤ 1048576 ∧ ∀ i (h : i < ss.length), ss[i].fs.length ≤ 1048576 ∧ ∀ j (h' : j < ss[i].fs.length), ss[i].fs[j].ws.length ≤ 1048576) := shps_few hsz
  have hneg : decide (1048576 - (shpsSz ss : Int) < 0) = false := by simp; omega
  by_cases hoz : (obSz o : Int) ≤ 1048576 - (shpsSz ss : Int)
  rotate_left
  · go_enter Tryd.func3, Tryd.ntmps3
    go_wp2_with fail
    refine (szGateShapeS_any _ _ _ _ _ (hw.mono hb0) (by omega) (by omega)).mono ?_
    rintro e w1 ⟨rfl, hb1⟩
    rw [szRes_yes hsz]
    have hX1 := box_later (box_new w _ _) (by simp) hb1
    have hB1 := hb0.trans (hb1.mono (by simp))
    clear hb1 hb0
    go_wp2_with fail
    refine (szGateObject_any _ _ _ _ _ _ _ (ho.mono hB1) (by omega) (by omega)).mono ?_
    rintro e w2 ⟨rfl, hb2⟩
    rw [szRes_no (by omega)]
    go_wp2_with fail
    go_ret
    exact ⟨rfl, hB1.trans (hb2.mono hB1.size)⟩
  have HLO : Hid (o.vs.length ≤ 1048576 ∧ o.hs.length ≤ 1048576) := ob_few hoz (by omega)
  have hneg' : decide (1048576 - (shpsSz ss : Int) - (obSz o : Int) < 0) = false := by simp; omega
  have hml : ss.length ≤ maxLen := hw.len
  have hsm := hw.smalls
  go_enter Tryd.func3, Tryd.ntmps3
  go_wp2_with fail
  refine (szGateShapeS_any _ _ _ _ _ (hw.mono hb0) (by omega) (by omega)).mono ?_
  rintro e w1 ⟨rfl, hb1⟩
  rw [szRes_yes hsz]
  have hX1 := box_later (box_new w _ _) (by simp) hb1
  have hz1 : w.heap.size < w1.heap.size := by have := hb1.size; simp at this; omega
  have hB1 := hb0.trans (hb1.mono (by simp))
  clear hb1 hb0
  go_wp2_with fail
  refine (szGateObject_any _ _ _ _ _ _ _ (ho.mono hB1) (by omega) (by omega)).mono ?_
  rintro e w2 ⟨rfl, hb2⟩
  rw [szRes_yes hoz]
  have hX2 := box_later hX1 hz1 hb2
  have hz2 : w.heap.size < w2.heap.size := by have := hb2.size; omega
  have hB2 := hB1.trans (hb2.mono hB1.size)
  clear hX1 hz1 hB1 hb2
  go_wp2_with fail
  have hB := hB2.drew
  have hX := box_later hX2 hz2 (Below.refl w2.heap.size w2).drew
  have hz : w.heap.size < w2.drew.heap.size := hz2
  clear hB2 hX2 hz2
  go_region_with (first
    | (go_at_call 7; refine (toGateShapeS_any _ _ _ _ (by exact hw.mono hB) HLS.out.1 HLS.out.2).mono ?_; rintro e w3 ⟨rfl, hown, hb⟩; have hs := hown.at hsm hml; clear hown; (try have hoo := hoo.mono hb); have hX := box_later hX hz hb; have hB := hB.trans (hb.mono hB.size); have hz := Nat.lt_of_lt_of_le hz hb.size; clear hb)
    | (go_at_call 8; refine (toGateObject_any _ _ _ _ _ _ (by exact ho.mono hB) HLO.out.1 HLO.out.2).mono ?_; rintro e w3 ⟨bv3, bh3, rfl, hlo, hhi, hne, hv3, hh3, hb⟩; have hoo := ob_own ho hv3 hh3; clear hlo hhi hne hv3 hh3; (try have hs := hs.mono hb); have hX := box_later hX hz hb; have hB := hB.trans (hb.mono hB.size); have hz := Nat.lt_of_lt_of_le hz hb.size; clear hb)
    | (go_at_call 6; refine (specCheck_any _ _ _ _ _ _ _ _ _ (by exact hs) (by exact hoo)).mono ?_; rintro e w3 ⟨rfl, hb⟩; clear hs hoo; have hX := box_later hX hz hb; have hB := hB.trans (hb.mono hB.size); have hz := Nat.lt_of_lt_of_le hz hb.size; clear hb))
  all_goals
    go_wp2_with fail
    refine (toGateShapeS_any _ _ _ _ (hw.mono hB) HLS.out.1 HLS.out.2).mono ?_
    rintro e w4 ⟨rfl, hown, hb⟩
    have hs4 := hown.at hsm hml
    have hX4 := box_later hX hz hb
    have hz4 := Nat.lt_of_lt_of_le hz hb.size
    have hB4 := hB.trans (hb.mono hB.size)
    clear hown hb hX hz hB
    go_wp2_with fail
    refine (toGateObject_any _ _ _ _ _ _ (ho.mono hB4) HLO.out.1 HLO.out.2).mono ?_
    rintro e w5 ⟨bv5, bh5, rfl, hlo, hhi, hne, hv, hh, hb⟩
    have ho5 := ob_own ho hv hh
    have hs5 := hs4.mono hb
    have hX5 := box_later hX4 hz4 hb
    have hz5 := Nat.lt_of_lt_of_le hz4 hb.size
    have hB5 := hB4.trans (hb.mono hB4.size)
    clear hlo hhi hne hv hh hb hs4 hX4 hz4 hB4
    go_wp2_with fail
    refine (implCheck_any _ _ _ _ _ _ _ _ _ (hL.mono (hB5.alloc hB5.size _)) (by exact hs5.mono ((Below.refl _ _).alloc (Nat.le_refl _) _)) (by exact ho5.mono ((Below.refl _ _).alloc (Nat.le_refl _) _))).mono ?_
    rintro e w6 ⟨rfl, hb6⟩
    have hY := box_later (box_new w5 _ _) (by simp) hb6
    have hy : w5.heap.size < w6.heap.size := by have := hb6.size; simp at this; omega
    have hb : Below w5.heap.size w5 w6 := ((Below.refl _ _).alloc (Nat.le_refl _) _).trans (hb6.mono (by simp))
    have hX6 := box_later hX5 hz5 hb
    have hz6 := Nat.lt_of_lt_of_le hz5 hb.size
    have hB6 := hB5.trans (hb.mono hB5.size)
    have hs6 := hs5.mono hb
    have ho6 := ho5.mono hb
    clear hb hb6 hX5 hz5 hB5 hs5 ho5
    go_wp2_with fail
    refine (toGateShapeS_any _ _ _ _ (hw.mono hB6) HLS.out.1 HLS.out.2).mono ?_
    rintro e w7 ⟨rfl, hown, hb⟩
    have hs7' := hown.at hsm hml
    have hs7 := hs6.mono hb
    have ho7 := ho6.mono hb
    have hX7 := box_later hX6 hz6 hb
    have hz7 := Nat.lt_of_lt_of_le hz6 hb.size
    have hY7 := box_later hY hy hb
    have hy7 := Nat.lt_of_lt_of_le hy hb.size
    have hB7 := hB6.trans (hb.mono hB6.size)
    clear hb hown hX6 hz6 hB6 hs6 ho6 hY hy
    go_wp2_with fail
    refine (eqGateShapeS_yes _ _ _ _ _ _ hs7 hs7').mono ?_
    rintro e w8 ⟨rfl, hb⟩
    have ho8 := ho7.mono hb
    have hX8 := box_later hX7 hz7 hb
    have hz8 := Nat.lt_of_lt_of_le hz7 hb.size
    have hY8 := box_later hY7 hy7 hb
    have hy8 := Nat.lt_of_lt_of_le hy7 hb.size
    have hB8 := hB7.trans (hb.mono hB7.size)
    clear hb hX7 hz7 hB7 hs7 hs7' ho7 hY7 hy7
    go_wp2_with fail
    go_region_with (first
      | (go_at_call 8; refine (toGateObject_any _ _ _ _ _ _ (by exact ho.mono hB8.drew) HLO.out.1 HLO.out.2).mono ?_; rintro e w9 ⟨bv9, bh9, rfl, hlo, hhi, hne, hv, hh, hb9'⟩; have hb9 := (Below.refl w8.heap.size w8).drew.trans hb9'; have hY9 := box_later hY8 hy8 hb9; have ho9 := ob_own ho hv hh; clear hb9' hlo hhi hne hv hh)
      | (go_at_call 11; refine (eqGateObject_yes _ _ _ _ _ _ _ _ _ _ (by exact ho8.mono hb9) (by exact ho9)).mono ?_; rintro e wA ⟨rfl, hbA⟩))
    all_goals go_wp2_with fail
    all_goals go_ret
    all_goals exact ⟨rfl, (hB8.trans (hb9.mono hB8.size)).trans (hbA.mono (Nat.le_trans hB8.size hb9.size))⟩

end Go.Proofs.YtmmopakjaeokaaaDoor
