import Derived.Test.YtbefjngbilakjaaM15
import Derived.Test.YtbefjngbilakjaaM05
import Derived.Deep.QuietTactic
import Derived.BigQuiet
import Derived.Test.YtbefjngbilakjaaM06
import Derived.Test.YtbefjngbilakjaaM12
import Derived.Deep.RegionHeld3
namespace Go.Proofs.Ytbefjngbilakjaa
open Go.RowKit

set_option maxHeartbeats 4000000 in
theorem specShapesOk_any (a : Option Addr) (cap : Nat) (ss : List Shp) (w : World) (hw : ShpsAt w a ss) :
    Calls Try.prog 13 #[.slice a ss.length cap] w fun e w' => e = .returned (.bool (Gate.shapesOk ss)) ∧ Below w.heap.size w w' := by
  have hl := hw.len
  unfold maxLen at hl
  by_cases h6 : ss.length ≤ 6
  rotate_left
  · have HF : Hid (Gate.shapesOk ss = false) := by simp [Hid, Gate.shapesOk, h6]
    clear hw
    go_enter Try.func13, Try.ntmps13
    go_wp2
    go_ret
    exact ⟨ret_bool HF.out.symm, Below.refl _ _⟩
  have HG : Hid (Gate.shapesOk ss = Gate.up (Gate.shapeAt ss) ss.length) := by simp [Hid, Gate.shapesOk, h6]
  have h6I : (ss.length : Int) ≤ 6 := by omega
  go_enter Try.func13, Try.ntmps13
  go_wp2_with fail
  go_loopw [3] (fun i wr => ∃ k : Nat, k ≤ ss.length ∧ i = .int .i64 k ∧ Gate.up (Gate.shapeAt ss) k = true ∧ Below w.heap.size w wr) (fun i _ => ss.length - (intOf i).toNat)
  case atStart => exact ⟨0, Nat.zero_le _, rfl, rfl, Below.refl _ _⟩
  case round =>
    obtain ⟨k, hk, rfl, hup, hB⟩ := hrel
    obtain ⟨W0, rfl⟩ : ∃ W0, W0 = wr := ⟨wr, rfl⟩
    have hsz := hB.size
    by_cases hlt : k < ss.length
    · obtain ⟨b, off, rfl, hb, hrw⟩ := hw.rows (by rintro rfl; simp at hlt)
      have hbr : b < W0.heap.size := by omega
      have hall : ShpsAt W0 (some ⟨b, off, none⟩) ss := hw.mono hB
      obtain ⟨fa, fcap, hs⟩ := hrw k hlt
      have hs' := hs.mono hb hB
      have hck := hs'.kind
      have hcl := hs'.list
      have hfl := hs'.flds
      have hsm := hs.small
      have HS : Hid (Gate.shapeAt ss k = true → Gate.up (Gate.shapeAt ss) (k + 1) = true) := fun h => by rw [Gate.up_succ, hup, h]; rfl
      have HN : Hid (Gate.shapeAt ss k = false → Gate.shapesOk ss = false) := fun h => by rw [HG.out]; exact Gate.up_not hlt h
      have hltI : (k : Int) < (ss.length : Int) := by omega
      by_cases hn : Gate.nameOk ss[k].kd = true
      rotate_left
      · have HNm : Hid (Gate.nameOk ss[k].kd = false) := by simpa [Hid] using hn
        have HF : Hid (Gate.shapeAt ss k = false) := by
          unfold Hid Gate.shapeAt; rw [Gate.getD_at ss k _ hlt, HNm.out]; rfl
        clear hn hup hw hrw hs hs'
        go_wp2_with fail
        go_quiet ((go_at_call 34; exact Calls.quiet_of_same (as_bool HNm.out (l1NameOk_any _ _ hsm))))
        go_wp2_with fail
        go_ret
        exact ⟨ret_bool (HN.out HF.out).symm, below_drewN (hB.alloc hsz _) _⟩
      have HNm : Hid (Gate.nameOk ss[k].kd = true) := hn
      clear hn
      have hcl6 := hfl.len
      unfold maxLen at hcl6
      by_cases hbad : 0 < k ∧ Gate.less (ss.getD (k - 1) Gate.noShape).kd ss[k].kd = false
      · obtain ⟨hkpos, hls⟩ := hbad
        rw [Gate.getD_at ss (k - 1) _ (by omega)] at hls
        obtain ⟨fam, fcapm, hsm0⟩ := hrw (k - 1) (by omega)
        have hcm := (hsm0.mono hb hB).kind
        have hls' : Op.bytesLess ss[k - 1].kd.toList ss[k].kd.toList = false := hls
        have hg : decide (0 < k) = true := by simp; omega
        have hk1 : (0 : Int) ≤ (k : Int) - 1 := by omega
        have hk2 : (k : Int) - 1 < (ss.length : Int) := by omega
        have HF : Hid (Gate.shapeAt ss k = false) := by
          unfold Hid Gate.shapeAt; rw [Gate.getD_at ss k _ hlt, Gate.getD_at ss (k - 1) _ (by omega), hls, decide_eq_false (show ¬ k = 0 by omega)]; simp
        clear hup hw hrw hs hs' hls hsm0
        go_wp2_with fail
        go_quiet ((go_at_call 34; exact Calls.quiet_of_same (as_bool HNm.out (l1NameOk_any _ _ hsm))))
        go_wp2_with fail
        go_ret
        exact ⟨ret_bool (HN.out HF.out).symm, below_drewN (hB.alloc hsz _) _⟩
      have hgood : (decide (0 < k) = false ∧ Gate.shapeAt ss k = Gate.fieldsOk ss ss[k].fs) ∨ (decide (0 < k) = true ∧ Gate.shapeAt ss k = Gate.fieldsOk ss ss[k].fs ∧ (0 : Int) ≤ (k : Int) - 1 ∧ (k : Int) - 1 < (ss.length : Int) ∧ ∃ h : k - 1 < ss.length, Op.bytesLess ss[k - 1].kd.toList ss[k].kd.toList = true ∧ W0.cell? ⟨b, off + (k - 1) * 2, none⟩ = some (.string ss[k - 1].kd)) := by
        by_cases hk0 : k = 0
        · refine Or.inl ⟨by simp; omega, ?_⟩
          subst hk0; rw [Gate.shapeAt_first ss hlt, HNm.out]; rfl
        · obtain ⟨fam, fcapm, hsm0⟩ := hrw (k - 1) (by omega)
          have hls : Gate.less ss[k - 1].kd ss[k].kd = true := by
            rw [Gate.getD_at ss (k - 1) _ (by omega)] at hbad
            cases h : Gate.less ss[k - 1].kd ss[k].kd with
            | true => rfl
            | false => exact absurd ⟨by omega, h⟩ hbad
          refine Or.inr ⟨by simp; omega, ?_, by omega, by omega, by omega, hls, (hsm0.mono hb hB).kind⟩
          unfold Gate.shapeAt; rw [Gate.getD_at ss k _ hlt, Gate.getD_at ss (k - 1) _ (by omega), hls, HNm.out]; simp
      clear hup hw hrw hs hs' hbad
      rcases hgood with ⟨hg, hAA⟩ | ⟨hg, hAA, hk1, hk2, hkm, hls', hcm⟩
      all_goals
        have HA : Hid (Gate.shapeAt ss k = Gate.fieldsOk ss ss[k].fs) := hAA
        clear hAA
        by_cases h6f : ss[k].fs.length ≤ 6
        rotate_left
        · have HF : Hid (Gate.shapeAt ss k = false) := by rw [HA.out]; simp [Hid, Gate.fieldsOk, h6f]
          have h6fI : (6 : Int) < (ss[k].fs.length : Int) := by omega
          go_wp2_with fail
          go_quiet ((go_at_call 34; exact Calls.quiet_of_same (as_bool HNm.out (l1NameOk_any _ _ hsm))))
          go_wp2_with fail
          go_ret
          exact ⟨ret_bool (HN.out HF.out).symm, below_drewN (hB.alloc hsz _) _⟩
        have h6fI : (ss[k].fs.length : Int) ≤ 6 := by omega
        have HFG : Hid (Gate.fieldsOk ss ss[k].fs = Gate.up (Gate.okAt ss ss[k].fs) ss[k].fs.length) := by simp [Hid, Gate.fieldsOk, h6f]
        go_wp2_with fail
        go_quiet ((go_at_call 34; exact Calls.quiet_of_same (as_bool HNm.out (l1NameOk_any _ _ hsm))))
        go_wp2_with fail
        go_loopw [5] (fun i wr2 => ∃ k2 : Nat, k2 ≤ ss[k].fs.length ∧ i = .int .i64 k2 ∧ Gate.up (Gate.okAt ss ss[k].fs) k2 = true ∧ Below (W0.heap.size + 1) (W0.alloc (.cells #[.string ss[k].kd, .slice fa ss[k].fs.length fcap] 71)) wr2) (fun i _ => ss[k].fs.length - (intOf i).toNat)
        case atStart => exact ⟨0, Nat.zero_le _, rfl, rfl, below_drewN (Below.refl _ _) _⟩
        case round =>
          obtain ⟨k2, hk2', rfl, hup2, hBl⟩ := hrel
          obtain ⟨W2, rfl⟩ : ∃ W2, W2 = wr := ⟨wr, rfl⟩
          have hsz2 : W0.heap.size < W2.heap.size := by have := hBl.size; simp at this; omega
          have hB02 : Below W0.heap.size W0 W2 := ((Below.refl _ _).alloc (Nat.le_refl _) _).trans (hBl.mono (by omega))
          have hB2 : Below w.heap.size w W2 := hB.trans (hB02.mono hsz)
          have hY1 : W2.cell? ⟨W0.heap.size, 1, none⟩ = some (.slice fa ss[k].fs.length fcap) := (hBl.cell (p := ⟨W0.heap.size, 1, none⟩) (by simp)).trans (by rw [World.cell?_alloc_at _ _ _ _ rfl]; rfl)
          by_cases hlt2 : k2 < ss[k].fs.length
          · obtain ⟨fb, foff, rfl, hfb, hfr⟩ := hfl.rows (by intro h; rw [h] at hlt2; simp at hlt2)
            obtain ⟨wa, wcap, hf0⟩ := hfr k2 hlt2
            have hf := hf0.mono hfb hB02
            obtain ⟨c0, c1, c2, c3, c4, c5, c6, c7, c8, c9, c10⟩ := hf.load
            have hsmf := hf.small
            have hstf := hf.strs
            have hall2 : ShpsAt W2 (some ⟨b, off, none⟩) ss := hall.mono hB02
            have HO : Hid (Gate.okAt ss ss[k].fs k2 = (Gate.nameOk ss[k].fs[k2].nm && !Gate.hasName (ss[k].fs.take k2) ss[k].fs[k2].nm && Gate.fieldOk ss ss[k].fs[k2])) := Gate.okAt_eq ss ss[k].fs k2 hlt2
            have HS2 : Hid (Gate.okAt ss ss[k].fs k2 = true → Gate.up (Gate.okAt ss ss[k].fs) (k2 + 1) = true) := fun h => by rw [Gate.up_succ, hup2, h]; rfl
            have HN2 : Hid (Gate.okAt ss ss[k].fs k2 = false → Gate.shapesOk ss = false) := fun h => HN.out (by rw [HA.out, HFG.out]; exact Gate.up_not hlt2 h)
            have hltI2 : (k2 : Int) < (ss[k].fs.length : Int) := by omega
            by_cases hfo : (Gate.nameOk ss[k].fs[k2].nm && Gate.fieldOk ss ss[k].fs[k2]) = true
            · have HFO : Hid ((Gate.nameOk ss[k].fs[k2].nm && Gate.fieldOk ss ss[k].fs[k2]) = true) := hfo
              clear hfo hup2
              go_wp2_with fail
              refine (as_bool HFO.out (specField_any _ _ _ _ _ _ _ _ _ _ _ _ _ _ _ _ _ hsmf.nm hsmf.df hsmf.wg hstf hall2)).mono ?_
              rintro e W3 ⟨rfl, hb3⟩
              go_wp2_with fail
              have hB23 : Below W0.heap.size W0 W3 := hB02.trans (hb3.mono (by omega))
              have hB3 : Below w.heap.size w W3 := hB2.trans (hb3.mono (by omega))
              have hY3 : W3.cell? ⟨W0.heap.size, 1, none⟩ = some (.slice (some ⟨fb, foff, none⟩) ss[k].fs.length fcap) := (hb3.cell (p := ⟨W0.heap.size, 1, none⟩) hsz2).trans hY1
              have hsz3 : W0.heap.size < W3.heap.size := by have := hb3.size; omega
              have hnames : ∀ i (h : i < ss[k].fs.length), W3.cell? ⟨fb, foff + i * 11, none⟩ = some (.string ss[k].fs[i].nm) := fun i h => by
                obtain ⟨wa', wcap', hfi⟩ := hfr i h
                exact (hfi.mono hfb hB23).load.1
              have hBl3 : Below (W0.heap.size + 1) (W0.alloc (.cells #[.string ss[k].kd, .slice (some ⟨fb, foff, none⟩) ss[k].fs.length fcap] 71)) W3 := hBl.trans (hb3.mono (by omega))
              clear hY1 c0 c1 c2 c3 c4 c5 c6 c7 c8 c9 c10 hb3 hf hf0 hfr hstf hall2
              go_loopw [6] (fun i wr3 => ∃ j : Nat, j ≤ k2 ∧ i = .int .i64 j ∧ Gate.hasName (ss[k].fs.take j) ss[k].fs[k2].nm = false ∧ ∃ n, wr3 = W3.drewN n) (fun i _ => k2 - (intOf i).toNat)
              case atStart => exact ⟨0, Nat.zero_le _, rfl, rfl, 0, rfl⟩
              case round =>
                obtain ⟨jj, hjj, rfl, hno, hwr3⟩ := hrel
                have HW : Hid (∃ n, wr = W3.drewN n) := hwr3
                have hY4 : wr.cell? ⟨W0.heap.size, 1, none⟩ = some (.slice (some ⟨fb, foff, none⟩) ss[k].fs.length fcap) := by obtain ⟨n, rfl⟩ := hwr3; exact hY3
                have hck2 : wr.cell? ⟨fb, foff + k2 * 11, none⟩ = some (.string ss[k].fs[k2].nm) := by obtain ⟨n, rfl⟩ := hwr3; exact hnames k2 hlt2
                by_cases hltj : jj < k2
                · have hjl : jj < ss[k].fs.length := by omega
                  have hcj : wr.cell? ⟨fb, foff + jj * 11, none⟩ = some (.string ss[k].fs[jj].nm) := by obtain ⟨n, rfl⟩ := hwr3; exact hnames jj hjl
                  have hjI : (jj : Int) < (ss[k].fs.length : Int) := by omega
                  have hjK : (jj : Int) < (k2 : Int) := by omega
                  clear hwr3
                  by_cases he : ss[k].fs[jj].nm = ss[k].fs[k2].nm
                  · have hbe : (ss[k].fs[jj].nm.toList == ss[k].fs[k2].nm.toList) = true := by rw [Gate.beq_toList]; simpa using he
                    have HF : Hid (Gate.okAt ss ss[k].fs k2 = false) := by
                      rw [HO.out]; unfold Hid
                      have hh : Gate.hasName (ss[k].fs.take k2) ss[k].fs[k2].nm = true := by
                        unfold Gate.hasName; rw [List.any_eq_true]
                        exact ⟨ss[k].fs[jj], List.mem_take_iff_getElem.2 ⟨jj, by omega, rfl⟩, by simpa using he⟩
                      rw [hh]; simp
                    clear he hno
                    go_wp2_with fail
                    go_quiet (fail)
                    go_wp2_with fail
                    go_ret
                    refine ⟨ret_bool (HN2.out HF.out).symm, ?_⟩
                    obtain ⟨n, rfl⟩ := HW.out
                    exact below_drewN (below_drewN hB3 _) _
                  · have hbe : (ss[k].fs[jj].nm.toList == ss[k].fs[k2].nm.toList) = false := by rw [Gate.beq_toList]; simpa using he
                    have HSn : Hid (Gate.hasName (ss[k].fs.take (jj + 1)) ss[k].fs[k2].nm = false) := by unfold Hid; rw [Gate.hasName_snoc _ _ jj hjl, hno, decide_eq_false he]; rfl
                    clear he hno
                    go_wp2_with fail
                    go_quiet (fail)
                    go_wp2_with fail
                    obtain ⟨n, rfl⟩ := HW.out
                    exact ⟨⟨jj + 1, by omega, by go_num, HSn.out, n + nq, by simp⟩, by simp [intOf]; omega⟩
                · have HF : Hid (Gate.okAt ss ss[k].fs k2 = true) := by
                    have e : jj = k2 := by omega
                    subst e
                    rw [HO.out, hno]; unfold Hid
                    have := HFO.out
                    rw [Bool.and_eq_true] at this
                    rw [this.1, this.2]; rfl
                  have hBlw : Below (W0.heap.size + 1) (W0.alloc (.cells #[.string ss[k].kd, .slice (some ⟨fb, foff, none⟩) ss[k].fs.length fcap] 71)) wr := by obtain ⟨n, rfl⟩ := hwr3; exact below_drewN hBl3 _
                  clear hno hwr3 hY4 hck2
                  go_wp2_with fail
                  exact ⟨⟨k2 + 1, by omega, by go_num, HS2.out HF.out, hBlw⟩, by simp [intOf]; omega⟩
            · have HFO : Hid ((Gate.nameOk ss[k].fs[k2].nm && Gate.fieldOk ss ss[k].fs[k2]) = false) := by simpa [Hid] using hfo
              have HF : Hid (Gate.okAt ss ss[k].fs k2 = false) := by
                rw [HO.out]; unfold Hid
                have := HFO.out
                cases h1 : Gate.nameOk ss[k].fs[k2].nm <;> cases h2 : Gate.fieldOk ss ss[k].fs[k2] <;> simp_all
              clear hfo hup2
              go_wp2_with fail
              refine (as_bool HFO.out (specField_any _ _ _ _ _ _ _ _ _ _ _ _ _ _ _ _ _ hsmf.nm hsmf.df hsmf.wg hstf hall2)).mono ?_
              rintro e W3 ⟨rfl, hb3⟩
              have hB3 : Below w.heap.size w W3 := hB2.trans (hb3.mono (by omega))
              go_wp2_with fail
              go_ret
              exact ⟨ret_bool (HN2.out HF.out).symm, hB3⟩
          · have HF : Hid (Gate.shapeAt ss k = true) := by
              have e : k2 = ss[k].fs.length := by omega
              subst e; rw [HA.out, HFG.out]; exact hup2
            clear hup2
            go_wp2_with fail
            exact ⟨⟨k + 1, by omega, by go_num, HS.out HF.out, hB2⟩, by simp [intOf]; omega⟩
    · have HF : Hid (Gate.shapesOk ss = true) := by
        have e : k = ss.length := by omega
        subst e; rw [HG.out]; exact hup
      clear hup hw
      go_wp2
      go_ret
      exact ⟨ret_bool HF.out.symm, hB⟩

end Go.Proofs.Ytbefjngbilakjaa

namespace Go.Proofs.Ytbefjngbilakjaa
open Go.RowKit

def FieldsRes (ss : List Shp) (o : Ob) (w : World) (e : Ending) : Prop := ∃ fa fcap, e = .returned (.tuple #[.slice fa (Gate.shapeOf ss o.kd).fs.length fcap, .bool true]) ∧ FldsAt w fa (Gate.shapeOf ss o.kd).fs

set_option maxHeartbeats 1000000 in
theorem l2Fields_yes (a0 : Option Addr) (cap0 : Nat) (ss : List Shp) (o : Ob) (a a' : Option Addr) (cap cap' : Nat) (w : World) (hw : ShpsAt w a0 ss) (_ho : ObAt w o a a') (hc : Gate.wholeCount ss o = true) :
    Calls Try.prog 75 #[.slice a0 ss.length cap0, .agg #[.string o.kd, .string o.nm, .string o.tm, .slice a o.vs.length cap, .bool o.en, .slice a' o.hs.length cap', .int .i64 o.vr]] w fun e w' => ∃ fa fcap, e = .returned (.tuple #[.slice fa (Gate.shapeOf ss o.kd).fs.length fcap, .bool true]) ∧ FldsAt w fa (Gate.shapeOf ss o.kd).fs ∧ Below w.heap.size w w' := by
  unfold Gate.wholeCount at hc
  simp only [Bool.and_eq_true, decide_eq_true_eq] at hc
  have HK : Hid (Gate.hasKind ss o.kd = true) := hc.1
  have HL : Hid (o.vs.length = (Gate.shapeOf ss o.kd).fs.length) := hc.2
  clear hc
  have hl := hw.len
  unfold maxLen at hl
  go_enter Try.func75, Try.ntmps75
  go_wp2_with fail
  refine (l1Shape_yes _ _ _ _ _ (hw.mono ((Below.refl _ _).alloc (Nat.le_refl _) _)) HK.out).mono ?_
  rintro e w1 ⟨ix, hix, rfl, hsh, rfl⟩
  have HSh : Hid (Gate.shapeOf ss o.kd = ss[ix]) := hsh
  clear hsh
  obtain ⟨b, off, rfl, hb, hr⟩ := hw.rows (by rintro rfl; simp at hix)
  obtain ⟨fa, fcap, hs⟩ := hr ix hix
  have hcl := hs.list
  have hfl := hs.flds
  have hixI : (ix : Int) < (ss.length : Int) := by omega
  have hix0 : decide ((ix : Int) < 0) = false := by simp
  have hneq : ((ss[ix].fs.length : Int) != (o.vs.length : Int)) = false := by have h1 := HL.out; have h2 := HSh.out; rw [h2] at h1; simp [h1]
  have hbw : b < w.heap.size := hb
  clear hr hs
  go_wp2_with fail
  go_quiet (fail)
  go_wp2_with fail
  go_ret2
  rw [HSh.out]
  exact ⟨fa, fcap, rfl, hfl, below_drewN ((Below.refl _ _).alloc (Nat.le_refl _) _) _⟩

set_option maxHeartbeats 1000000 in
theorem l2Fields_no (a0 : Option Addr) (cap0 : Nat) (ss : List Shp) (o : Ob) (a a' : Option Addr) (cap cap' : Nat) (w : World) (hw : ShpsAt w a0 ss) (_ho : ObAt w o a a') (hc : Gate.wholeCount ss o = false) :
    Calls Try.prog 75 #[.slice a0 ss.length cap0, .agg #[.string o.kd, .string o.nm, .string o.tm, .slice a o.vs.length cap, .bool o.en, .slice a' o.hs.length cap', .int .i64 o.vr]] w fun e w' => ∃ v, e = .returned (.tuple #[v, .bool false]) ∧ Below w.heap.size w w' := by
  have hl := hw.len
  unfold maxLen at hl
  by_cases hk : Gate.hasKind ss o.kd = true
  · have HK : Hid (Gate.hasKind ss o.kd = true) := hk
    have HL : Hid (¬ o.vs.length = (Gate.shapeOf ss o.kd).fs.length) := by unfold Gate.wholeCount at hc; rw [hk] at hc; simpa [Hid] using hc
    clear hc hk
    go_enter Try.func75, Try.ntmps75
    go_wp2_with fail
    refine (l1Shape_yes _ _ _ _ _ (hw.mono ((Below.refl _ _).alloc (Nat.le_refl _) _)) HK.out).mono ?_
    rintro e w1 ⟨ix, hix, rfl, hsh, rfl⟩
    have HSh : Hid (Gate.shapeOf ss o.kd = ss[ix]) := hsh
    clear hsh
    obtain ⟨b, off, rfl, hb, hr⟩ := hw.rows (by rintro rfl; simp at hix)
    obtain ⟨fa, fcap, hs⟩ := hr ix hix
    have hcl := hs.list
    have hixI : (ix : Int) < (ss.length : Int) := by omega
    have hix0 : decide ((ix : Int) < 0) = false := by simp
    have hneq : ((ss[ix].fs.length : Int) != (o.vs.length : Int)) = true := by have h1 := HL.out; have h2 := HSh.out; rw [h2] at h1; rw [bne_iff_ne]; omega
    have hbw : b < w.heap.size := hb
    clear hr hs
    go_wp2_with fail
    go_quiet (fail)
    go_wp2_with fail
    go_ret2
    exact ⟨_, rfl, below_drewN (below2' _ _ _) _⟩
  · have HK : Hid (Gate.hasKind ss o.kd = false) := by simpa [Hid] using hk
    clear hc hk
    go_enter Try.func75, Try.ntmps75
    go_wp2_with fail
    refine (l1Shape_no _ _ _ _ _ (hw.mono ((Below.refl _ _).alloc (Nat.le_refl _) _)) HK.out).mono ?_
    rintro e w1 ⟨rfl, rfl⟩
    go_wp2_with fail
    go_quiet (fail)
    go_wp2_with fail
    go_ret2
    exact ⟨_, rfl, below_drewN (below2' _ _ _) _⟩

end Go.Proofs.Ytbefjngbilakjaa

namespace Go.Proofs.Ytbefjngbilakjaa
open Go.RowKit

namespace Gate
def fillWhole (ss : List Shp) (o : Ob) : List ByteArray := if wholeCount ss o = true then fillVs (shapeOf ss o.kd).fs o.vs else o.vs
theorem fillRes_ok {ss : List Shp} {o : Ob} (h : shapesOk ss = true) : fillRes ss o = fillWhole ss o := by
  unfold fillRes fillWhole wholeCount
  by_cases h1 : hasKind ss o.kd = true
  · by_cases h2 : o.vs.length = (shapeOf ss o.kd).fs.length
    · rw [if_pos ⟨h1, h, h2⟩, if_pos (by rw [h1]; simp [h2])]
    · rw [if_neg (fun hh => h2 hh.2.2), if_neg (by rw [h1]; simp [h2])]
  · rw [if_neg (fun hh => h1 hh.1), if_neg (by simp [h1])]
theorem fillRes_not {ss : List Shp} {o : Ob} (h : shapesOk ss = false) : fillRes ss o = o.vs := by
  unfold fillRes; rw [if_neg]; rintro ⟨_, h1, _⟩; rw [h] at h1; cases h1
end Gate

theorem cell_setCell_other {w : World} {p : Addr} {v : Value} {b o : Nat} (h : b ≠ p.block) : (w.setCell p v).cell? ⟨b, o, none⟩ = w.cell? ⟨b, o, none⟩ := by
  unfold World.cell?; rw [Below.heap_setCell _ _ _ _ h]

set_option maxHeartbeats 1000000 in
theorem l2Fields_yes2 (a0 : Option Addr) (cap0 : Nat) (ss : List Shp) (o : Ob) (a a' : Option Addr) (cap cap' : Nat) (w0 w : World) (hw0 : ShpsAt w0 a0 ss) (hbb : Below w0.heap.size w0 w) (hc : Gate.wholeCount ss o = true) :
    Calls Try.prog 75 #[.slice a0 ss.length cap0, .agg #[.string o.kd, .string o.nm, .string o.tm, .slice a o.vs.length cap, .bool o.en, .slice a' o.hs.length cap', .int .i64 o.vr]] w fun e w' => ∃ fa fcap, e = .returned (.tuple #[.slice fa (Gate.shapeOf ss o.kd).fs.length fcap, .bool true]) ∧ FldsAt w0 fa (Gate.shapeOf ss o.kd).fs ∧ Below w.heap.size w w' := by
  unfold Gate.wholeCount at hc
  simp only [Bool.and_eq_true, decide_eq_true_eq] at hc
  have HK : Hid (Gate.hasKind ss o.kd = true) := hc.1
  have HL : Hid (o.vs.length = (Gate.shapeOf ss o.kd).fs.length) := hc.2
  clear hc
  have hw := hw0.mono hbb
  have hl := hw.len
  unfold maxLen at hl
  go_enter Try.func75, Try.ntmps75
  go_wp2_with fail
  refine (l1Shape_yes _ _ _ _ _ (hw.mono ((Below.refl _ _).alloc (Nat.le_refl _) _)) HK.out).mono ?_
  rintro e w1 ⟨ix, hix, rfl, hsh, rfl⟩
  have HSh : Hid (Gate.shapeOf ss o.kd = ss[ix]) := hsh
  clear hsh
  obtain ⟨b, off, rfl, hb0, hr⟩ := hw0.rows (by rintro rfl; simp at hix)
  obtain ⟨fa, fcap, hs0⟩ := hr ix hix
  have hs := hs0.mono hb0 hbb
  have hcl := hs.list
  have hfl := hs0.flds
  have hixI : (ix : Int) < (ss.length : Int) := by omega
  have hix0 : decide ((ix : Int) < 0) = false := by simp
  have hneq : ((ss[ix].fs.length : Int) != (o.vs.length : Int)) = false := by have h1 := HL.out; have h2 := HSh.out; rw [h2] at h1; simp [h1]
  have hbw : b < w.heap.size := Nat.lt_of_lt_of_le hb0 hbb.size
  clear hr hs
  go_wp2_with fail
  go_quiet (fail)
  go_wp2_with fail
  go_ret2
  rw [HSh.out]
  exact ⟨fa, fcap, rfl, hfl, below_drewN ((Below.refl _ _).alloc (Nat.le_refl _) _) _⟩

set_option maxHeartbeats 4000000 in
theorem l2Fill_any (a0 : Option Addr) (cap0 : Nat) (ss : List Shp) (o : Ob) (b off b' off' cap cap' : Nat) (w : World) (hw : ShpsAt w a0 ss) (ho : ObAt w o (some ⟨b, off, none⟩) (some ⟨b', off', none⟩)) (hl : o.vs.length ≤ 1048576) (hl' : o.hs.length ≤ 1048576) :
    Calls Try.prog 46 #[.slice a0 ss.length cap0, .agg #[.string o.kd, .string o.nm, .string o.tm, .slice (some ⟨b, off, none⟩) o.vs.length cap, .bool o.en, .slice (some ⟨b', off', none⟩) o.hs.length cap', .int .i64 o.vr]] w (FillPost o (Gate.fillWhole ss o) w) := by
  by_cases hc : Gate.wholeCount ss o = true
  rotate_left
  · have HC : Hid (Gate.wholeCount ss o = false) := by simpa [Hid] using hc
    have HRES : Hid (Gate.fillWhole ss o = o.vs) := by unfold Hid Gate.fillWhole; rw [if_neg hc]
    clear hc
    have HH : Hid (ObAt w o (some ⟨b, off, none⟩) (some ⟨b', off', none⟩)) := ho
    clear ho
    go_enter Try.func46, Try.ntmps46
    go_wp2_with fail
    refine (l2Copy_any o b off b' off' cap cap' _ (HH.out.mono (below2' w (.cells #[.string o.kd, .string o.nm, .string o.tm, .slice (some ⟨b, off, none⟩) o.vs.length cap, .bool o.en, .slice (some ⟨b', off', none⟩) o.hs.length cap', .int .i64 o.vr] 41) (.cells #[.string ByteArray.empty, .string ByteArray.empty, .string ByteArray.empty, .slice none 0 0, .bool false, .slice none 0 0, .int .i64 0] 41))) hl hl').mono ?_
    rintro e w1 ⟨a, dap, a', dap', m, rfl, ht, hm, hsm, ht', hb1⟩
    have HO1 : Hid (w1.heap[w.heap.size]? = some (.cells #[.string o.kd, .string o.nm, .string o.tm, .slice (some ⟨b, off, none⟩) o.vs.length cap, .bool o.en, .slice (some ⟨b', off', none⟩) o.hs.length cap', .int .i64 o.vr] 41)) := (hb1.block w.heap.size (by simp; omega)).trans (two_blocks _ _ _).1
    have HR1 : Hid (w1.heap[w.heap.size + 1]? = some (.cells #[.string ByteArray.empty, .string ByteArray.empty, .string ByteArray.empty, .slice none 0 0, .bool false, .slice none 0 0, .int .i64 0] 41)) := (hb1.block (w.heap.size + 1) (by simp)).trans (two_blocks _ _ _).2
    have hX1 : ∀ j, w1.cell? ⟨w.heap.size, j, none⟩ = (#[.string o.kd, .string o.nm, .string o.tm, .slice (some ⟨b, off, none⟩) o.vs.length cap, .bool o.en, .slice (some ⟨b', off', none⟩) o.hs.length cap', .int .i64 o.vr] : Array Value)[j]? := fun j => cell_of_block HO1.out
    have hz1 : w.heap.size + 1 < w1.heap.size := by have := hb1.size; simp at this; omega
    have hz0 : w.heap.size < w1.heap.size := by omega
    have hB1 : Below w.heap.size w w1 := (below2' _ _ _).trans (hb1.mono (by simp; omega))
    have HT : Hid (TxtsOwn (w.heap.size + 1 + 1) w1 a o.vs ∧ (∀ g, a = some g → g.block < m) ∧ w.heap.size + 1 + 1 ≤ m ∧ TxtsOwn m w1 a' o.hs) := by
      simp only [World.size_alloc] at ht hsm
      exact ⟨ht, hm, hsm, ht'⟩
    clear ht hm hsm ht' hb1
    go_wp2_with fail
    have hbs := (Below.refl w1.heap.size w1).alloc (Nat.le_refl _) (.cells #[.string o.kd, .string o.nm, .string o.tm, .slice a o.vs.length dap, .bool o.en, .slice a' o.hs.length dap', .int .i64 o.vr] 41)
    have hBs := hB1.trans (hbs.mono hB1.size)
    refine (l2Fields_no a0 cap0 ss o _ _ cap cap' _ (hw.mono hBs) (HH.out.mono hBs) HC.out).mono ?_
    rintro e w2 ⟨v, rfl, hb2⟩
    have hba := hbs.trans (hb2.mono hbs.size)
    have hR2 := (hba.block _ hz1).trans HR1.out
    have hU2 : ∀ j, w2.cell? ⟨w1.heap.size, j, none⟩ = (#[.string o.kd, .string o.nm, .string o.tm, .slice a o.vs.length dap, .bool o.en, .slice a' o.hs.length dap', .int .i64 o.vr] : Array Value)[j]? := box_later (box_new w1 _ _) (by simp) hb2
    have hRc : ∀ j, w2.cell? ⟨w.heap.size + 1, j, none⟩ = (#[.string ByteArray.empty, .string ByteArray.empty, .string ByteArray.empty, .slice none 0 0, .bool false, .slice none 0 0, .int .i64 0] : Array Value)[j]? := fun j => cell_of_block hR2
    have hRf : ∀ j, w2.frozen? ⟨w.heap.size + 1, j, none⟩ = false := fun j => frozen_of_block hR2
    have HX : Hid (TxtsOwn (w.heap.size + 1 + 1) w2 a o.vs ∧ TxtsOwn m w2 a' o.hs ∧ Below w.heap.size w w2) := ⟨HT.out.1.mono hba, HT.out.2.2.2.mono hba, hB1.trans (hba.mono hB1.size)⟩
    clear hbs hBs hb2 hba hR2 hX1
    go_wp2_with fail
    refine bodyPost_ret (v := (.agg #[.string o.kd, .string o.nm, .string o.tm, .slice a o.vs.length dap, .bool o.en, .slice a' o.hs.length dap', .int .i64 o.vr])) (by simp [results, Try.results46, go_sem, hRc]) rfl ?_
    obtain ⟨ht, ht', hB⟩ := HX.out
    rw [HRES.out]
    exact ⟨a, dap, a', dap', m, rfl, (put7_own ht _ (by omega) _ _ _ _ _ _ _).low (by omega), HT.out.2.1, by have := HT.out.2.2.1; omega, put7_own ht' _ (by have := HT.out.2.2.1; omega) _ _ _ _ _ _ _, put7_below hB _ (by omega) _ _ _ _ _ _ _⟩
  have HC : Hid (Gate.wholeCount ss o = true) := hc
  have HRES : Hid (Gate.fillWhole ss o = Gate.fillVs (Gate.shapeOf ss o.kd).fs o.vs) := by unfold Hid Gate.fillWhole; rw [if_pos hc]
  have HCC : Hid (o.vs.length = (Gate.shapeOf ss o.kd).fs.length) := by unfold Gate.wholeCount at hc; simp only [Bool.and_eq_true, decide_eq_true_eq] at hc; exact hc.2
  clear hc
  have HH : Hid (ObAt w o (some ⟨b, off, none⟩) (some ⟨b', off', none⟩)) := ho
  clear ho
  go_enter Try.func46, Try.ntmps46
  go_wp2_with fail
  refine (l2Copy_any o b off b' off' cap cap' _ (HH.out.mono (below2' w (.cells #[.string o.kd, .string o.nm, .string o.tm, .slice (some ⟨b, off, none⟩) o.vs.length cap, .bool o.en, .slice (some ⟨b', off', none⟩) o.hs.length cap', .int .i64 o.vr] 41) (.cells #[.string ByteArray.empty, .string ByteArray.empty, .string ByteArray.empty, .slice none 0 0, .bool false, .slice none 0 0, .int .i64 0] 41))) hl hl').mono ?_
  rintro e w1 ⟨a, dap, a', dap', m, rfl, ht, hm, hsm, ht', hb1⟩
  have HO1 : Hid (w1.heap[w.heap.size]? = some (.cells #[.string o.kd, .string o.nm, .string o.tm, .slice (some ⟨b, off, none⟩) o.vs.length cap, .bool o.en, .slice (some ⟨b', off', none⟩) o.hs.length cap', .int .i64 o.vr] 41)) := (hb1.block w.heap.size (by simp; omega)).trans (two_blocks _ _ _).1
  have HR1 : Hid (w1.heap[w.heap.size + 1]? = some (.cells #[.string ByteArray.empty, .string ByteArray.empty, .string ByteArray.empty, .slice none 0 0, .bool false, .slice none 0 0, .int .i64 0] 41)) := (hb1.block (w.heap.size + 1) (by simp)).trans (two_blocks _ _ _).2
  have hX1 : ∀ j, w1.cell? ⟨w.heap.size, j, none⟩ = (#[.string o.kd, .string o.nm, .string o.tm, .slice (some ⟨b, off, none⟩) o.vs.length cap, .bool o.en, .slice (some ⟨b', off', none⟩) o.hs.length cap', .int .i64 o.vr] : Array Value)[j]? := fun j => cell_of_block HO1.out
  have hz1 : w.heap.size + 1 < w1.heap.size := by have := hb1.size; simp at this; omega
  have hz0 : w.heap.size < w1.heap.size := by omega
  have hB1 : Below w.heap.size w w1 := (below2' _ _ _).trans (hb1.mono (by simp; omega))
  have HT : Hid (TxtsOwn (w.heap.size + 1 + 1) w1 a o.vs ∧ (∀ g, a = some g → g.block < m) ∧ w.heap.size + 1 + 1 ≤ m ∧ TxtsOwn m w1 a' o.hs) := by
    simp only [World.size_alloc] at ht hsm
    exact ⟨ht, hm, hsm, ht'⟩
  clear ht hm hsm ht' hb1
  go_wp2_with fail
  have hbs := (Below.refl w1.heap.size w1).alloc (Nat.le_refl _) (.cells #[.string o.kd, .string o.nm, .string o.tm, .slice a o.vs.length dap, .bool o.en, .slice a' o.hs.length dap', .int .i64 o.vr] 41)
  have hBs := hB1.trans (hbs.mono hB1.size)
  refine (l2Fields_yes2 a0 cap0 ss o _ _ cap cap' w _ hw hBs HC.out).mono ?_
  rintro e w2 ⟨fa, fcap, rfl, hf, hb2⟩
  have hba := hbs.trans (hb2.mono hbs.size)
  have HR2 : Hid (w2.heap[w.heap.size + 1]? = some (.cells #[.string ByteArray.empty, .string ByteArray.empty, .string ByteArray.empty, .slice none 0 0, .bool false, .slice none 0 0, .int .i64 0] 41)) := (hba.block _ hz1).trans HR1.out
  have HU2 : Hid (w2.heap[w1.heap.size]? = some (.cells #[.string o.kd, .string o.nm, .string o.tm, .slice a o.vs.length dap, .bool o.en, .slice a' o.hs.length dap', .int .i64 o.vr] 41)) := (hb2.block _ (by simp)).trans (alloc_at _ _)
  have HX2 : Hid (TxtsOwn (w.heap.size + 1 + 1) w2 a o.vs ∧ TxtsOwn m w2 a' o.hs ∧ Below w.heap.size w w2) := ⟨HT.out.1.mono hba, HT.out.2.2.2.mono hba, hB1.trans (hba.mono hB1.size)⟩
  have hz2 : w1.heap.size < w2.heap.size := (Array.getElem?_eq_some_iff.1 HU2.out).1
  clear hbs hBs hb2 hba hX1 hw
  have hlen := hf.len
  unfold maxLen at hlen
  revert HRES HCC hf hlen
  generalize (Gate.shapeOf ss o.kd).fs = fs
  intro HRES HCC hf hlen
  go_wp2_with fail
  go_loopw [8] (fun i wr => ∃ k : Nat, k ≤ fs.length ∧ i = .int .i64 k ∧ TxtsOwn (w.heap.size + 1 + 1) wr a (Gate.fillTo fs o.vs k) ∧ TxtsOwn m wr a' o.hs ∧ wr.heap[w.heap.size + 1]? = some (.cells #[.string ByteArray.empty, .string ByteArray.empty, .string ByteArray.empty, .slice none 0 0, .bool false, .slice none 0 0, .int .i64 0] 41) ∧ wr.heap[w1.heap.size]? = some (.cells #[.string o.kd, .string o.nm, .string o.tm, .slice a o.vs.length dap, .bool o.en, .slice a' o.hs.length dap', .int .i64 o.vr] 41) ∧ Below w.heap.size w wr) (fun i _ => fs.length - (intOf i).toNat)
  case atStart => exact ⟨0, Nat.zero_le _, rfl, by rw [Gate.fillTo_zero]; exact HX2.out.1, HX2.out.2.1, HR2.out, HU2.out, HX2.out.2.2⟩
  case round =>
    obtain ⟨k, hk, rfl, ht, ht', hR, hO, hB⟩ := hrel
    have hOc : ∀ j, wr.cell? ⟨w1.heap.size, j, none⟩ = (#[.string o.kd, .string o.nm, .string o.tm, .slice a o.vs.length dap, .bool o.en, .slice a' o.hs.length dap', .int .i64 o.vr] : Array Value)[j]? := fun j => cell_of_block hO
    have hOz : w1.heap.size < wr.heap.size := (Array.getElem?_eq_some_iff.1 hO).1
    by_cases hlt : k < fs.length
    · have hltv : k < o.vs.length := by rw [HCC.out]; exact hlt
      obtain ⟨fb, foff, rfl, hfb, hr⟩ := hf.rows (by rintro rfl; simp at hlt)
      obtain ⟨wa, wcap, hf0⟩ := hr k hlt
      have hf1 := hf0.mono hfb hB
      obtain ⟨c0, c1, c2, c3, c4, c5, c6, c7, c8, c9, c10⟩ := hf1.load
      have hltI : (k : Int) < (fs.length : Int) := by omega
      have hltV : (k : Int) < (o.vs.length : Int) := by omega
      obtain ⟨g, C, hga, hgl, hgh, hgc⟩ : ∃ g C, a = some ⟨g, 0, none⟩ ∧ w.heap.size + 1 + 1 ≤ g ∧ wr.heap[g]? = some (.cells C 9) ∧ ∀ i (h : i < (Gate.fillTo fs o.vs k).length), C[i]? = some (.string (Gate.fillTo fs o.vs k)[i]) := by
        rcases ht with ⟨_, h0⟩ | h0
        · have := Gate.fillTo_length HCC.out k; rw [h0] at this; simp at this; omega
        · exact h0
      have hgm : g < m := HT.out.2.1 _ hga
      have hgw1 : g < w1.heap.size := HT.out.1.lt _ hga
      have hgw : g < wr.heap.size := by omega
      subst hga
      have hcell : wr.cell? ⟨g, k, none⟩ = some (.string o.vs[k]) := by
        have h1 := Gate.fillTo_at HCC.out k hlt
        have hkl : k < (Gate.fillTo fs o.vs k).length := by rw [Gate.fillTo_length HCC.out]; exact hltv
        rw [List.getElem?_eq_getElem hkl, List.getElem?_eq_getElem hltv] at h1
        rw [cell_of_block hgh, hgc k hkl, Option.some.inj h1]
      have hgf : wr.frozen? ⟨g, k, none⟩ = false := frozen_of_block hgh
      have HX : Hid (TxtsOwn (w.heap.size + 1 + 1) wr (some ⟨g, 0, none⟩) (Gate.fillTo fs o.vs k) ∧ TxtsOwn m wr a' o.hs ∧ wr.heap[w.heap.size + 1]? = some (.cells #[.string ByteArray.empty, .string ByteArray.empty, .string ByteArray.empty, .slice none 0 0, .bool false, .slice none 0 0, .int .i64 0] 41) ∧ wr.heap[w1.heap.size]? = some (.cells #[.string o.kd, .string o.nm, .string o.tm, .slice (some ⟨g, 0, none⟩) o.vs.length dap, .bool o.en, .slice a' o.hs.length dap', .int .i64 o.vr] 41) ∧ Below w.heap.size w wr) := ⟨ht, ht', hR, hO, hB⟩
      clear ht ht' hR hO hB hr hf0 hf1 hgh hgc hf
      by_cases hv : o.vs[k].toList.isEmpty = true
      · have HV : Hid (Gate.fillVal fs[k] o.vs[k] = fs[k].df) := by unfold Hid Gate.fillVal; rw [if_pos hv]
        go_wp2_with fail
        have hfg : fb ≠ g := by omega
        have hq1 : (wr.setCell ⟨g, k, none⟩ (.string fs[k].df)).drew.cell? ⟨w1.heap.size, 3, none⟩ = some (.slice (some ⟨g, 0, none⟩) o.vs.length dap) := (cell_setCell_other (by show w1.heap.size ≠ g; omega)).trans (hOc 3)
        have hq2 : (wr.setCell ⟨g, k, none⟩ (.string fs[k].df)).drew.cell? ⟨fb, foff + k * 11 + 9, none⟩ = some (.string fs[k].df) := (cell_setCell_other hfg).trans c9
        have hgd : wr.drew.frozen? ⟨g, k, none⟩ = false := hgf
        have hcd : wr.drew.cell? ⟨g, k, none⟩ = some (.string o.vs[k]) := hcell
        go_region_held3 (fun w' => w'.cell? ⟨w1.heap.size, 3, none⟩ = some (.slice (some ⟨g, 0, none⟩) o.vs.length dap) ∧ w'.cell? ⟨fb, foff + k * 11 + 9, none⟩ = some (.string fs[k].df)) (first | exact ⟨hOc 3, c9⟩ | exact ⟨hq1, hq2⟩) (fail)
        go_wp2_with fail
        obtain ⟨ht, ht', hR, hO, hB⟩ := HX.out
        exact ⟨⟨k + 1, by omega, by go_num, by rw [Gate.fillTo_succ HCC.out k hlt, HV.out]; exact ht.set k _, ht'.setCell _ hgm _, (Below.heap_setCell _ _ _ _ (by show w.heap.size + 1 ≠ g; omega)).trans hR, (Below.heap_setCell _ _ _ _ (by show w1.heap.size ≠ g; omega)).trans hO, (hB.setCell (p := ⟨g, k, none⟩) (by show w.heap.size ≤ g; omega) _).drew⟩, step_less' hlt⟩
      · have HV : Hid (Gate.fillVal fs[k] o.vs[k] = o.vs[k]) := by unfold Hid Gate.fillVal; rw [if_neg hv]
        go_wp2_with fail
        obtain ⟨ht, ht', hR, hO, hB⟩ := HX.out
        have hsame : (Gate.fillTo fs o.vs k).set k o.vs[k] = Gate.fillTo fs o.vs k := by
          have h1 := Gate.fillTo_at HCC.out k hlt
          have hkl : k < (Gate.fillTo fs o.vs k).length := by rw [Gate.fillTo_length HCC.out]; exact hltv
          rw [List.getElem?_eq_getElem hkl, List.getElem?_eq_getElem hltv] at h1
          rw [← Option.some.inj h1, List.set_getElem_self]
        exact ⟨⟨k + 1, by omega, by go_num, by rw [Gate.fillTo_succ HCC.out k hlt, HV.out, hsame]; exact ht, ht', hR, hO, hB⟩, step_less' hlt⟩
    · have e : k = fs.length := by omega
      subst e
      rw [Gate.fillTo_all HCC.out] at ht
      have hRc : ∀ j, wr.cell? ⟨w.heap.size + 1, j, none⟩ = (#[.string ByteArray.empty, .string ByteArray.empty, .string ByteArray.empty, .slice none 0 0, .bool false, .slice none 0 0, .int .i64 0] : Array Value)[j]? := fun j => cell_of_block hR
      have hRf : ∀ j, wr.frozen? ⟨w.heap.size + 1, j, none⟩ = false := fun j => frozen_of_block hR
      have HX : Hid (TxtsOwn (w.heap.size + 1 + 1) wr a (Gate.fillVs fs o.vs) ∧ TxtsOwn m wr a' o.hs ∧ Below w.heap.size w wr) := ⟨ht, ht', hB⟩
      clear ht ht' hB hR hO hf
      go_wp2_with fail
      refine bodyPost_ret (v := (.agg #[.string o.kd, .string o.nm, .string o.tm, .slice a o.vs.length dap, .bool o.en, .slice a' o.hs.length dap', .int .i64 o.vr])) (by simp [results, Try.results46, go_sem, hRc]) rfl ?_
      obtain ⟨ht, ht', hB⟩ := HX.out
      rw [HRES.out]
      exact ⟨a, dap, a', dap', m, rfl, (put7_own ht _ (by omega) _ _ _ _ _ _ _).low (by omega), HT.out.2.1, by have := HT.out.2.2.1; omega, put7_own ht' _ (by have := HT.out.2.2.1; omega) _ _ _ _ _ _ _, put7_below hB _ (by omega) _ _ _ _ _ _ _⟩

set_option maxHeartbeats 2000000 in
theorem specFill_any (a0 : Option Addr) (cap0 : Nat) (ss : List Shp) (o : Ob) (b off b' off' cap cap' : Nat) (w : World) (hw : ShpsAt w a0 ss) (ho : ObAt w o (some ⟨b, off, none⟩) (some ⟨b', off', none⟩)) (hl : o.vs.length ≤ 1048576) (hl' : o.hs.length ≤ 1048576) :
    Calls Try.prog 18 #[.slice a0 ss.length cap0, .agg #[.string o.kd, .string o.nm, .string o.tm, .slice (some ⟨b, off, none⟩) o.vs.length cap, .bool o.en, .slice (some ⟨b', off', none⟩) o.hs.length cap', .int .i64 o.vr]] w (FillPost o (Gate.fillRes ss o) w) := by
  have HH : Hid (ObAt w o (some ⟨b, off, none⟩) (some ⟨b', off', none⟩)) := ho
  clear ho
  by_cases hok : Gate.shapesOk ss = true
  · have HRES : Hid (Gate.fillRes ss o = Gate.fillWhole ss o) := Gate.fillRes_ok hok
    go_enter Try.func18, Try.ntmps18
    go_wp2_with fail
    have h1 := specShapesOk_any a0 cap0 ss _ (hw.mono (below2' w (.cells #[.string o.kd, .string o.nm, .string o.tm, .slice (some ⟨b, off, none⟩) o.vs.length cap, .bool o.en, .slice (some ⟨b', off', none⟩) o.hs.length cap', .int .i64 o.vr] 41) (.cells #[.string ByteArray.empty, .string ByteArray.empty, .string ByteArray.empty, .slice none 0 0, .bool false, .slice none 0 0, .int .i64 0] 41)))
    rw [hok] at h1
    refine h1.mono ?_
    rintro e w1 ⟨rfl, hb1⟩
    have hX1 : ∀ j, w1.cell? ⟨w.heap.size, j, none⟩ = (#[.string o.kd, .string o.nm, .string o.tm, .slice (some ⟨b, off, none⟩) o.vs.length cap, .bool o.en, .slice (some ⟨b', off', none⟩) o.hs.length cap', .int .i64 o.vr] : Array Value)[j]? := fun j => cell_of_block ((hb1.block w.heap.size (by simp; omega)).trans (two_blocks _ _ _).1)
    have HR1 : Hid (w1.heap[w.heap.size + 1]? = some (.cells #[.string ByteArray.empty, .string ByteArray.empty, .string ByteArray.empty, .slice none 0 0, .bool false, .slice none 0 0, .int .i64 0] 41)) := (hb1.block (w.heap.size + 1) (by simp)).trans (two_blocks _ _ _).2
    have hz1 : w.heap.size + 1 < w1.heap.size := by have := hb1.size; simp at this; omega
    have hz0 : w.heap.size < w1.heap.size := by omega
    have hB1 : Below w.heap.size w w1 := (below2' _ _ _).trans (hb1.mono (by simp; omega))
    clear h1 hb1
    go_wp2_with fail
    refine (l2Fill_any a0 cap0 ss o b off b' off' cap cap' _ (hw.mono hB1) (HH.out.mono hB1) hl hl').mono ?_
    rintro e w4 ⟨a, dap, a', dap', m, rfl, ht, hm, hsm, ht', hb4⟩
    have hR4 : w4.heap[w.heap.size + 1]? = some (.cells #[.string ByteArray.empty, .string ByteArray.empty, .string ByteArray.empty, .slice none 0 0, .bool false, .slice none 0 0, .int .i64 0] 41) := (hb4.block (w.heap.size + 1) hz1).trans HR1.out
    have hRc : ∀ j, w4.cell? ⟨w.heap.size + 1, j, none⟩ = (#[.string ByteArray.empty, .string ByteArray.empty, .string ByteArray.empty, .slice none 0 0, .bool false, .slice none 0 0, .int .i64 0] : Array Value)[j]? := fun j => cell_of_block hR4
    have hRf : ∀ j, w4.frozen? ⟨w.heap.size + 1, j, none⟩ = false := fun j => frozen_of_block hR4
    have HX : Hid (TxtsOwn (w.heap.size + 1 + 1) w4 a (Gate.fillWhole ss o) ∧ (∀ g, a = some g → g.block < m) ∧ w.heap.size + 1 + 1 ≤ m ∧ TxtsOwn m w4 a' o.hs ∧ Below w.heap.size w w4) := ⟨ht.low hz1, hm, Nat.le_trans hz1 hsm, ht', hB1.trans (hb4.mono hB1.size)⟩
    clear ht hm hsm ht' hb4 hR4 hX1
    go_wp2_with fail
    refine bodyPost_ret (v := (.agg #[.string o.kd, .string o.nm, .string o.tm, .slice a o.vs.length dap, .bool o.en, .slice a' o.hs.length dap', .int .i64 o.vr])) (by simp [results, Try.results18, go_sem, hRc]) rfl ?_
    obtain ⟨ht, hm, hsm, ht', hB⟩ := HX.out
    rw [HRES.out]
    exact ⟨a, dap, a', dap', m, rfl, (put7_own ht _ (by omega) _ _ _ _ _ _ _).low (by omega), hm, by omega, put7_own ht' _ (by omega) _ _ _ _ _ _ _, put7_below hB _ (by omega) _ _ _ _ _ _ _⟩
  · have hok : Gate.shapesOk ss = false := by simpa using hok
    have HRES : Hid (Gate.fillRes ss o = o.vs) := Gate.fillRes_not hok
    go_enter Try.func18, Try.ntmps18
    go_wp2_with fail
    have h1 := specShapesOk_any a0 cap0 ss _ (hw.mono (below2' w (.cells #[.string o.kd, .string o.nm, .string o.tm, .slice (some ⟨b, off, none⟩) o.vs.length cap, .bool o.en, .slice (some ⟨b', off', none⟩) o.hs.length cap', .int .i64 o.vr] 41) (.cells #[.string ByteArray.empty, .string ByteArray.empty, .string ByteArray.empty, .slice none 0 0, .bool false, .slice none 0 0, .int .i64 0] 41)))
    rw [hok] at h1
    refine h1.mono ?_
    rintro e w1 ⟨rfl, hb1⟩
    have hX1 : ∀ j, w1.cell? ⟨w.heap.size, j, none⟩ = (#[.string o.kd, .string o.nm, .string o.tm, .slice (some ⟨b, off, none⟩) o.vs.length cap, .bool o.en, .slice (some ⟨b', off', none⟩) o.hs.length cap', .int .i64 o.vr] : Array Value)[j]? := fun j => cell_of_block ((hb1.block w.heap.size (by simp; omega)).trans (two_blocks _ _ _).1)
    have HR1 : Hid (w1.heap[w.heap.size + 1]? = some (.cells #[.string ByteArray.empty, .string ByteArray.empty, .string ByteArray.empty, .slice none 0 0, .bool false, .slice none 0 0, .int .i64 0] 41)) := (hb1.block (w.heap.size + 1) (by simp)).trans (two_blocks _ _ _).2
    have hz1 : w.heap.size + 1 < w1.heap.size := by have := hb1.size; simp at this; omega
    have hz0 : w.heap.size < w1.heap.size := by omega
    have hB1 : Below w.heap.size w w1 := (below2' _ _ _).trans (hb1.mono (by simp; omega))
    clear h1 hb1
    go_wp2_with fail
    refine (l2Copy_any o b off b' off' cap cap' _ (HH.out.mono hB1) hl hl').mono ?_
    rintro e w4 ⟨a, dap, a', dap', m, rfl, ht, hm, hsm, ht', hb4⟩
    have hR4 : w4.heap[w.heap.size + 1]? = some (.cells #[.string ByteArray.empty, .string ByteArray.empty, .string ByteArray.empty, .slice none 0 0, .bool false, .slice none 0 0, .int .i64 0] 41) := (hb4.block (w.heap.size + 1) hz1).trans HR1.out
    have hRc : ∀ j, w4.cell? ⟨w.heap.size + 1, j, none⟩ = (#[.string ByteArray.empty, .string ByteArray.empty, .string ByteArray.empty, .slice none 0 0, .bool false, .slice none 0 0, .int .i64 0] : Array Value)[j]? := fun j => cell_of_block hR4
    have hRf : ∀ j, w4.frozen? ⟨w.heap.size + 1, j, none⟩ = false := fun j => frozen_of_block hR4
    have HX : Hid (TxtsOwn (w.heap.size + 1 + 1) w4 a (o.vs) ∧ (∀ g, a = some g → g.block < m) ∧ w.heap.size + 1 + 1 ≤ m ∧ TxtsOwn m w4 a' o.hs ∧ Below w.heap.size w w4) := ⟨ht.low hz1, hm, Nat.le_trans hz1 hsm, ht', hB1.trans (hb4.mono hB1.size)⟩
    clear ht hm hsm ht' hb4 hR4 hX1
    go_wp2_with fail
    refine bodyPost_ret (v := (.agg #[.string o.kd, .string o.nm, .string o.tm, .slice a o.vs.length dap, .bool o.en, .slice a' o.hs.length dap', .int .i64 o.vr])) (by simp [results, Try.results18, go_sem, hRc]) rfl ?_
    obtain ⟨ht, hm, hsm, ht', hB⟩ := HX.out
    rw [HRES.out]
    exact ⟨a, dap, a', dap', m, rfl, (put7_own ht _ (by omega) _ _ _ _ _ _ _).low (by omega), hm, by omega, put7_own ht' _ (by omega) _ _ _ _ _ _ _, put7_below hB _ (by omega) _ _ _ _ _ _ _⟩

end Go.Proofs.Ytbefjngbilakjaa
