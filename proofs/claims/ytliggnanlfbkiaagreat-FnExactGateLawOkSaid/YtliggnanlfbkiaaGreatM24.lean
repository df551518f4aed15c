import Derived.Test.YtliggnanlfbkiaaGreatM23
import Derived.Test.YtliggnanlfbkiaaGreatM13
import Derived.Deep.QuietTactic
import Derived.BigQuiet
import Derived.Test.YtliggnanlfbkiaaGreatM21
import Derived.Test.YtliggnanlfbkiaaGreatM22
namespace Go.Proofs.YtliggnanlfbkiaaGreat
open Go.RowKit

set_option maxHeartbeats 4000000 in
theorem specShapesOk_any (a : Option Addr) (cap : Nat) (ss : List Shp) (w : World) (hw : ShpsAt w a ss) :
    Calls Tryz.prog 25 #[.slice a ss.length cap] w fun e w' => e = .returned (.bool (Gate.shapesOk ss)) ∧ Below w.heap.size w w' := by
  have hl := hw.len
  unfold maxLen at hl
  by_cases h6 : ss.length ≤ 6
  rotate_left
  · have HF : Hid (Gate.shapesOk ss = false) := by simp [Hid, Gate.shapesOk, h6]
    clear hw
    go_enter Tryz.func25, Tryz.ntmps25
    go_wp2
    go_ret
    exact ⟨ret_bool HF.out.symm, Below.refl _ _⟩
  have HG : Hid (Gate.shapesOk ss = Gate.up (Gate.shapeAt ss) ss.length) := by simp [Hid, Gate.shapesOk, h6]
  have h6I : (ss.length : Int) ≤ 6 := by omega
  go_enter Tryz.func25, Tryz.ntmps25
  go_wp2_with fail
  go_loopw [3] (fun i wr => ∃ k : Nat, k ≤ ss.length ∧ i = .int .i64 k ∧ Gate.up (Gate.shapeAt ss) k = true ∧ Below w.heap.size w wr) (fun i _ => ss.length - (intOf i).toNat)
  case atStart => exact ⟨0, Nat.zero_le _, rfl, rfl, Below.refl _ _⟩
  case round =>
    obtain ⟨k, hk, rfl, hup, hB⟩ := hrel
    obtain ⟨W0, rfl⟩ : ∃ W0, W0 = wr := ⟨wr, rfl⟩
    have hsz := hB.size
    by_cases hlt : k < ss.length
    · obtain ⟨b, off, rfl, hb, hrw⟩ := hw.rows (by rintro rfl; simp at hlt)
      have hbr : b < W0.heap.size := by omega
      have hall := hw.mono hB
      obtain ⟨fa, fcap, hs⟩ := hrw k hlt
      have hs' := hs.mono hb hB
      have hck := hs'.kind
      have hcl := hs'.list
      have hfl := hs'.flds
      have hsm := hs.small
      have HS : Hid (Gate.shapeAt ss k = true → Gate.up (Gate.shapeAt ss) (k + 1) = true) := fun h => by rw [Gate.up_succ, hup, h]; rfl
      have HN : Hid (Gate.shapeAt ss k = false → Gate.shapesOk ss = false) := fun h => by rw [HG.out]; exact Gate.up_not hlt h
      have hltI : (k : Int) < (ss.length : Int) := by omega
      by_cases hn : Gate.nameOk ss[k].kd = true
      rotate_left
      · have HNm : Hid (Gate.nameOk ss[k].kd = false) := by simpa [Hid] using hn
        have HF : Hid (Gate.shapeAt ss k = false) := by
          unfold Hid Gate.shapeAt; rw [Gate.getD_at ss k _ hlt, HNm.out]; rfl
        clear hn hup hw hrw hs hs'
        go_wp2_with fail
        go_quiet ((go_at_call 28; exact Calls.quiet_of_same (as_bool HNm.out (l1NameOk_any _ _ hsm))))
        go_wp2_with fail
        go_ret
        exact ⟨ret_bool (HN.out HF.out).symm, below_drewN (hB.alloc hsz _) _⟩
      have HNm : Hid (Gate.nameOk ss[k].kd = true) := hn
      clear hn
      have hcl6 := hfl.len
      unfold maxLen at hcl6
      by_cases hbad : 0 < k ∧ Gate.less (ss.getD (k - 1) Gate.noShape).kd ss[k].kd = false
      · obtain ⟨hkpos, hls⟩ := hbad
        rw [Gate.getD_at ss (k - 1) _ (by omega)] at hls
        obtain ⟨fam, fcapm, hsm0⟩ := hrw (k - 1) (by omega)
        have hcm := (hsm0.mono hb hB).kind
        have hls' : Op.bytesLess ss[k - 1].kd.toList ss[k].kd.toList = false := hls
        have hg : decide (0 < k) = true := by simp; omega
        have hk1 : (0 : Int) ≤ (k : Int) - 1 := by omega
        have hk2 : (k : Int) - 1 < (ss.length : Int) := by omega
        have HF : Hid (Gate.shapeAt ss k = false) := by
          unfold Hid Gate.shapeAt; rw [Gate.getD_at ss k _ hlt, Gate.getD_at ss (k - 1) _ (by omega), hls, decide_eq_false (show ¬ k = 0 by omega)]; simp
        clear hup hw hrw hs hs' hls hsm0
        go_wp2_with fail
        go_quiet ((go_at_call 28; exact Calls.quiet_of_same (as_bool HNm.out (l1NameOk_any _ _ hsm))))
        go_wp2_with fail
        go_ret
        exact ⟨ret_bool (HN.out HF.out).symm, below_drewN (hB.alloc hsz _) _⟩
      have hgood : (decide (0 < k) = false ∧ Gate.shapeAt ss k = Gate.fieldsOk ss ss[k].fs) ∨ (decide (0 < k) = true ∧ Gate.shapeAt ss k = Gate.fieldsOk ss ss[k].fs ∧ (0 : Int) ≤ (k : Int) - 1 ∧ (k : Int) - 1 < (ss.length : Int) ∧ ∃ h : k - 1 < ss.length, Op.bytesLess ss[k - 1].kd.toList ss[k].kd.toList = true ∧ W0.cell? ⟨b, off + (k - 1) * 2, none⟩ = some (.string ss[k - 1].kd)) := by
        by_cases hk0 : k = 0
        · refine Or.inl ⟨by simp; omega, ?_⟩
          subst hk0; rw [Gate.shapeAt_first ss hlt, HNm.out]; rfl
        · obtain ⟨fam, fcapm, hsm0⟩ := hrw (k - 1) (by omega)
          have hls : Gate.less ss[k - 1].kd ss[k].kd = true := by
            rw [Gate.getD_at ss (k - 1) _ (by omega)] at hbad
            cases h : Gate.less ss[k - 1].kd ss[k].kd with
            | true => rfl
            | false => exact absurd ⟨by omega, h⟩ hbad
          refine Or.inr ⟨by simp; omega, ?_, by omega, by omega, by omega, hls, (hsm0.mono hb hB).kind⟩
          unfold Gate.shapeAt; rw [Gate.getD_at ss k _ hlt, Gate.getD_at ss (k - 1) _ (by omega), hls, HNm.out]; simp
      clear hup hw hrw hs hs' hbad
      rcases hgood with ⟨hg, hAA⟩ | ⟨hg, hAA, hk1, hk2, hkm, hls', hcm⟩
      all_goals
        have HA := hid hAA
        clear hAA
        by_cases h6f : ss[k].fs.length ≤ 6
        rotate_left
        · have HF : Hid (Gate.shapeAt ss k = false) := by rw [HA.out]; simp [Hid, Gate.fieldsOk, h6f]
          have h6fI : (6 : Int) < (ss[k].fs.length : Int) := by omega
          go_wp2_with fail
          go_quiet ((go_at_call 28; exact Calls.quiet_of_same (as_bool HNm.out (l1NameOk_any _ _ hsm))))
          go_wp2_with fail
          go_ret
          exact ⟨ret_bool (HN.out HF.out).symm, below_drewN (hB.alloc hsz _) _⟩
        have h6fI : (ss[k].fs.length : Int) ≤ 6 := by omega
        have HFG : Hid (Gate.fieldsOk ss ss[k].fs = Gate.up (Gate.okAt ss ss[k].fs) ss[k].fs.length) := by simp [Hid, Gate.fieldsOk, h6f]
        go_wp2_with fail
        go_quiet ((go_at_call 28; exact Calls.quiet_of_same (as_bool HNm.out (l1NameOk_any _ _ hsm))))
        go_wp2_with fail
        go_loopw [5] (fun i wr2 => ∃ k2 : Nat, k2 ≤ ss[k].fs.length ∧ i = .int .i64 k2 ∧ Gate.up (Gate.okAt ss ss[k].fs) k2 = true ∧ Below (W0.heap.size + 1) (W0.alloc (.cells #[.string ss[k].kd, .slice fa ss[k].fs.length fcap] 65)) wr2) (fun i _ => ss[k].fs.length - (intOf i).toNat)
        case atStart => exact ⟨0, Nat.zero_le _, rfl, rfl, below_drewN (Below.refl _ _) _⟩
        case round =>
          obtain ⟨k2, hk2', rfl, hup2, hBl⟩ := hrel
          obtain ⟨W2, rfl⟩ : ∃ W2, W2 = wr := ⟨wr, rfl⟩
          have hsz2 : W0.heap.size < W2.heap.size := by have := hBl.size; simp at this; omega
          have hB02 : Below W0.heap.size W0 W2 := ((Below.refl _ _).alloc (Nat.le_refl _) _).trans (hBl.mono (by omega))
          have hB2 := hB.trans (hB02.mono hsz)
          have hY1 : W2.cell? ⟨W0.heap.size, 1, none⟩ = some (.slice fa ss[k].fs.length fcap) := (hBl.cell (p := ⟨W0.heap.size, 1, none⟩) (by simp)).trans (by rw [World.cell?_alloc_at _ _ _ _ rfl]; rfl)
          by_cases hlt2 : k2 < ss[k].fs.length
          · obtain ⟨fb, foff, rfl, hfb, hfr⟩ := hfl.rows (by intro h; rw [h] at hlt2; simp at hlt2)
            obtain ⟨wa, wcap, hf0⟩ := hfr k2 hlt2
            have hf := hf0.mono hfb hB02
            obtain ⟨c0, c1, c2, c3, c4, c5, c6, c7, c8, c9, c10⟩ := hf.load
            have hsmf := hf.small
            have hstf := hf.strs
            have hall2 := hall.mono hB02
            have HO := hid (Gate.okAt_eq ss ss[k].fs k2 hlt2)
            have HS2 : Hid (Gate.okAt ss ss[k].fs k2 = true → Gate.up (Gate.okAt ss ss[k].fs) (k2 + 1) = true) := fun h => by rw [Gate.up_succ, hup2, h]; rfl
            have HN2 : Hid (Gate.okAt ss ss[k].fs k2 = false → Gate.shapesOk ss = false) := fun h => HN.out (by rw [HA.out, HFG.out]; exact Gate.up_not hlt2 h)
            have hltI2 : (k2 : Int) < (ss[k].fs.length : Int) := by omega
            by_cases hfo : (Gate.nameOk ss[k].fs[k2].nm && Gate.fieldOk ss ss[k].fs[k2]) = true
            · have HFO := hid hfo
              clear hfo hup2
              go_wp2_with fail
              refine (as_bool HFO.out (specField_any _ _ _ _ _ _ _ _ _ _ _ _ _ _ _ _ _ hsmf.nm hsmf.df hsmf.wg hstf hall2)).mono ?_
              rintro e W3 ⟨rfl, hb3⟩
              go_wp2_with fail
              have hB23 : Below W0.heap.size W0 W3 := hB02.trans (hb3.mono (by omega))
              have hB3 : Below w.heap.size w W3 := hB2.trans (hb3.mono (by omega))
              have hY3 := (hb3.cell (p := ⟨W0.heap.size, 1, none⟩) hsz2).trans hY1
              have hsz3 : W0.heap.size < W3.heap.size := by have := hb3.size; omega
              have hnames : ∀ i (h : i < ss[k].fs.length), W3.cell? ⟨fb, foff + i * 11, none⟩ = some (.string ss[k].fs[i].nm) := fun i h => by
                obtain ⟨wa', wcap', hfi⟩ := hfr i h
                exact (hfi.mono hfb hB23).load.1
              have hBl3 : Below (W0.heap.size + 1) (W0.alloc (.cells #[.string ss[k].kd, .slice (some ⟨fb, foff, none⟩) ss[k].fs.length fcap] 65)) W3 := hBl.trans (hb3.mono (by omega))
              clear hY1 c0 c1 c2 c3 c4 c5 c6 c7 c8 c9 c10 hb3 hf hf0 hfr hstf hall2
              go_loopw [6] (fun i wr3 => ∃ j : Nat, j ≤ k2 ∧ i = .int .i64 j ∧ Gate.hasName (ss[k].fs.take j) ss[k].fs[k2].nm = false ∧ ∃ n, wr3 = W3.drewN n) (fun i _ => k2 - (intOf i).toNat)
              case atStart => exact ⟨0, Nat.zero_le _, rfl, rfl, 0, rfl⟩
              case round =>
                obtain ⟨jj, hjj, rfl, hno, hwr3⟩ := hrel
                have HW := hid hwr3
                have hY4 : wr.cell? ⟨W0.heap.size, 1, none⟩ = some (.slice (some ⟨fb, foff, none⟩) ss[k].fs.length fcap) := by obtain ⟨n, rfl⟩ := hwr3; exact hY3
                have hck2 : wr.cell? ⟨fb, foff + k2 * 11, none⟩ = some (.string ss[k].fs[k2].nm) := by obtain ⟨n, rfl⟩ := hwr3; exact hnames k2 hlt2
                by_cases hltj : jj < k2
                · have hjl : jj < ss[k].fs.length := by omega
                  have hcj : wr.cell? ⟨fb, foff + jj * 11, none⟩ = some (.string ss[k].fs[jj].nm) := by obtain ⟨n, rfl⟩ := hwr3; exact hnames jj hjl
                  have hjI : (jj : Int) < (ss[k].fs.length : Int) := by omega
                  have hjK : (jj : Int) < (k2 : Int) := by omega
                  clear hwr3
                  by_cases he : ss[k].fs[jj].nm = ss[k].fs[k2].nm
                  · have hbe : (ss[k].fs[jj].nm.toList == ss[k].fs[k2].nm.toList) = true := by rw [Gate.beq_toList]; simpa using he
                    have HF : Hid (Gate.okAt ss ss[k].fs k2 = false) := by
                      rw [HO.out]; unfold Hid
                      have hh : Gate.hasName (ss[k].fs.take k2) ss[k].fs[k2].nm = true := by
                        unfold Gate.hasName; rw [List.any_eq_true]
                        exact ⟨ss[k].fs[jj], List.mem_take_iff_getElem.2 ⟨jj, by omega, rfl⟩, by simpa using he⟩
                      rw [hh]; simp
                    clear he hno
                    go_wp2_with fail
                    go_quiet (fail)
                    go_wp2_with fail
                    go_ret
                    refine ⟨ret_bool (HN2.out HF.out).symm, ?_⟩
                    obtain ⟨n, rfl⟩ := HW.out
                    exact below_drewN (below_drewN hB3 _) _
                  · have hbe : (ss[k].fs[jj].nm.toList == ss[k].fs[k2].nm.toList) = false := by rw [Gate.beq_toList]; simpa using he
                    have HSn : Hid (Gate.hasName (ss[k].fs.take (jj + 1)) ss[k].fs[k2].nm = false) := by unfold Hid; rw [Gate.hasName_snoc _ _ jj hjl, hno, decide_eq_false he]; rfl
                    clear he hno
                    go_wp2_with fail
                    go_quiet (fail)
                    go_wp2_with fail
                    obtain ⟨n, rfl⟩ := HW.out
                    exact ⟨⟨jj + 1, by omega, by go_num, HSn.out, n + nq, by simp⟩, by simp [intOf]; omega⟩
                · have HF : Hid (Gate.okAt ss ss[k].fs k2 = true) := by
                    have e : jj = k2 := by omega
                    subst e
                    rw [HO.out, hno]; unfold Hid
                    have := HFO.out
                    rw [Bool.and_eq_true] at this
                    rw [this.1, this.2]; rfl
                  have hBlw : Below (W0.heap.size + 1) (W0.alloc (.cells #[.string ss[k].kd, .slice (some ⟨fb, foff, none⟩) ss[k].fs.length fcap] 65)) wr := by obtain ⟨n, rfl⟩ := hwr3; exact below_drewN hBl3 _
                  clear hno hwr3 hY4 hck2
                  go_wp2_with fail
                  exact ⟨⟨k2 + 1, by omega, by go_num, HS2.out HF.out, hBlw⟩, by simp [intOf]; omega⟩
            · have HFO : Hid ((Gate.nameOk ss[k].fs[k2].nm && Gate.fieldOk ss ss[k].fs[k2]) = false) := by simpa [Hid] using hfo
              have HF : Hid (Gate.okAt ss ss[k].fs k2 = false) := by
                rw [HO.out]; unfold Hid
                have := HFO.out
                cases h1 : Gate.nameOk ss[k].fs[k2].nm <;> cases h2 : Gate.fieldOk ss ss[k].fs[k2] <;> simp_all
              clear hfo hup2
              go_wp2_with fail
              refine (as_bool HFO.out (specField_any _ _ _ _ _ _ _ _ _ _ _ _ _ _ _ _ _ hsmf.nm hsmf.df hsmf.wg hstf hall2)).mono ?_
              rintro e W3 ⟨rfl, hb3⟩
              have hB3 : Below w.heap.size w W3 := hB2.trans (hb3.mono (by omega))
              go_wp2_with fail
              go_ret
              exact ⟨ret_bool (HN2.out HF.out).symm, hB3⟩
          · have HF : Hid (Gate.shapeAt ss k = true) := by
              have e : k2 = ss[k].fs.length := by omega
              subst e; rw [HA.out, HFG.out]; exact hup2
            clear hup2
            go_wp2_with fail
            exact ⟨⟨k + 1, by omega, by go_num, HS.out HF.out, hB2⟩, by simp [intOf]; omega⟩
    · have HF : Hid (Gate.shapesOk ss = true) := by
        have e : k = ss.length := by omega
        subst e; rw [HG.out]; exact hup
      clear hup hw
      go_wp2
      go_ret
      exact ⟨ret_bool HF.out.symm, hB⟩

end Go.Proofs.YtliggnanlfbkiaaGreat

namespace Go.Proofs.YtliggnanlfbkiaaGreat
open Go.RowKit

namespace Gate
def specAt (ss : List Shp) (m : Mnd) : Bool := hasKind ss m.kd && specOk (shapeOf ss m.kd).fs m
def rowOkS (ms : List Mnd) (s : Shp) : Bool := decide ((greedyN s ms s.fs.length).length = s.fs.length)
def mendsOkS (ss : List Shp) (ms : List Mnd) : Bool := shapesOk ss && decide (ms.length ≤ 12) && ms.all (specAt ss) && ss.all (rowOkS ms)
end Gate

set_option maxHeartbeats 1000000 in
theorem l3MendOk_any (a : Option Addr) (cap : Nat) (ss : List Shp) (m : Mnd) (w : World) (hw : ShpsAt w a ss) (hm : m.Small) :
    Calls Tryz.prog 26 #[.slice a ss.length cap, .agg m.cells] w fun e w' => e = .returned (.bool (Gate.specAt ss m)) ∧ Below w.heap.size w w' := by
  by_cases hk : Gate.hasKind ss m.kd = true
  · refine (l3MendOk_yes a cap ss m w hw hm hk).mono ?_
    rintro e w' ⟨rfl, hb⟩
    exact ⟨by unfold Gate.specAt; rw [hk]; rfl, hb⟩
  · have hkf : Gate.hasKind ss m.kd = false := by simpa using hk
    have HF : Hid (Gate.specAt ss m = false) := by unfold Hid Gate.specAt; rw [hkf]; rfl
    unfold Mnd.cells
    have hba := (Below.refl w.heap.size w).alloc (Nat.le_refl _) (.cells #[.string m.kd, .string m.fd, .string m.wh, .string m.wi, .string m.pt, .string m.fr] 60)
    go_enter Tryz.func26, Tryz.ntmps26
    go_wp2_with fail
    refine (l1Shape_no _ _ _ _ _ (hw.mono hba) hkf).mono ?_
    rintro e w1 ⟨rfl, rfl⟩
    go_wp2_with fail
    go_ret
    exact ⟨by rw [HF.out]; rfl, hba⟩

set_option maxRecDepth 20000 in
set_option maxHeartbeats 4000000 in
theorem specMendsOk_any (a a' : Option Addr) (cap cap' : Nat) (ss : List Shp) (ms : List Mnd) (w : World) (hw : ShpsAt w a ss) (hm : MndsAt w a' ms) :
    Calls Tryz.prog 12 #[.slice a ss.length cap, .slice a' ms.length cap'] w fun e w' => e = .returned (.bool (Gate.mendsOkS ss ms)) ∧ Below w.heap.size w w' := by
  have HW := hid2 hw hm
  have hl := hw.len
  have hml := hm.len
  unfold maxLen at hl hml
  clear hw hm
  by_cases hok : Gate.shapesOk ss = true
  rotate_left
  · have hokf : Gate.shapesOk ss = false := by simpa using hok
    have HF : Hid (Gate.mendsOkS ss ms = false) := by unfold Hid Gate.mendsOkS; rw [hokf]; simp
    go_enter Tryz.func12, Tryz.ntmps12
    go_wp2_with fail
    have h := specShapesOk_any a cap ss w HW.out.1
    rw [hokf] at h
    refine h.mono ?_
    rintro e w1 ⟨rfl, hb1⟩
    clear h
    go_wp2_with fail
    go_ret
    exact ⟨by rw [HF.out]; rfl, hb1⟩
  have HOK := hid hok
  by_cases h12 : ms.length ≤ 12
  rotate_left
  · have HF : Hid (Gate.mendsOkS ss ms = false) := by unfold Hid Gate.mendsOkS; rw [decide_eq_false h12]; simp
    go_enter Tryz.func12, Tryz.ntmps12
    go_wp2_with fail
    have h := specShapesOk_any a cap ss w HW.out.1
    rw [hok] at h
    refine h.mono ?_
    rintro e w1 ⟨rfl, hb1⟩
    clear h hok
    go_wp2_with fail
    go_ret
    exact ⟨by rw [HF.out]; rfl, hb1⟩
  have h12I : (ms.length : Int) ≤ 12 := by omega
  go_enter Tryz.func12, Tryz.ntmps12
  go_wp2_with fail
  have h := specShapesOk_any a cap ss w HW.out.1
  rw [hok] at h
  refine h.mono ?_
  rintro e w1 ⟨rfl, hb1⟩
  have HB1 := hid hb1
  clear h hok hb1
  go_wp2_with fail
  go_loopw [5] (fun iv wr => ∃ k : Nat, k ≤ ms.length ∧ iv = .int .i64 k ∧ (ms.take k).all (Gate.specAt ss) = true ∧ Below w.heap.size w wr) (fun iv _ => ms.length - (intOf iv).toNat)
  case atStart => exact ⟨0, Nat.zero_le _, rfl, rfl, HB1.out⟩
  case round =>
    obtain ⟨k, hk, rfl, hall, hB⟩ := hrel
    have HB := hid hB
    have HA := hid hall
    clear hall hB
    by_cases hlt : k < ms.length
    · obtain ⟨b, off, rfl, hb, c0, c1, c2, c3, c4, c5⟩ := HW.out.2.load HB.out k hlt
      have hltI : (k : Int) < (ms.length : Int) := by omega
      have HSM := hid (HW.out.2.small k hlt)
      have HTK : Hid ((ms.take (k + 1)).all (Gate.specAt ss) = Gate.specAt ss ms[k]) := by
        unfold Hid; rw [List.take_succ_eq_append_getElem hlt, List.all_append, HA.out]; simp
      have HNO : Hid (Gate.specAt ss ms[k] = false → Gate.mendsOkS ss ms = false) := by
        intro h
        have : ms.all (Gate.specAt ss) = false := by rw [List.all_eq_false]; exact ⟨_, List.getElem_mem hlt, by rw [h]; simp⟩
        unfold Gate.mendsOkS; rw [this]; simp
      go_wp2_with fail
      have h := l3MendOk_any a cap ss ms[k] wr (HW.out.1.mono HB.out) HSM.out
      rcases hh : Gate.specAt ss ms[k] with _ | _
      · rw [hh] at h
        refine h.mono ?_
        rintro e w3 ⟨rfl, hb3⟩
        have HF := hid2 (HNO.out hh) (HB.out.trans (hb3.mono HB.out.size))
        clear h hb3 hh c0 c1 c2 c3 c4 c5
        go_wp2_with fail
        go_ret
        exact ⟨by rw [HF.out.1]; rfl, HF.out.2⟩
      · rw [hh] at h
        refine h.mono ?_
        rintro e w3 ⟨rfl, hb3⟩
        have HY : Hid ((ms.take (k + 1)).all (Gate.specAt ss) = true ∧ Below w.heap.size w w3) := ⟨by rw [HTK.out]; exact hh, HB.out.trans (hb3.mono HB.out.size)⟩
        clear h hb3 hh c0 c1 c2 c3 c4 c5
        go_wp2_with fail
        exact ⟨⟨k + 1, by omega, by go_num, HY.out.1, HY.out.2⟩, step_less' hlt⟩
    · have e : k = ms.length := by omega
      have hall := HA.out
      rw [e, List.take_of_length_le (Nat.le_refl _)] at hall
      have HALL := hid hall
      subst e
      clear hall HA
      go_wp2_with fail
      have HBw := hid HB.out
      clear HB
      go_loopw [6] (fun iv wq => ∃ k : Nat, k ≤ ss.length ∧ iv = .int .i64 k ∧ (ss.take k).all (Gate.rowOkS ms) = true ∧ Below w.heap.size w wq) (fun iv _ => ss.length - (intOf iv).toNat)
      case atStart => exact ⟨0, Nat.zero_le _, rfl, rfl, HBw.out⟩
      case round =>
        obtain ⟨k, hk, rfl, hall, hB⟩ := hrel
        have HB := hid hB
        have HA := hid hall
        clear hall hB
        by_cases hlt : k < ss.length
        · obtain ⟨b, off, rfl, hb, hr⟩ := HW.out.1.rows (by rintro rfl; simp at hlt)
          obtain ⟨fa, fcap, hs0⟩ := hr k hlt
          have HSI : Hid (∀ W, Below w.heap.size w W → ShpIn W b (off + k * 2) ss[k] fa fcap) := fun W hbb => hs0.mono hb hbb
          have hck := (HSI.out _ HB.out).kind
          have hcl := (HSI.out _ HB.out).list
          have hltI : (k : Int) < (ss.length : Int) := by omega
          have HTK : Hid ((ss.take (k + 1)).all (Gate.rowOkS ms) = Gate.rowOkS ms ss[k]) := by
            unfold Hid; rw [List.take_succ_eq_append_getElem hlt, List.all_append, HA.out]; simp
          have HNO : Hid (Gate.rowOkS ms ss[k] = false → Gate.mendsOkS ss ms = false) := by
            intro h
            have : ss.all (Gate.rowOkS ms) = false := by rw [List.all_eq_false]; exact ⟨_, List.getElem_mem hlt, by rw [h]; simp⟩
            unfold Gate.mendsOkS; rw [this]; simp
          have HFW := hid (Gate.fields_few HOK.out k hlt)
          clear hr hs0
          go_wp2_with fail
          have hbc := HB.out.drew
          have hL := (⟨(HSI.out _ hbc).kind, (HSI.out _ hbc).list⟩ : _ ∧ _)
          go_region_held3 (fun w' => w'.cell? ⟨b, off + k * 2, none⟩ = some (.string ss[k].kd) ∧ w'.cell? ⟨b, off + k * 2 + 1, none⟩ = some (.slice fa ss[k].fs.length fcap)) (exact hL) (first
            | (go_at_call 27; refine (l3Row_any fa a' fcap cap' ss[k] ms _ (by exact (HSI.out _ hbc).flds) (by exact HW.out.2.mono hbc) h12 HFW.out).mono ?_; rintro e w5 ⟨v5, rfl, hrow, hb5⟩; obtain ⟨ra, rcap, rfl⟩ := ownsRow_slice hrow; have hbc := hbc.trans (hb5.mono hbc.size); have hL := (⟨(HSI.out _ hbc).kind, (HSI.out _ hbc).list⟩ : _ ∧ _); clear hb5 hrow))
          by_cases hrk : (Gate.greedyN ss[k] ms ss[k].fs.length).length = ss[k].fs.length
          · have hrI : (((Gate.greedyN ss[k] ms ss[k].fs.length).length : Int) != (ss[k].fs.length : Int)) = false := by rw [hrk]; simp
            have HY : Hid ((ss.take (k + 1)).all (Gate.rowOkS ms) = true) := by unfold Hid; rw [HTK.out]; unfold Gate.rowOkS; exact decide_eq_true hrk
            clear hrk
            go_wp2_with fail
            exact ⟨⟨k + 1, by omega, by go_num, HY.out, hbc⟩, step_less' hlt⟩
          · have hrI : (((Gate.greedyN ss[k] ms ss[k].fs.length).length : Int) != (ss[k].fs.length : Int)) = true := by rw [bne_iff_ne]; omega
            have HF : Hid (Gate.mendsOkS ss ms = false) := HNO.out (by unfold Gate.rowOkS; exact decide_eq_false hrk)
            clear hrk
            go_wp2_with fail
            go_ret
            exact ⟨by rw [HF.out]; rfl, hbc⟩
        · have e : k = ss.length := by omega
          have hall := HA.out
          rw [e, List.take_of_length_le (Nat.le_refl _)] at hall
          have HF : Hid (Gate.mendsOkS ss ms = true) := by unfold Hid Gate.mendsOkS; rw [HALL.out, HOK.out, hall, decide_eq_true h12]; rfl
          subst e
          clear hall HA
          go_wp2_with fail
          go_ret
          exact ⟨by rw [HF.out]; rfl, HB.out⟩

end Go.Proofs.YtliggnanlfbkiaaGreat

namespace Go.Proofs.YtliggnanlfbkiaaGreat.Gate

theorem has_iff (ws : List ByteArray) (v : ByteArray) : has ws v = true ↔ v ∈ ws := by
  unfold has
  rw [List.any_eq_true]
  constructor
  · rintro ⟨x, hx, he⟩
    have : x = v := by simpa using he
    rw [← this]; exact hx
  · intro h; exact ⟨v, h, by simp⟩

theorem field_at {ss : List Shp} (h : shapesOk ss = true) (i : Nat) (hi : i < ss.length) (j : Nat) (hj : j < ss[i].fs.length) : okAt ss ss[i].fs j = true := by
  have h1 := shapes_at h i hi
  unfold shapeAt at h1
  rw [getD_at ss i _ hi] at h1
  simp only [Bool.and_eq_true] at h1
  have h2 := h1.2
  unfold fieldsOk at h2
  simp only [Bool.and_eq_true] at h2
  exact up_at hj h2.2

theorem field_named {ss : List Shp} (h : shapesOk ss = true) (i : Nat) (hi : i < ss.length) (j : Nat) (hj : j < ss[i].fs.length) : isSet ss[i].fs[j].nm = true := by
  have h1 := field_at h i hi j hj
  rw [okAt_eq _ _ _ hj] at h1
  simp only [Bool.and_eq_true] at h1
  have h2 := h1.1.1
  rw [isSet_iff]
  intro e
  rw [e] at h2
  revert h2
  decide

theorem names_apart {ss : List Shp} (h : shapesOk ss = true) (i : Nat) (hi : i < ss.length) (j k : Nat) (hj : j < k) (hk : k < ss[i].fs.length) : (ss[i].fs[j]'(by omega)).nm ≠ ss[i].fs[k].nm := by
  have h1 := field_at h i hi k hk
  rw [okAt_eq _ _ _ hk] at h1
  simp only [Bool.and_eq_true, Bool.not_eq_true'] at h1
  have h2 := h1.1.2
  intro e
  unfold hasName at h2
  rw [List.any_eq_false] at h2
  have hm : ss[i].fs[j]'(by omega) ∈ ss[i].fs.take k := by
    rw [List.mem_iff_getElem]
    exact ⟨j, by simp; omega, by simp⟩
  exact h2 _ hm (by simpa using e)

theorem nmAt_inj {ss : List Shp} (h : shapesOk ss = true) (i : Nat) (hi : i < ss.length) (j k : Nat) (hj : j < ss[i].fs.length) (hk : k < ss[i].fs.length) (e : nmAt ss[i] j = nmAt ss[i] k) : j = k := by
  unfold nmAt at e
  rw [getD_at _ _ _ hj, getD_at _ _ _ hk] at e
  rcases Nat.lt_trichotomy j k with h1 | h1 | h1
  · exact absurd e (names_apart h i hi j k h1 hk)
  · exact h1
  · exact absurd e.symm (names_apart h i hi k j h1 hj)

theorem mend_spec {ss : List Shp} (h : shapesOk ss = true) (m : Mnd) : mendAt ss m = specAt ss m := by
  unfold mendAt specAt
  by_cases hk : hasKind ss m.kd = true
  · rw [hk, Bool.true_and, Bool.true_and]
    unfold hasKind at hk
    rw [List.any_eq_true] at hk
    obtain ⟨x, hx, he⟩ := hk
    obtain ⟨i, hi, rfl⟩ := List.mem_iff_getElem.1 hx
    have hkd : ss[i].kd = m.kd := by simpa using he
    rw [← hkd, shapeOf_self h i hi]
    unfold mendOk specOk
    by_cases hp : plain ss[i].fs m.fd = true
    · have hfd : isSet m.fd = true := by
        rcases field_cases ss[i].fs m.fd with ⟨_, h2⟩ | ⟨k, hk', _, h2, _⟩
        · rw [plain_none h2] at hp; cases hp
        · rw [← h2]; exact field_named h i hi k hk'
      have hne : ∀ v, isSet v = false → v ≠ m.fd := fun v hv e => by rw [e, hfd] at hv; cases hv
      rw [hp, Bool.true_and, Bool.true_and]
      have e : (readNames m).all (nameFits ss[i].fs m) = ((!isSet m.wh || plain ss[i].fs m.wh) && (!isSet m.fr || plain ss[i].fs m.fr) && !decide (m.wh = m.fd) && !decide (m.fr = m.fd)) := by
        unfold readNames
        rw [List.all_filter]
        unfold nameFits
        rcases hw : isSet m.wh with _ | _ <;> rcases hf : isSet m.fr with _ | _
        · simp [hw, hf, hne _ hw, hne _ hf]
        · simp [hw, hf, hne _ hw]
          cases plain ss[i].fs m.fr <;> simp
        · simp [hw, hf, hne _ hf]
          cases plain ss[i].fs m.wh <;> simp
        · simp [hw, hf]
          cases plain ss[i].fs m.wh <;> cases plain ss[i].fs m.fr <;> simp
      rw [e]
    · have hpf : plain ss[i].fs m.fd = false := by simpa using hp
      rw [hpf]; simp
  · have hkf : hasKind ss m.kd = false := by simpa using hk
    rw [hkf]; rfl

theorem ready_same {ss : List Shp} {ms : List Mnd} (h : shapesOk ss = true) (hm : ms.all (mendAt ss) = true) (i : Nat) (hi : i < ss.length) (row : List Nat) (hrow : ∀ q ∈ row, q < ss[i].fs.length) (j : Nat) (hj : j < ss[i].fs.length) :
    readyName ss[i] ms (row.map (nmAt ss[i])) j = ready (readsN ss[i] ms) row j := by
  have hmem : ∀ q, q < ss[i].fs.length → (has (row.map (nmAt ss[i])) (nmAt ss[i] q) = true ↔ q ∈ row) := by
    intro q hq
    rw [has_iff, List.mem_map]
    constructor
    · rintro ⟨p, hp, e⟩
      rw [← nmAt_inj h i hi p q (hrow p hp) hq e]; exact hp
    · intro hp; exact ⟨q, hp, rfl⟩
  rw [Bool.eq_iff_iff, ready_iff]
  unfold readyName
  rw [Bool.and_eq_true, Bool.not_eq_true', ← Bool.not_eq_true, hmem j hj]
  refine and_congr Iff.rfl ?_
  unfold readyN
  rw [List.all_eq_true]
  -- what a mend that turns j reads
  have hread : ∀ m ∈ ms, turns m ss[i] j = true → ∀ v ∈ readNames m, ∃ q, q < ss[i].fs.length ∧ fieldIx ss[i].fs v = (q : Int) ∧ nmAt ss[i] q = v := by
    intro m hmm ht v hv
    unfold turns at ht
    simp only [Bool.and_eq_true, decide_eq_true_eq] at ht
    have h1 := List.all_eq_true.1 hm m hmm
    unfold mendAt at h1
    rw [ht.1, shapeOf_self h i hi] at h1
    simp only [Bool.and_eq_true] at h1
    have h2 := h1.2
    unfold mendOk at h2
    simp only [Bool.and_eq_true] at h2
    have h3 := List.all_eq_true.1 h2.1.2 v hv
    unfold nameFits at h3
    simp only [Bool.and_eq_true] at h3
    rcases field_cases ss[i].fs v with ⟨_, h5⟩ | ⟨k, hk, h4, h5, _⟩
    · rw [plain_none h5] at h3; exact absurd h3.2 (by simp)
    · exact ⟨k, hk, h4, by unfold nmAt; rw [getD_at _ _ _ hk]; exact h5⟩
  have hR : ∀ m, mendReady ss[i].kd (nmAt ss[i] j) (row.map (nmAt ss[i])) m = true ↔ (turns m ss[i] j = true → ∀ v ∈ readNames m, has (row.map (nmAt ss[i])) v = true) := by
    intro m
    have e1 : turns m ss[i] j = (decide (m.kd = ss[i].kd) && decide (m.fd = nmAt ss[i] j)) := rfl
    unfold mendReady
    rw [← e1]
    rcases turns m ss[i] j with _ | _
    · simp
    · unfold readNames
      rcases hw : isSet m.wh with _ | _ <;> rcases hf : isSet m.fr with _ | _ <;> simp [hw, hf]
  constructor
  · intro hall q hq
    unfold readsN at hq
    obtain ⟨x, hx, rfl⟩ := List.mem_map.1 hq
    unfold readsI at hx
    obtain ⟨m, hmm, hx⟩ := List.mem_flatMap.1 hx
    by_cases ht : turns m ss[i] j = true
    · rw [if_pos ht] at hx
      obtain ⟨v, hv, rfl⟩ := List.mem_map.1 hx
      obtain ⟨q, hq, e1, e2⟩ := hread m hmm ht v hv
      have := (hR m).1 (hall m hmm) ht v hv
      rw [e1, Int.toNat_natCast]
      rw [← e2] at this
      exact (hmem q hq).1 this
    · rw [if_neg ht] at hx; cases hx
  · intro hall m hmm
    rw [hR]
    intro ht v hv
    obtain ⟨q, hq, e1, e2⟩ := hread m hmm ht v hv
    rw [← e2, hmem q hq]
    refine hall q ?_
    unfold readsN
    rw [List.mem_map]
    refine ⟨(q : Int), ?_, Int.toNat_natCast _⟩
    unfold readsI
    rw [List.mem_flatMap]
    refine ⟨m, hmm, ?_⟩
    rw [if_pos ht, List.mem_map]
    exact ⟨v, hv, e1⟩

theorem find_congr {α : Type} {f g : α → Bool} : ∀ {l : List α}, (∀ x ∈ l, f x = g x) → l.find? f = l.find? g
  | [], _ => rfl
  | a :: l, h => by
    have h1 := h a (by simp)
    have h2 := find_congr (f := f) (g := g) (l := l) (fun x hx => h x (by simp [hx]))
    rw [List.find?_cons, List.find?_cons, h1, h2]

theorem greedy_names {ss : List Shp} {ms : List Mnd} (h : shapesOk ss = true) (hm : ms.all (mendAt ss) = true) (i : Nat) (hi : i < ss.length) : ∀ k, greedyN ss[i] ms k = (greedy (readsN ss[i] ms) ss[i].fs.length k).map (nmAt ss[i])
  | 0 => rfl
  | k + 1 => by
    show moreN ss[i] ms (greedyN ss[i] ms k) = (more (readsN ss[i] ms) ss[i].fs.length (greedy (readsN ss[i] ms) ss[i].fs.length k)).map (nmAt ss[i])
    rw [greedy_names h hm i hi k]
    have hpart := greedy_part (readsN ss[i] ms) ss[i].fs.length k
    have e : (List.range ss[i].fs.length).find? (readyName ss[i] ms ((greedy (readsN ss[i] ms) ss[i].fs.length k).map (nmAt ss[i]))) = pick (readsN ss[i] ms) ss[i].fs.length (greedy (readsN ss[i] ms) ss[i].fs.length k) := by
      unfold pick
      apply find_congr
      intro x hx
      exact ready_same h hm i hi _ hpart.mem x (List.mem_range.1 hx)
    unfold moreN more
    rw [e]
    cases pick (readsN ss[i] ms) ss[i].fs.length (greedy (readsN ss[i] ms) ss[i].fs.length k) with
    | none => rfl
    | some q => simp

theorem row_same {ss : List Shp} {ms : List Mnd} (h : shapesOk ss = true) (hm : ms.all (mendAt ss) = true) (i : Nat) (hi : i < ss.length) : rowOk ms ss[i] = rowOkS ms ss[i] := by
  unfold rowOk rowOkS
  rw [greedy_names h hm i hi, List.length_map]
  refine walk_iff_greedy (fun p hp q hq => ?_)
  unfold readsN at hq
  obtain ⟨x, hx, rfl⟩ := List.mem_map.1 hq
  have := reads_ok h hm i hi p hp x hx
  omega

theorem mendsOk_same (ss : List Shp) (ms : List Mnd) : mendsOk ss ms = mendsOkS ss ms := by
  unfold mendsOk mendsOkS
  by_cases h : shapesOk ss = true
  · have e1 : ms.all (specAt ss) = ms.all (mendAt ss) := by congr 1; funext m; exact (mend_spec h m).symm
    rw [e1, h]
    by_cases hm : ms.all (mendAt ss) = true
    · have e2 : ss.all (rowOk ms) = ss.all (rowOkS ms) := by
        rw [Bool.eq_iff_iff, List.all_eq_true, List.all_eq_true]
        constructor
        · intro ha x hx
          obtain ⟨i, hi, rfl⟩ := List.mem_iff_getElem.1 hx
          rw [← row_same h hm i hi]; exact ha _ hx
        · intro ha x hx
          obtain ⟨i, hi, rfl⟩ := List.mem_iff_getElem.1 hx
          rw [row_same h hm i hi]; exact ha _ hx
      rw [e2]; cases decide (ms.length ≤ 12) <;> simp
    · have hmf : ms.all (mendAt ss) = false := by simpa using hm
      rw [hmf]; simp
  · have hf : shapesOk ss = false := by simpa using h
    rw [hf]; simp

end Go.Proofs.YtliggnanlfbkiaaGreat.Gate
