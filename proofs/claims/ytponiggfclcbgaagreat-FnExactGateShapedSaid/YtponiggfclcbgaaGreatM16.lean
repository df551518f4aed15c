import Derived.Test.YtponiggfclcbgaaGreatM14
import Derived.Test.YtponiggfclcbgaaGreatM15
import Derived.Test.YtponiggfclcbgaaGreatM05
import Derived.Deep.QuietTactic
import Derived.BigQuiet
import Derived.Test.YtponiggfclcbgaaGreatM06
namespace Go.Proofs.YtponiggfclcbgaaGreat
open Go.RowKit

set_option maxHeartbeats 2000000 in
theorem specField_other (a0 : Option Addr) (cap0 : Nat) (ss : List Shp) (nm : ByteArray) (kd ls ms : Int) (a : Option Addr) (cap : Nat) (ws : List ByteArray) (to : ByteArray) (rl : Int) (mu fx : Bool) (df wg : ByteArray) (w : World) (hnm : nm.size ≤ maxLen) (hdf : df.size ≤ maxLen) (hws : StrsAt w a ws) (h1 : kd ≠ 1) (h2 : kd ≠ 2) (h3 : kd ≠ 3) (h4 : kd ≠ 4) :
    Calls Tryz.prog 91 #[.slice a0 ss.length cap0, .agg #[.string nm, .int .i64 kd, .int .i64 ls, .int .i64 ms, .slice a ws.length cap, .string to, .int .i64 rl, .bool mu, .bool fx, .string df, .string wg]] w
      fun e w' => e = .returned (.bool (Gate.nameOk nm && Gate.fieldOk ss ⟨nm, kd, ls, ms, ws, to, rl, mu, fx, df, wg⟩)) ∧ Below w.heap.size w w' := by
  have HO : Hid ((Gate.nameOk nm && Gate.fieldOk ss ⟨nm, kd, ls, ms, ws, to, rl, mu, fx, df, wg⟩) = false) := by simp [Hid, Gate.fieldOk, Gate.bare, Gate.bareOf, h1, h2, h3, h4]
  generalize (Gate.nameOk nm && Gate.fieldOk ss ⟨nm, kd, ls, ms, ws, to, rl, mu, fx, df, wg⟩) = res at HO
  have HFit : Hid (Gate.fits kd ls ms ws df = false) := Gate.fits_other kd ls ms ws df h1 h2 h3 h4
  have HH : Hid (kd ≠ 1 ∧ kd ≠ 2 ∧ kd ≠ 3 ∧ kd ≠ 4) := ⟨h1, h2, h3, h4⟩
  have e1 : (kd == 1) = false := by simpa using h1
  have e2 : (kd == 2) = false := by simpa using h2
  have e3 : (kd == 3) = false := by simpa using h3
  have e4 : (kd == 4) = false := by simpa using h4
  clear h1 h2 h3 h4
  by_cases hn : Gate.nameOk nm = true
  rotate_left
  · have HNm : Hid (Gate.nameOk nm = false) := by simpa [Hid] using hn
    clear hn
    go_enter Tryz.func91, Tryz.ntmps91
    go_wp2_with fail
    refine (as_bool HNm.out (l1NameOk_any _ _ hnm)).mono ?_
    rintro e w1 ⟨rfl, rfl⟩
    go_wp2_with fail
    go_ret
    exact ⟨ret_bool HO.out.symm, (Below.refl _ _).alloc (Nat.le_refl _) _⟩
  have HNm : Hid (Gate.nameOk nm = true) := hn
  clear hn
  by_cases hd : df.toList.isEmpty = true
  all_goals
    first
      | (have hd1 : df.toList.isEmpty = true := hd)
      | (have hd1 : df.toList.isEmpty = false := by simpa using hd)
    clear hd
    go_enter Tryz.func91, Tryz.ntmps91
    go_wp2_with fail
    refine (as_bool HNm.out (l1NameOk_any _ _ hnm)).mono ?_
    rintro e w1 ⟨rfl, rfl⟩
    go_wp2_with fail
    refine (specBare_other _ _ _ _ _ _ _ _ _ _ _ _ _ _ HH.out.1 HH.out.2.1 HH.out.2.2.1 HH.out.2.2.2).mono ?_
    rintro e w2 ⟨bb, rfl, hb2⟩
    have hX2 := box_later (box_new w _ _) (by simp) hb2
    have hz2 : w.heap.size < w2.heap.size := by have := hb2.size; simp at this; omega
    have hB2 : Below w.heap.size w w2 := ((Below.refl _ _).alloc (Nat.le_refl _) _).trans (hb2.mono (by simp))
    clear hb2
    cases bb
    · go_wp2_with fail
      go_ret
      exact ⟨ret_bool HO.out.symm, hB2⟩
  · go_wp2_with fail
    go_ret
    exact ⟨ret_bool HO.out.symm, hB2⟩
  · go_wp2_with fail
    refine (as_bool HFit.out (specFits_any _ _ _ _ _ _ _ _ _ _ _ _ _ _ _ hdf (hws.mono hB2))).mono ?_
    rintro e w3 ⟨rfl, hb3⟩
    have hB3 : Below w.heap.size w w3 := hB2.trans (hb3.mono (by omega))
    go_wp2_with fail
    go_ret
    exact ⟨ret_bool HO.out.symm, hB3⟩

theorem specField_any (a0 : Option Addr) (cap0 : Nat) (ss : List Shp) (nm : ByteArray) (kd ls ms : Int) (a : Option Addr) (cap : Nat) (ws : List ByteArray) (to : ByteArray) (rl : Int) (mu fx : Bool) (df wg : ByteArray) (w : World) (hnm : nm.size ≤ maxLen) (hdf : df.size ≤ maxLen) (hwg : wg.size ≤ maxLen) (hws : StrsAt w a ws) (hss : ShpsAt w a0 ss) :
    Calls Tryz.prog 91 #[.slice a0 ss.length cap0, .agg #[.string nm, .int .i64 kd, .int .i64 ls, .int .i64 ms, .slice a ws.length cap, .string to, .int .i64 rl, .bool mu, .bool fx, .string df, .string wg]] w
      fun e w' => e = .returned (.bool (Gate.nameOk nm && Gate.fieldOk ss ⟨nm, kd, ls, ms, ws, to, rl, mu, fx, df, wg⟩)) ∧ Below w.heap.size w w' := by
  by_cases h1 : kd = 1
  · subst h1; exact specField_1 a0 cap0 ss nm ls ms a cap ws to rl mu fx df wg w hnm hdf hwg hws
  by_cases h2 : kd = 2
  · subst h2; exact specField_2 a0 cap0 ss nm ls ms a cap ws to rl mu fx df wg w hnm hdf hws
  by_cases h3 : kd = 3
  · subst h3; exact specField_3 a0 cap0 ss nm ls ms a cap ws to rl mu fx df wg w hnm hdf hws
  by_cases h4 : kd = 4
  · subst h4; exact specField_4 a0 cap0 ss nm ls ms a cap ws to rl mu fx df wg w hnm hdf hws hss
  exact specField_other a0 cap0 ss nm kd ls ms a cap ws to rl mu fx df wg w hnm hdf hws h1 h2 h3 h4

end Go.Proofs.YtponiggfclcbgaaGreat

namespace Go.Proofs.YtponiggfclcbgaaGreat
open Go.RowKit

set_option maxHeartbeats 4000000 in
theorem specShapesOk_any (a : Option Addr) (cap : Nat) (ss : List Shp) (w : World) (hw : ShpsAt w a ss) :
    Calls Tryz.prog 61 #[.slice a ss.length cap] w fun e w' => e = .returned (.bool (Gate.shapesOk ss)) ∧ Below w.heap.size w w' := by
  have hl := hw.len
  unfold maxLen at hl
  by_cases h6 : ss.length ≤ 6
  rotate_left
  · have HF : Hid (Gate.shapesOk ss = false) := by simp [Hid, Gate.shapesOk, h6]
    clear hw
    go_enter Tryz.func61, Tryz.ntmps61
    go_wp2
    go_ret
    exact ⟨ret_bool HF.out.symm, Below.refl _ _⟩
  have HG : Hid (Gate.shapesOk ss = Gate.up (Gate.shapeAt ss) ss.length) := by simp [Hid, Gate.shapesOk, h6]
  have h6I : (ss.length : Int) ≤ 6 := by omega
  go_enter Tryz.func61, Tryz.ntmps61
  go_wp2_with fail
  go_loopw [3] (fun i wr => ∃ k : Nat, k ≤ ss.length ∧ i = .int .i64 k ∧ Gate.up (Gate.shapeAt ss) k = true ∧ Below w.heap.size w wr) (fun i _ => ss.length - (intOf i).toNat)
  case atStart => exact ⟨0, Nat.zero_le _, rfl, rfl, Below.refl _ _⟩
  case round =>
    obtain ⟨k, hk, rfl, hup, hB⟩ := hrel
    obtain ⟨W0, rfl⟩ : ∃ W0, W0 = wr := ⟨wr, rfl⟩
    have hsz := hB.size
    by_cases hlt : k < ss.length
    · obtain ⟨b, off, rfl, hb, hrw⟩ := hw.rows (by rintro rfl; simp at hlt)
      have hbr : b < W0.heap.size := by omega
      have hall : ShpsAt W0 (some ⟨b, off, none⟩) ss := hw.mono hB
      obtain ⟨fa, fcap, hs⟩ := hrw k hlt
      have hs' := hs.mono hb hB
      have hck := hs'.kind
      have hcl := hs'.list
      have hfl := hs'.flds
      have hsm := hs.small
      have HS : Hid (Gate.shapeAt ss k = true → Gate.up (Gate.shapeAt ss) (k + 1) = true) := fun h => by rw [Gate.up_succ, hup, h]; rfl
      have HN : Hid (Gate.shapeAt ss k = false → Gate.shapesOk ss = false) := fun h => by rw [HG.out]; exact Gate.up_not hlt h
      have hltI : (k : Int) < (ss.length : Int) := by omega
      by_cases hn : Gate.nameOk ss[k].kd = true
      rotate_left
      · have HNm : Hid (Gate.nameOk ss[k].kd = false) := by simpa [Hid] using hn
        have HF : Hid (Gate.shapeAt ss k = false) := by
          unfold Hid Gate.shapeAt; rw [Gate.getD_at ss k _ hlt, HNm.out]; rfl
        clear hn hup hw hrw hs hs'
        go_wp2_with fail
        go_quiet ((go_at_call 90; exact Calls.quiet_of_same (as_bool HNm.out (l1NameOk_any _ _ hsm))))
        go_wp2_with fail
        go_ret
        exact ⟨ret_bool (HN.out HF.out).symm, below_drewN (hB.alloc hsz _) _⟩
      have HNm : Hid (Gate.nameOk ss[k].kd = true) := hn
      clear hn
      have hcl6 := hfl.len
      unfold maxLen at hcl6
      by_cases hbad : 0 < k ∧ Gate.less (ss.getD (k - 1) Gate.noShape).kd ss[k].kd = false
      · obtain ⟨hkpos, hls⟩ := hbad
        rw [Gate.getD_at ss (k - 1) _ (by omega)] at hls
        obtain ⟨fam, fcapm, hsm0⟩ := hrw (k - 1) (by omega)
        have hcm := (hsm0.mono hb hB).kind
        have hls' : Op.bytesLess ss[k - 1].kd.toList ss[k].kd.toList = false := hls
        have hg : decide (0 < k) = true := by simp; omega
        have hk1 : (0 : Int) ≤ (k : Int) - 1 := by omega
        have hk2 : (k : Int) - 1 < (ss.length : Int) := by omega
        have HF : Hid (Gate.shapeAt ss k = false) := by
          unfold Hid Gate.shapeAt; rw [Gate.getD_at ss k _ hlt, Gate.getD_at ss (k - 1) _ (by omega), hls, decide_eq_false (show ¬ k = 0 by omega)]; simp
        clear hup hw hrw hs hs' hls hsm0
        go_wp2_with fail
        go_quiet ((go_at_call 90; exact Calls.quiet_of_same (as_bool HNm.out (l1NameOk_any _ _ hsm))))
        go_wp2_with fail
        go_ret
        exact ⟨ret_bool (HN.out HF.out).symm, below_drewN (hB.alloc hsz _) _⟩
      have hgood : (decide (0 < k) = false ∧ Gate.shapeAt ss k = Gate.fieldsOk ss ss[k].fs) ∨ (decide (0 < k) = true ∧ Gate.shapeAt ss k = Gate.fieldsOk ss ss[k].fs ∧ (0 : Int) ≤ (k : Int) - 1 ∧ (k : Int) - 1 < (ss.length : Int) ∧ ∃ h : k - 1 < ss.length, Op.bytesLess ss[k - 1].kd.toList ss[k].kd.toList = true ∧ W0.cell? ⟨b, off + (k - 1) * 2, none⟩ = some (.string ss[k - 1].kd)) := by
        by_cases hk0 : k = 0
        · refine Or.inl ⟨by simp; omega, ?_⟩
          subst hk0; rw [Gate.shapeAt_first ss hlt, HNm.out]; rfl
        · obtain ⟨fam, fcapm, hsm0⟩ := hrw (k - 1) (by omega)
          have hls : Gate.less ss[k - 1].kd ss[k].kd = true := by
            rw [Gate.getD_at ss (k - 1) _ (by omega)] at hbad
            cases h : Gate.less ss[k - 1].kd ss[k].kd with
            | true => rfl
            | false => exact absurd ⟨by omega, h⟩ hbad
          refine Or.inr ⟨by simp; omega, ?_, by omega, by omega, by omega, hls, (hsm0.mono hb hB).kind⟩
          unfold Gate.shapeAt; rw [Gate.getD_at ss k _ hlt, Gate.getD_at ss (k - 1) _ (by omega), hls, HNm.out]; simp
      clear hup hw hrw hs hs' hbad
      rcases hgood with ⟨hg, hAA⟩ | ⟨hg, hAA, hk1, hk2, hkm, hls', hcm⟩
      all_goals
        have HA : Hid (Gate.shapeAt ss k = Gate.fieldsOk ss ss[k].fs) := hAA
        clear hAA
        by_cases h6f : ss[k].fs.length ≤ 6
        rotate_left
        · have HF : Hid (Gate.shapeAt ss k = false) := by rw [HA.out]; simp [Hid, Gate.fieldsOk, h6f]
          have h6fI : (6 : Int) < (ss[k].fs.length : Int) := by omega
          go_wp2_with fail
          go_quiet ((go_at_call 90; exact Calls.quiet_of_same (as_bool HNm.out (l1NameOk_any _ _ hsm))))
          go_wp2_with fail
          go_ret
          exact ⟨ret_bool (HN.out HF.out).symm, below_drewN (hB.alloc hsz _) _⟩
        have h6fI : (ss[k].fs.length : Int) ≤ 6 := by omega
        have HFG : Hid (Gate.fieldsOk ss ss[k].fs = Gate.up (Gate.okAt ss ss[k].fs) ss[k].fs.length) := by simp [Hid, Gate.fieldsOk, h6f]
        go_wp2_with fail
        go_quiet ((go_at_call 90; exact Calls.quiet_of_same (as_bool HNm.out (l1NameOk_any _ _ hsm))))
        go_wp2_with fail
        go_loopw [5] (fun i wr2 => ∃ k2 : Nat, k2 ≤ ss[k].fs.length ∧ i = .int .i64 k2 ∧ Gate.up (Gate.okAt ss ss[k].fs) k2 = true ∧ Below (W0.heap.size + 1) (W0.alloc (.cells #[.string ss[k].kd, .slice fa ss[k].fs.length fcap] 69)) wr2) (fun i _ => ss[k].fs.length - (intOf i).toNat)
        case atStart => exact ⟨0, Nat.zero_le _, rfl, rfl, below_drewN (Below.refl _ _) _⟩
        case round =>
          obtain ⟨k2, hk2', rfl, hup2, hBl⟩ := hrel
          obtain ⟨W2, rfl⟩ : ∃ W2, W2 = wr := ⟨wr, rfl⟩
          have hsz2 : W0.heap.size < W2.heap.size := by have := hBl.size; simp at this; omega
          have hB02 : Below W0.heap.size W0 W2 := ((Below.refl _ _).alloc (Nat.le_refl _) _).trans (hBl.mono (by omega))
          have hB2 : Below w.heap.size w W2 := hB.trans (hB02.mono hsz)
          have hY1 : W2.cell? ⟨W0.heap.size, 1, none⟩ = some (.slice fa ss[k].fs.length fcap) := (hBl.cell (p := ⟨W0.heap.size, 1, none⟩) (by simp)).trans (by rw [World.cell?_alloc_at _ _ _ _ rfl]; rfl)
          by_cases hlt2 : k2 < ss[k].fs.length
          · obtain ⟨fb, foff, rfl, hfb, hfr⟩ := hfl.rows (by intro h; rw [h] at hlt2; simp at hlt2)
            obtain ⟨wa, wcap, hf0⟩ := hfr k2 hlt2
            have hf := hf0.mono hfb hB02
            obtain ⟨c0, c1, c2, c3, c4, c5, c6, c7, c8, c9, c10⟩ := hf.load
            have hsmf := hf.small
            have hstf := hf.strs
            have hall2 : ShpsAt W2 (some ⟨b, off, none⟩) ss := hall.mono hB02
            have HO : Hid (Gate.okAt ss ss[k].fs k2 = (Gate.nameOk ss[k].fs[k2].nm && !Gate.hasName (ss[k].fs.take k2) ss[k].fs[k2].nm && Gate.fieldOk ss ss[k].fs[k2])) := Gate.okAt_eq ss ss[k].fs k2 hlt2
            have HS2 : Hid (Gate.okAt ss ss[k].fs k2 = true → Gate.up (Gate.okAt ss ss[k].fs) (k2 + 1) = true) := fun h => by rw [Gate.up_succ, hup2, h]; rfl
            have HN2 : Hid (Gate.okAt ss ss[k].fs k2 = false → Gate.shapesOk ss = false) := fun h => HN.out (by rw [HA.out, HFG.out]; exact Gate.up_not hlt2 h)
            have hltI2 : (k2 : Int) < (ss[k].fs.length : Int) := by omega
            by_cases hfo : (Gate.nameOk ss[k].fs[k2].nm && Gate.fieldOk ss ss[k].fs[k2]) = true
            · have HFO : Hid ((Gate.nameOk ss[k].fs[k2].nm && Gate.fieldOk ss ss[k].fs[k2]) = true) := hfo
              clear hfo hup2
              go_wp2_with fail
              refine (as_bool HFO.out (specField_any _ _ _ _ _ _ _ _ _ _ _ _ _ _ _ _ _ hsmf.nm hsmf.df hsmf.wg hstf hall2)).mono ?_
              rintro e W3 ⟨rfl, hb3⟩
              go_wp2_with fail
              have hB23 : Below W0.heap.size W0 W3 := hB02.trans (hb3.mono (by omega))
              have hB3 : Below w.heap.size w W3 := hB2.trans (hb3.mono (by omega))
              have hY3 : W3.cell? ⟨W0.heap.size, 1, none⟩ = some (.slice (some ⟨fb, foff, none⟩) ss[k].fs.length fcap) := (hb3.cell (p := ⟨W0.heap.size, 1, none⟩) hsz2).trans hY1
              have hsz3 : W0.heap.size < W3.heap.size := by have := hb3.size; omega
              have hnames : ∀ i (h : i < ss[k].fs.length), W3.cell? ⟨fb, foff + i * 11, none⟩ = some (.string ss[k].fs[i].nm) := fun i h => by
                obtain ⟨wa', wcap', hfi⟩ := hfr i h
                exact (hfi.mono hfb hB23).load.1
              have hBl3 : Below (W0.heap.size + 1) (W0.alloc (.cells #[.string ss[k].kd, .slice (some ⟨fb, foff, none⟩) ss[k].fs.length fcap] 69)) W3 := hBl.trans (hb3.mono (by omega))
              clear hY1 c0 c1 c2 c3 c4 c5 c6 c7 c8 c9 c10 hb3 hf hf0 hfr hstf hall2
              go_loopw [6] (fun i wr3 => ∃ j : Nat, j ≤ k2 ∧ i = .int .i64 j ∧ Gate.hasName (ss[k].fs.take j) ss[k].fs[k2].nm = false ∧ ∃ n, wr3 = W3.drewN n) (fun i _ => k2 - (intOf i).toNat)
              case atStart => exact ⟨0, Nat.zero_le _, rfl, rfl, 0, rfl⟩
              case round =>
                obtain ⟨jj, hjj, rfl, hno, hwr3⟩ := hrel
                have HW : Hid (∃ n, wr = W3.drewN n) := hwr3
                have hY4 : wr.cell? ⟨W0.heap.size, 1, none⟩ = some (.slice (some ⟨fb, foff, none⟩) ss[k].fs.length fcap) := by obtain ⟨n, rfl⟩ := hwr3; exact hY3
                have hck2 : wr.cell? ⟨fb, foff + k2 * 11, none⟩ = some (.string ss[k].fs[k2].nm) := by obtain ⟨n, rfl⟩ := hwr3; exact hnames k2 hlt2
                by_cases hltj : jj < k2
                · have hjl : jj < ss[k].fs.length := by omega
                  have hcj : wr.cell? ⟨fb, foff + jj * 11, none⟩ = some (.string ss[k].fs[jj].nm) := by obtain ⟨n, rfl⟩ := hwr3; exact hnames jj hjl
                  have hjI : (jj : Int) < (ss[k].fs.length : Int) := by omega
                  have hjK : (jj : Int) < (k2 : Int) := by omega
                  clear hwr3
                  by_cases he : ss[k].fs[jj].nm = ss[k].fs[k2].nm
                  · have hbe : (ss[k].fs[jj].nm.toList == ss[k].fs[k2].nm.toList) = true := by rw [Gate.beq_toList]; simpa using he
                    have HF : Hid (Gate.okAt ss ss[k].fs k2 = false) := by
                      rw [HO.out]; unfold Hid
                      have hh : Gate.hasName (ss[k].fs.take k2) ss[k].fs[k2].nm = true := by
                        unfold Gate.hasName; rw [List.any_eq_true]
                        exact ⟨ss[k].fs[jj], List.mem_take_iff_getElem.2 ⟨jj, by omega, rfl⟩, by simpa using he⟩
                      rw [hh]; simp
                    clear he hno
                    go_wp2_with fail
                    go_quiet (fail)
                    go_wp2_with fail
                    go_ret
                    refine ⟨ret_bool (HN2.out HF.out).symm, ?_⟩
                    obtain ⟨n, rfl⟩ := HW.out
                    exact below_drewN (below_drewN hB3 _) _
                  · have hbe : (ss[k].fs[jj].nm.toList == ss[k].fs[k2].nm.toList) = false := by rw [Gate.beq_toList]; simpa using he
                    have HSn : Hid (Gate.hasName (ss[k].fs.take (jj + 1)) ss[k].fs[k2].nm = false) := by unfold Hid; rw [Gate.hasName_snoc _ _ jj hjl, hno, decide_eq_false he]; rfl
                    clear he hno
                    go_wp2_with fail
                    go_quiet (fail)
                    go_wp2_with fail
                    obtain ⟨n, rfl⟩ := HW.out
                    exact ⟨⟨jj + 1, by omega, by go_num, HSn.out, n + nq, by simp⟩, by simp [intOf]; omega⟩
                · have HF : Hid (Gate.okAt ss ss[k].fs k2 = true) := by
                    have e : jj = k2 := by omega
                    subst e
                    rw [HO.out, hno]; unfold Hid
                    have := HFO.out
                    rw [Bool.and_eq_true] at this
                    rw [this.1, this.2]; rfl
                  have hBlw : Below (W0.heap.size + 1) (W0.alloc (.cells #[.string ss[k].kd, .slice (some ⟨fb, foff, none⟩) ss[k].fs.length fcap] 69)) wr := by obtain ⟨n, rfl⟩ := hwr3; exact below_drewN hBl3 _
                  clear hno hwr3 hY4 hck2
                  go_wp2_with fail
                  exact ⟨⟨k2 + 1, by omega, by go_num, HS2.out HF.out, hBlw⟩, by simp [intOf]; omega⟩
            · have HFO : Hid ((Gate.nameOk ss[k].fs[k2].nm && Gate.fieldOk ss ss[k].fs[k2]) = false) := by simpa [Hid] using hfo
              have HF : Hid (Gate.okAt ss ss[k].fs k2 = false) := by
                rw [HO.out]; unfold Hid
                have := HFO.out
                cases h1 : Gate.nameOk ss[k].fs[k2].nm <;> cases h2 : Gate.fieldOk ss ss[k].fs[k2] <;> simp_all
              clear hfo hup2
              go_wp2_with fail
              refine (as_bool HFO.out (specField_any _ _ _ _ _ _ _ _ _ _ _ _ _ _ _ _ _ hsmf.nm hsmf.df hsmf.wg hstf hall2)).mono ?_
              rintro e W3 ⟨rfl, hb3⟩
              have hB3 : Below w.heap.size w W3 := hB2.trans (hb3.mono (by omega))
              go_wp2_with fail
              go_ret
              exact ⟨ret_bool (HN2.out HF.out).symm, hB3⟩
          · have HF : Hid (Gate.shapeAt ss k = true) := by
              have e : k2 = ss[k].fs.length := by omega
              subst e; rw [HA.out, HFG.out]; exact hup2
            clear hup2
            go_wp2_with fail
            exact ⟨⟨k + 1, by omega, by go_num, HS.out HF.out, hB2⟩, by simp [intOf]; omega⟩
    · have HF : Hid (Gate.shapesOk ss = true) := by
        have e : k = ss.length := by omega
        subst e; rw [HG.out]; exact hup
      clear hup hw
      go_wp2
      go_ret
      exact ⟨ret_bool HF.out.symm, hB⟩

end Go.Proofs.YtponiggfclcbgaaGreat

namespace Go.Proofs.YtponiggfclcbgaaGreat
open Go.RowKit

def FieldsRes (ss : List Shp) (o : Ob) (w : World) (e : Ending) : Prop := ∃ fa fcap, e = .returned (.tuple #[.slice fa (Gate.shapeOf ss o.kd).fs.length fcap, .bool true]) ∧ FldsAt w fa (Gate.shapeOf ss o.kd).fs

set_option maxHeartbeats 1000000 in
theorem l2Fields_yes (a0 : Option Addr) (cap0 : Nat) (ss : List Shp) (o : Ob) (a a' : Option Addr) (cap cap' : Nat) (w : World) (hw : ShpsAt w a0 ss) (_ho : ObAt w o a a') (hc : Gate.wholeCount ss o = true) :
    Calls Tryz.prog 64 #[.slice a0 ss.length cap0, .agg #[.string o.kd, .string o.nm, .string o.tm, .slice a o.vs.length cap, .bool o.en, .slice a' o.hs.length cap', .int .i64 o.vr]] w fun e w' => ∃ fa fcap, e = .returned (.tuple #[.slice fa (Gate.shapeOf ss o.kd).fs.length fcap, .bool true]) ∧ FldsAt w fa (Gate.shapeOf ss o.kd).fs ∧ Below w.heap.size w w' := by
  unfold Gate.wholeCount at hc
  simp only [Bool.and_eq_true, decide_eq_true_eq] at hc
  have HK : Hid (Gate.hasKind ss o.kd = true) := hc.1
  have HL : Hid (o.vs.length = (Gate.shapeOf ss o.kd).fs.length) := hc.2
  clear hc
  have hl := hw.len
  unfold maxLen at hl
  go_enter Tryz.func64, Tryz.ntmps64
  go_wp2_with fail
  refine (l1Shape_yes _ _ _ _ _ (hw.mono ((Below.refl _ _).alloc (Nat.le_refl _) _)) HK.out).mono ?_
  rintro e w1 ⟨ix, hix, rfl, hsh, rfl⟩
  have HSh : Hid (Gate.shapeOf ss o.kd = ss[ix]) := hsh
  clear hsh
  obtain ⟨b, off, rfl, hb, hr⟩ := hw.rows (by rintro rfl; simp at hix)
  obtain ⟨fa, fcap, hs⟩ := hr ix hix
  have hcl := hs.list
  have hfl := hs.flds
  have hixI : (ix : Int) < (ss.length : Int) := by omega
  have hix0 : decide ((ix : Int) < 0) = false := by simp
  have hneq : ((ss[ix].fs.length : Int) != (o.vs.length : Int)) = false := by have h1 := HL.out; have h2 := HSh.out; rw [h2] at h1; simp [h1]
  have hbw : b < w.heap.size := hb
  clear hr hs
  go_wp2_with fail
  go_quiet (fail)
  go_wp2_with fail
  go_ret2
  rw [HSh.out]
  exact ⟨fa, fcap, rfl, hfl, below_drewN ((Below.refl _ _).alloc (Nat.le_refl _) _) _⟩

set_option maxHeartbeats 1000000 in
theorem l2Fields_no (a0 : Option Addr) (cap0 : Nat) (ss : List Shp) (o : Ob) (a a' : Option Addr) (cap cap' : Nat) (w : World) (hw : ShpsAt w a0 ss) (_ho : ObAt w o a a') (hc : Gate.wholeCount ss o = false) :
    Calls Tryz.prog 64 #[.slice a0 ss.length cap0, .agg #[.string o.kd, .string o.nm, .string o.tm, .slice a o.vs.length cap, .bool o.en, .slice a' o.hs.length cap', .int .i64 o.vr]] w fun e w' => ∃ v, e = .returned (.tuple #[v, .bool false]) ∧ Below w.heap.size w w' := by
  have hl := hw.len
  unfold maxLen at hl
  by_cases hk : Gate.hasKind ss o.kd = true
  · have HK : Hid (Gate.hasKind ss o.kd = true) := hk
    have HL : Hid (¬ o.vs.length = (Gate.shapeOf ss o.kd).fs.length) := by unfold Gate.wholeCount at hc; rw [hk] at hc; simpa [Hid] using hc
    clear hc hk
    go_enter Tryz.func64, Tryz.ntmps64
    go_wp2_with fail
    refine (l1Shape_yes _ _ _ _ _ (hw.mono ((Below.refl _ _).alloc (Nat.le_refl _) _)) HK.out).mono ?_
    rintro e w1 ⟨ix, hix, rfl, hsh, rfl⟩
    have HSh : Hid (Gate.shapeOf ss o.kd = ss[ix]) := hsh
    clear hsh
    obtain ⟨b, off, rfl, hb, hr⟩ := hw.rows (by rintro rfl; simp at hix)
    obtain ⟨fa, fcap, hs⟩ := hr ix hix
    have hcl := hs.list
    have hixI : (ix : Int) < (ss.length : Int) := by omega
    have hix0 : decide ((ix : Int) < 0) = false := by simp
    have hneq : ((ss[ix].fs.length : Int) != (o.vs.length : Int)) = true := by have h1 := HL.out; have h2 := HSh.out; rw [h2] at h1; rw [bne_iff_ne]; omega
    have hbw : b < w.heap.size := hb
    clear hr hs
    go_wp2_with fail
    go_quiet (fail)
    go_wp2_with fail
    go_ret2
    exact ⟨_, rfl, below_drewN (below2' _ _ _) _⟩
  · have HK : Hid (Gate.hasKind ss o.kd = false) := by simpa [Hid] using hk
    clear hc hk
    go_enter Tryz.func64, Tryz.ntmps64
    go_wp2_with fail
    refine (l1Shape_no _ _ _ _ _ (hw.mono ((Below.refl _ _).alloc (Nat.le_refl _) _)) HK.out).mono ?_
    rintro e w1 ⟨rfl, rfl⟩
    go_wp2_with fail
    go_quiet (fail)
    go_wp2_with fail
    go_ret2
    exact ⟨_, rfl, below_drewN (below2' _ _ _) _⟩

end Go.Proofs.YtponiggfclcbgaaGreat
