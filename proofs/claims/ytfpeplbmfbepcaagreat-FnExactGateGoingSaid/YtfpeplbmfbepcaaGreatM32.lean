import Derived.Test.YtfpeplbmfbepcaaGreatM28
import Derived.Test.YtfpeplbmfbepcaaGreatM14
import Derived.Deep.QuietTactic
import Derived.BigQuiet
namespace Go.Proofs.YtfpeplbmfbepcaaGreat
open Go.RowKit
set_option maxHeartbeats 4000000 in
theorem zbz (a : Option Addr) (cap : Nat) (ss : List Shp) (w : World) (hw : yI w a ss) :
    Calls Tryz.prog 125 #[.slice a ss.length cap] w fun e w' => e = .returned (.bool (Gate.zJ ss)) /\ Below w.heap.size w w' := by
  have hl := hw.len
  unfold maxLen at hl
  by_cases h6 : ss.length <= 6
  rotate_left
  · have HF : Hid (Gate.zJ ss = false) := by simp [Hid, Gate.zJ, h6]
    clear hw
    go_enter Tryz.func125, Tryz.ntmps125
    go_wp2
    go_ret
    exact ⟨ze HF.out.symm, Below.refl _ _⟩
  have HG : Hid (Gate.zJ ss = Gate.up (Gate.yD ss) ss.length) := by simp [Hid, Gate.zJ, h6]
  have h6I : (ss.length : Int) <= 6 := by omega
  go_enter Tryz.func125, Tryz.ntmps125
  go_wp2_with fail
  go_loopw [3] (fun i wr => ∃ k : Nat, k <= ss.length /\ i = .int .i64 k /\ Gate.up (Gate.yD ss) k = true /\ Below w.heap.size w wr) (fun i _ => ss.length - (intOf i).toNat)
  case atStart => exact ⟨0, Nat.zero_le _, rfl, rfl, Below.refl _ _⟩
  case round =>
    obtain ⟨k, hk, rfl, hup, hB⟩ := hrel
    obtain ⟨W0, rfl⟩ : ∃ W0, W0 = wr := ⟨wr, rfl⟩
    have hsz := hB.size
    by_cases hlt : k < ss.length
    · obtain ⟨b, off, rfl, hb, hrw⟩ := hw.rows (by rintro rfl; simp at hlt)
      have hbr : b < W0.heap.size := by omega
      have hall := hw.mono hB
      obtain ⟨fa, fcap, hs⟩ := hrw k hlt
      have hs' := hs.mono hb hB
      have hck := hs'.kind
      have hcl := hs'.list
      have hfl := hs'.zcE
      have hsm := hs.small
      have HS : Hid (Gate.yD ss k = true -> Gate.up (Gate.yD ss) (k + 1) = true) := fun h => by rw [Gate.jG, hup, h]; rfl
      have HN : Hid (Gate.yD ss k = false -> Gate.zJ ss = false) := fun h => by rw [HG.out]; exact Gate.zbg hlt h
      have hltI : (k : Int) < (ss.length : Int) := by omega
      by_cases hn : Gate.zy ss[k].kd = true
      rotate_left
      · have HNm : Hid (Gate.zy ss[k].kd = false) := by simpa [Hid] using hn
        have HF : Hid (Gate.yD ss k = false) := by
          unfold Hid Gate.yD; rw [Gate.getD_at ss k _ hlt, HNm.out]; rfl
        clear hn hup hw hrw hs hs'
        go_wp2_with fail
        go_quiet ((go_at_call 97; exact Calls.quiet_of_same (zw HNm.out (zS _ _ hsm))))
        go_wp2_with fail
        go_ret
        exact ⟨ze (HN.out HF.out).symm, below_drewN (hB.alloc hsz _) _⟩
      have HNm : Hid (Gate.zy ss[k].kd = true) := hn
      clear hn
      have hcl6 := hfl.len
      unfold maxLen at hcl6
      by_cases hbad : 0 < k /\ Gate.less (ss.getD (k - 1) Gate.zaS).kd ss[k].kd = false
      · obtain ⟨hkpos, hls⟩ := hbad
        rw [Gate.getD_at ss (k - 1) _ (by omega)] at hls
        obtain ⟨fam, fcapm, hsm0⟩ := hrw (k - 1) (by omega)
        have hcm := (hsm0.mono hb hB).kind
        have hls' : Op.bytesLess ss[k - 1].kd.toList ss[k].kd.toList = false := hls
        have hg : decide (0 < k) = true := by simp; omega
        have hk1 : (0 : Int) <= (k : Int) - 1 := by omega
        have hk2 : (k : Int) - 1 < (ss.length : Int) := by omega
        have HF : Hid (Gate.yD ss k = false) := by
          unfold Hid Gate.yD; rw [Gate.getD_at ss k _ hlt, Gate.getD_at ss (k - 1) _ (by omega), hls, decide_eq_false (show ¬ k = 0 by omega)]; simp
        clear hup hw hrw hs hs' hls hsm0
        go_wp2_with fail
        go_quiet ((go_at_call 97; exact Calls.quiet_of_same (zw HNm.out (zS _ _ hsm))))
        go_wp2_with fail
        go_ret
        exact ⟨ze (HN.out HF.out).symm, below_drewN (hB.alloc hsz _) _⟩
      have hgood : (decide (0 < k) = false /\ Gate.yD ss k = Gate.yH ss ss[k].fs) \/ (decide (0 < k) = true /\ Gate.yD ss k = Gate.yH ss ss[k].fs /\ (0 : Int) <= (k : Int) - 1 /\ (k : Int) - 1 < (ss.length : Int) /\ ∃ h : k - 1 < ss.length, Op.bytesLess ss[k - 1].kd.toList ss[k].kd.toList = true /\ W0.cell? ⟨b, off + (k - 1) * 2, none⟩ = some (.string ss[k - 1].kd)) := by
        by_cases hk0 : k = 0
        · refine Or.inl ⟨by simp; omega, ?_⟩
          subst hk0; rw [Gate.zeU ss hlt, HNm.out]; rfl
        · obtain ⟨fam, fcapm, hsm0⟩ := hrw (k - 1) (by omega)
          have hls : Gate.less ss[k - 1].kd ss[k].kd = true := by
            rw [Gate.getD_at ss (k - 1) _ (by omega)] at hbad
            cases h : Gate.less ss[k - 1].kd ss[k].kd with
            | true => rfl
            | false => exact absurd ⟨by omega, h⟩ hbad
          refine Or.inr ⟨by simp; omega, ?_, by omega, by omega, by omega, hls, (hsm0.mono hb hB).kind⟩
          unfold Gate.yD; rw [Gate.getD_at ss k _ hlt, Gate.getD_at ss (k - 1) _ (by omega), hls, HNm.out]; simp
      clear hup hw hrw hs hs' hbad
      rcases hgood with ⟨hg, hAA⟩ | ⟨hg, hAA, hk1, hk2, hkm, hls', hcm⟩
      all_goals
        have HA := hid hAA
        clear hAA
        by_cases h6f : ss[k].fs.length <= 6
        rotate_left
        · have HF : Hid (Gate.yD ss k = false) := by rw [HA.out]; simp [Hid, Gate.yH, h6f]
          have h6fI : (6 : Int) < (ss[k].fs.length : Int) := by omega
          go_wp2_with fail
          go_quiet ((go_at_call 97; exact Calls.quiet_of_same (zw HNm.out (zS _ _ hsm))))
          go_wp2_with fail
          go_ret
          exact ⟨ze (HN.out HF.out).symm, below_drewN (hB.alloc hsz _) _⟩
        have h6fI : (ss[k].fs.length : Int) <= 6 := by omega
        have HFG : Hid (Gate.yH ss ss[k].fs = Gate.up (Gate.zea ss ss[k].fs) ss[k].fs.length) := by simp [Hid, Gate.yH, h6f]
        go_wp2_with fail
        go_quiet ((go_at_call 97; exact Calls.quiet_of_same (zw HNm.out (zS _ _ hsm))))
        go_wp2_with fail
        go_loopw [5] (fun i wr2 => ∃ k2 : Nat, k2 <= ss[k].fs.length /\ i = .int .i64 k2 /\ Gate.up (Gate.zea ss ss[k].fs) k2 = true /\ Below (W0.heap.size + 1) (W0.alloc (.cells #[.string ss[k].kd, .slice fa ss[k].fs.length fcap] 123)) wr2) (fun i _ => ss[k].fs.length - (intOf i).toNat)
        case atStart => exact ⟨0, Nat.zero_le _, rfl, rfl, below_drewN (Below.refl _ _) _⟩
        case round =>
          obtain ⟨k2, hk2', rfl, hup2, hBl⟩ := hrel
          obtain ⟨W2, rfl⟩ : ∃ W2, W2 = wr := ⟨wr, rfl⟩
          have hsz2 : W0.heap.size < W2.heap.size := by have := hBl.size; simp at this; omega
          have hB02 : Below W0.heap.size W0 W2 := ((Below.refl _ _).alloc (Nat.le_refl _) _).trans (hBl.mono (by omega))
          have hB2 := hB.trans (hB02.mono hsz)
          have hY1 : W2.cell? ⟨W0.heap.size, 1, none⟩ = some (.slice fa ss[k].fs.length fcap) := (hBl.cell (p := ⟨W0.heap.size, 1, none⟩) (by simp)).trans (by rw [World.cell?_alloc_at _ _ _ _ rfl]; rfl)
          by_cases hlt2 : k2 < ss[k].fs.length
          · obtain ⟨fb, foff, rfl, hfb, hfr⟩ := hfl.rows (by intro h; rw [h] at hlt2; simp at hlt2)
            obtain ⟨wa, wcap, hf0⟩ := hfr k2 hlt2
            have hf := hf0.mono hfb hB02
            obtain ⟨c0, c1, c2, c3, c4, c5, c6, c7, c8, c9, c10⟩ := hf.load
            have hsmf := hf.small
            have hstf := hf.strs
            have hall2 := hall.mono hB02
            have HO := hid (Gate.zfB ss ss[k].fs k2 hlt2)
            have HS2 : Hid (Gate.zea ss ss[k].fs k2 = true -> Gate.up (Gate.zea ss ss[k].fs) (k2 + 1) = true) := fun h => by rw [Gate.jG, hup2, h]; rfl
            have HN2 : Hid (Gate.zea ss ss[k].fs k2 = false -> Gate.zJ ss = false) := fun h => HN.out (by rw [HA.out, HFG.out]; exact Gate.zbg hlt2 h)
            have hltI2 : (k2 : Int) < (ss[k].fs.length : Int) := by omega
            by_cases hfo : (Gate.zy ss[k].fs[k2].nm && Gate.jT ss ss[k].fs[k2]) = true
            · have HFO := hid hfo
              clear hfo hup2
              go_wp2_with fail
              refine (zw HFO.out (zeR _ _ _ _ _ _ _ _ _ _ _ _ _ _ _ _ _ hsmf.nm hsmf.df hsmf.wg hstf hall2)).mono ?_
              rintro e W3 ⟨rfl, hb3⟩
              go_wp2_with fail
              have hB23 : Below W0.heap.size W0 W3 := hB02.trans (hb3.mono (by omega))
              have hB3 : Below w.heap.size w W3 := hB2.trans (hb3.mono (by omega))
              have hY3 := (hb3.cell (p := ⟨W0.heap.size, 1, none⟩) hsz2).trans hY1
              have hsz3 : W0.heap.size < W3.heap.size := by have := hb3.size; omega
              have hnames : ∀ i (h : i < ss[k].fs.length), W3.cell? ⟨fb, foff + i * 11, none⟩ = some (.string ss[k].fs[i].nm) := fun i h => by
                obtain ⟨wa', wcap', hfi⟩ := hfr i h
                exact (hfi.mono hfb hB23).load.1
              have hBl3 : Below (W0.heap.size + 1) (W0.alloc (.cells #[.string ss[k].kd, .slice (some ⟨fb, foff, none⟩) ss[k].fs.length fcap] 123)) W3 := hBl.trans (hb3.mono (by omega))
              clear hY1 c0 c1 c2 c3 c4 c5 c6 c7 c8 c9 c10 hb3 hf hf0 hfr hstf hall2
              go_loopw [6] (fun i wr3 => ∃ j : Nat, j <= k2 /\ i = .int .i64 j /\ Gate.hasName (ss[k].fs.take j) ss[k].fs[k2].nm = false /\ ∃ n, wr3 = W3.drewN n) (fun i _ => k2 - (intOf i).toNat)
              case atStart => exact ⟨0, Nat.zero_le _, rfl, rfl, 0, rfl⟩
              case round =>
                obtain ⟨jj, hjj, rfl, hno, hwr3⟩ := hrel
                have HW := hid hwr3
                have hY4 : wr.cell? ⟨W0.heap.size, 1, none⟩ = some (.slice (some ⟨fb, foff, none⟩) ss[k].fs.length fcap) := by obtain ⟨n, rfl⟩ := hwr3; exact hY3
                have hck2 : wr.cell? ⟨fb, foff + k2 * 11, none⟩ = some (.string ss[k].fs[k2].nm) := by obtain ⟨n, rfl⟩ := hwr3; exact hnames k2 hlt2
                by_cases hltj : jj < k2
                · have hjl : jj < ss[k].fs.length := by omega
                  have hcj : wr.cell? ⟨fb, foff + jj * 11, none⟩ = some (.string ss[k].fs[jj].nm) := by obtain ⟨n, rfl⟩ := hwr3; exact hnames jj hjl
                  have hjI : (jj : Int) < (ss[k].fs.length : Int) := by omega
                  have hjK : (jj : Int) < (k2 : Int) := by omega
                  clear hwr3
                  by_cases he : ss[k].fs[jj].nm = ss[k].fs[k2].nm
                  · have hbe : (ss[k].fs[jj].nm.toList == ss[k].fs[k2].nm.toList) = true := by rw [Gate.beq_toList]; simpa using he
                    have HF : Hid (Gate.zea ss ss[k].fs k2 = false) := by
                      rw [HO.out]; unfold Hid
                      have hh : Gate.hasName (ss[k].fs.take k2) ss[k].fs[k2].nm = true := by
                        unfold Gate.hasName; rw [List.any_eq_true]
                        exact ⟨ss[k].fs[jj], List.mem_take_iff_getElem.2 ⟨jj, by omega, rfl⟩, by simpa using he⟩
                      rw [hh]; simp
                    clear he hno
                    go_wp2_with fail
                    go_quiet (fail)
                    go_wp2_with fail
                    go_ret
                    refine ⟨ze (HN2.out HF.out).symm, ?_⟩
                    obtain ⟨n, rfl⟩ := HW.out
                    exact below_drewN (below_drewN hB3 _) _
                  · have hbe : (ss[k].fs[jj].nm.toList == ss[k].fs[k2].nm.toList) = false := by rw [Gate.beq_toList]; simpa using he
                    have HSn : Hid (Gate.hasName (ss[k].fs.take (jj + 1)) ss[k].fs[k2].nm = false) := by unfold Hid; rw [Gate.zdx _ _ jj hjl, hno, decide_eq_false he]; rfl
                    clear he hno
                    go_wp2_with fail
                    go_quiet (fail)
                    go_wp2_with fail
                    obtain ⟨n, rfl⟩ := HW.out
                    exact ⟨⟨jj + 1, by omega, by go_num, HSn.out, n + nq, by simp⟩, by simp [intOf]; omega⟩
                · have HF : Hid (Gate.zea ss ss[k].fs k2 = true) := by
                    have e : jj = k2 := by omega
                    subst e
                    rw [HO.out, hno]; unfold Hid
                    have := HFO.out
                    rw [Bool.and_eq_true] at this
                    rw [this.1, this.2]; rfl
                  have hBlw : Below (W0.heap.size + 1) (W0.alloc (.cells #[.string ss[k].kd, .slice (some ⟨fb, foff, none⟩) ss[k].fs.length fcap] 123)) wr := by obtain ⟨n, rfl⟩ := hwr3; exact below_drewN hBl3 _
                  clear hno hwr3 hY4 hck2
                  go_wp2_with fail
                  exact ⟨⟨k2 + 1, by omega, by go_num, HS2.out HF.out, hBlw⟩, by simp [intOf]; omega⟩
            · have HFO : Hid ((Gate.zy ss[k].fs[k2].nm && Gate.jT ss ss[k].fs[k2]) = false) := by simpa [Hid] using hfo
              have HF : Hid (Gate.zea ss ss[k].fs k2 = false) := by
                rw [HO.out]; unfold Hid
                have := HFO.out
                cases h1 : Gate.zy ss[k].fs[k2].nm <;> cases h2 : Gate.jT ss ss[k].fs[k2] <;> simp_all
              clear hfo hup2
              go_wp2_with fail
              refine (zw HFO.out (zeR _ _ _ _ _ _ _ _ _ _ _ _ _ _ _ _ _ hsmf.nm hsmf.df hsmf.wg hstf hall2)).mono ?_
              rintro e W3 ⟨rfl, hb3⟩
              have hB3 : Below w.heap.size w W3 := hB2.trans (hb3.mono (by omega))
              go_wp2_with fail
              go_ret
              exact ⟨ze (HN2.out HF.out).symm, hB3⟩
          · have HF : Hid (Gate.yD ss k = true) := by
              have e : k2 = ss[k].fs.length := by omega
              subst e; rw [HA.out, HFG.out]; exact hup2
            clear hup2
            go_wp2_with fail
            exact ⟨⟨k + 1, by omega, by go_num, HS.out HF.out, hB2⟩, by simp [intOf]; omega⟩
    · have HF : Hid (Gate.zJ ss = true) := by
        have e : k = ss.length := by omega
        subst e; rw [HG.out]; exact hup
      clear hup hw
      go_wp2
      go_ret
      exact ⟨ze HF.out.symm, hB⟩
end Go.Proofs.YtfpeplbmfbepcaaGreat
