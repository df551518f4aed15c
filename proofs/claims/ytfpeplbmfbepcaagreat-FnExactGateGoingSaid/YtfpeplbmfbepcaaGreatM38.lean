import Derived.Test.YtfpeplbmfbepcaaGreatM31
import Derived.Deep.RegionHeld3
import Derived.Deep.Cut
namespace Go.Proofs.YtfpeplbmfbepcaaGreat
open Go.RowKit
def zpF (w : World) (m : Mnd) (W : World) : Prop := Below w.heap.size w W /\ w.heap.size < W.heap.size /\ ∀ j, W.cell? ⟨w.heap.size, j, none⟩ = (#[.string m.kd, .string m.fd, .string m.wh, .string m.wi, .string m.pt, .string m.fr] : Array Value)[j]?
set_option maxRecDepth 20000 in
set_option maxHeartbeats 4000000 in
theorem zlv (a : Option Addr) (cap : Nat) (ss : List Shp) (m : Mnd) (w : World) (hw : yI w a ss) (hm : m.Small) (hk : Gate.zC ss m.kd = true) :
    Calls Tryz.prog 126 #[.slice a ss.length cap, .agg m.cells] w fun e w' => e = .returned (.bool (Gate.zc4 (Gate.shapeOf ss m.kd).fs m)) /\ Below w.heap.size w w' := by
  have hl := hw.len
  unfold maxLen at hl
  unfold Mnd.cells
  have hba := (Below.refl w.heap.size w).alloc (Nat.le_refl _) (.cells #[.string m.kd, .string m.fd, .string m.wh, .string m.wi, .string m.pt, .string m.fr] 125)
  go_enter Tryz.func126, Tryz.ntmps126
  go_wp2_with fail
  refine (za8 _ _ _ _ _ (hw.mono hba) hk).mono ?_
  rintro e w1 ⟨ix, hix, rfl, hsh, rfl⟩
  have HSh : Hid (Gate.shapeOf ss m.kd = ss[ix]) := hsh
  obtain ⟨b, off, rfl, hb, hr⟩ := hw.rows (by rintro rfl; simp at hix)
  obtain ⟨fa, fcap, hs⟩ := hr ix hix
  have hcl := hs.list
  have HFL : Hid (zW w fa ss[ix].fs) := hs.zcE
  have hixI : (ix : Int) < (ss.length : Int) := by omega
  have hix0 : decide ((ix : Int) < 0) = false := by simp
  have hbw : b < w.heap.size := hb
  have HBA : Hid (Below w.heap.size w (w.alloc (.cells #[.string m.kd, .string m.fd, .string m.wh, .string m.wi, .string m.pt, .string m.fr] 125))) := hba
  clear hr hs hsh hk hw hba
  go_upto_region 5 with fail
  refine zbh (zpF w m) ⟨HBA.out, by simp, zG w _ _⟩ ?_
  rintro W1 hW1
  have H1 := hid hW1
  have HP : Hid (∀ v W, zpF w m W -> Calls Tryz.prog 170 #[.slice fa ss[ix].fs.length fcap, .string v] W fun e w' => e = .returned (.bool (Gate.plain ss[ix].fs v)) /\ zpF w m w') := fun v W h => (zmG fa fcap ss[ix].fs v W (HFL.out.mono h.1)).mono fun e w' ⟨he, hb⟩ => ⟨he, h.1.trans (hb.mono h.1.size), Nat.lt_of_lt_of_le h.2.1 hb.size, za h.2.2 h.2.1 hb⟩
  obtain ⟨b1, hb1⟩ : ∃ x, x = !(Gate.plain ss[ix].fs m.fd && (!Gate.isSet m.wh || Gate.plain ss[ix].fs m.wh) && (!Gate.isSet m.fr || Gate.plain ss[ix].fs m.fr)) := ⟨_, rfl⟩
  have HB1 := hid hb1
  clear hb1 hW1 HBA
  go_cut [46] from 7 (fun vx W => vx = .bool b1 /\ Hid (zpF w m W))
  case first =>
    have cX := H1.out.2.2
    go_wp2_with fail
    refine (HP.out m.fd _ H1.out).mono ?_
    rintro e w2 ⟨rfl, h2⟩
    have H2 := hid h2
    clear h2 cX H1
    have cX := H2.out.2.2
    rcases hp0 : Gate.plain ss[ix].fs m.fd with _ | _
    · go_wp2_with fail
      go_meet
      case rel => exact ⟨by rw [HB1.out]; simp [hp0], H2⟩
    rcases hwh : m.wh.toList.isEmpty with _ | _
    · go_wp2_with fail
      refine (HP.out m.wh _ H2.out).mono ?_
      rintro e w3 ⟨rfl, h3⟩
      have H3 := hid h3
      clear h3 cX H2
      have cX := H3.out.2.2
      rcases hp1 : Gate.plain ss[ix].fs m.wh with _ | _
      · go_wp2_with fail
        go_meet
        case rel => exact ⟨by rw [HB1.out]; simp [Gate.isSet, hp0, hwh, hp1], H3⟩
      rcases hfr : m.fr.toList.isEmpty with _ | _
      · go_wp2_with fail
        refine (HP.out m.fr _ H3.out).mono ?_
        rintro e w4 ⟨rfl, h4⟩
        have H4 := hid h4
        clear h4 cX
        go_wp2_with fail
        go_meet
        case rel => exact ⟨by rw [HB1.out]; simp [Gate.isSet, hp0, hwh, hp1, hfr], H4⟩
      · go_wp2_with fail
        go_meet
        case rel => exact ⟨by rw [HB1.out]; simp [Gate.isSet, hp0, hwh, hp1, hfr], H3⟩
    · skip
      rcases hfr : m.fr.toList.isEmpty with _ | _
      · go_wp2_with fail
        refine (HP.out m.fr _ H2.out).mono ?_
        rintro e w4 ⟨rfl, h4⟩
        have H4 := hid h4
        clear h4 cX
        go_wp2_with fail
        go_meet
        case rel => exact ⟨by rw [HB1.out]; simp [Gate.isSet, hp0, hwh, hfr], H4⟩
      · go_wp2_with fail
        go_meet
        case rel => exact ⟨by rw [HB1.out]; simp [Gate.isSet, hp0, hwh, hfr], H2⟩
  case rest =>
    obtain ⟨rfl, H5⟩ := hcut
    obtain ⟨W5, rfl⟩ : ∃ x, x = wc := ⟨_, rfl⟩
    clear H1
    have cX := H5.out.2.2
    cases b1 with
    | true =>
      have HT : Hid (Gate.zc4 ss[ix].fs m = false) := by
        have h := HB1.out
        unfold Hid Gate.zc4
        revert h
        cases Gate.plain ss[ix].fs m.fd <;> cases (!Gate.isSet m.wh || Gate.plain ss[ix].fs m.wh) <;> cases (!Gate.isSet m.fr || Gate.plain ss[ix].fs m.fr) <;> simp
      go_wp2_with fail
      go_ret
      exact ⟨by rw [HSh.out, HT.out]; rfl, H5.out.1⟩
    | false =>
      obtain ⟨b2, hb2⟩ : ∃ x, x = (decide (m.wh = m.fd) || decide (m.fr = m.fd) || (!Gate.isSet m.wh && Gate.isSet m.wi) || (Gate.isSet m.pt == Gate.isSet m.fr)) := ⟨_, rfl⟩
      have HB2 := hid hb2
      clear hb2
      have HS : Hid (Gate.zc4 ss[ix].fs m = (!b2 && (!Gate.isSet m.pt || Gate.zeT (Gate.zdn ss[ix].fs m.fd) m.pt)) /\ Gate.plain ss[ix].fs m.fd = true) := by
        have h := HB1.out
        unfold Hid Gate.zc4 Gate.zaG
        rw [HB2.out]
        revert h
        cases Gate.plain ss[ix].fs m.fd <;> cases (!Gate.isSet m.wh || Gate.plain ss[ix].fs m.wh) <;> cases (!Gate.isSet m.fr || Gate.plain ss[ix].fs m.fr) <;> simp [Bool.or_assoc, Bool.and_assoc]
      go_upto_region 7 with fail
      go_cut [77] from 7 (fun vx W => vx = .bool b2 /\ Hid (zpF w m W))
      case first =>
        by_cases e1 : m.wh = m.fd
        · have he1 : (m.wh.toList == m.fd.toList) = true := by rw [Gate.beq_toList]; simpa using e1
          have HE := hid e1
          clear e1
          go_wp2_with fail
          go_meet
          case rel => exact ⟨by rw [HB2.out]; simp [HE.out], H5⟩
        have he1 : (m.wh.toList == m.fd.toList) = false := by rw [Gate.beq_toList]; simpa using e1
        have HE1 := hid e1
        clear e1
        by_cases e2 : m.fr = m.fd
        · have he2 : (m.fr.toList == m.fd.toList) = true := by rw [Gate.beq_toList]; simpa using e2
          have HE := hid e2
          clear e2
          go_wp2_with fail
          go_meet
          case rel => exact ⟨by rw [HB2.out]; simp [HE.out], H5⟩
        have he2 : (m.fr.toList == m.fd.toList) = false := by rw [Gate.beq_toList]; simpa using e2
        have HE2 := hid e2
        clear e2
        rcases hwh : m.wh.toList.isEmpty with _ | _ <;> rcases hwi : m.wi.toList.isEmpty with _ | _ <;> rcases hpt : m.pt.toList.isEmpty with _ | _ <;> rcases hfr : m.fr.toList.isEmpty with _ | _ <;> (go_wp2_with fail; go_meet; case rel => exact ⟨by rw [HB2.out]; simp [Gate.isSet, HE1.out, HE2.out, hwh, hwi, hpt, hfr], H5⟩)
      case rest =>
        obtain ⟨rfl, H7⟩ := hcut
        obtain ⟨W7, rfl⟩ : ∃ x, x = wc := ⟨_, rfl⟩
        clear H5 cX
        have cX := H7.out.2.2
        cases b2 with
        | true =>
          go_wp2_with fail
          go_ret
          exact ⟨by rw [HSh.out, HS.out.1]; rfl, H7.out.1⟩
        | false =>
          have hp0 := HS.out.2
          rcases hpt : m.pt.toList.isEmpty with _ | _
          · have HT : Hid (Gate.zc4 ss[ix].fs m = Gate.zeT (Gate.zdn ss[ix].fs m.fd) m.pt) := by unfold Hid; rw [HS.out.1]; simp [Gate.isSet, hpt]
            go_wp2_with fail
            obtain ⟨fi, hfi, hixx, hfind⟩ : ∃ fi, ∃ h : fi < ss[ix].fs.length, Gate.zT ss[ix].fs m.fd = (fi : Int) /\ ss[ix].fs.find? (fun f => decide (f.nm = m.fd)) = some ss[ix].fs[fi] := by
              rcases Gate.jA ss[ix].fs m.fd with ⟨_, h2⟩ | ⟨fi, hfi, h1, _, h3⟩
              · rw [Gate.zaZ h2] at hp0; cases hp0
              · exact ⟨fi, hfi, h1, h3⟩
            have HFO : Hid (Gate.zdn ss[ix].fs m.fd = ss[ix].fs[fi]) := by unfold Hid Gate.zdn; rw [hfind]; rfl
            obtain ⟨fb, foff, rfl, hfb, hrows⟩ := HFL.out.rows (by intro e; rw [e] at hfi; simp at hfi)
            obtain ⟨wa, wcap, hf0⟩ := hrows fi hfi
            have HFI : Hid (∀ W, Below w.heap.size w W -> zeC W fb (foff + fi * 11) ss[ix].fs[fi] wa wcap) := fun W hb => hf0.mono hfb hb
            have hfiI : (fi : Int) < (ss[ix].fs.length : Int) := by omega
            have hbc : Below w.heap.size w W7.drew := H7.out.1.drew
            have HXw : Hid (∀ j, W7.cell? ⟨w.heap.size, j, none⟩ = (#[.string m.kd, .string m.fd, .string m.wh, .string m.wi, .string m.pt, .string m.fr] : Array Value)[j]?) := H7.out.2.2
            have hbW : Below W7.heap.size W7 W7.drew := (Below.refl _ _).drew
            have hXc := za HXw.out H7.out.2.1 hbW
            have hL := (HFI.out _ hbc).load
            have HFX : Hid (∀ W, Below w.heap.size w W -> Calls Tryz.prog 171 #[.slice (some ⟨fb, foff, none⟩) ss[ix].fs.length fcap, .string m.fd] W fun e w' => e = .returned (.int .i64 (fi : Int)) /\ w' = W) := by
              intro W hb
              have h := zav (some ⟨fb, foff, none⟩) fcap ss[ix].fs m.fd W (HFL.out.mono hb)
              rw [hixx] at h
              exact h
            have HPT : Hid (m.pt.size <= maxLen) := hm.pt
            clear hrows hf0 hfind hixx
            go_region_held3 (fun w' => (∀ j, w'.cell? ⟨w.heap.size, j, none⟩ = (#[.string m.kd, .string m.fd, .string m.wh, .string m.wi, .string m.pt, .string m.fr] : Array Value)[j]?) /\ w'.cell? ⟨fb, foff + fi * 11, none⟩ = some (.string ss[ix].fs[fi].nm) /\ w'.cell? ⟨fb, foff + fi * 11 + 1, none⟩ = some (.int .i64 ss[ix].fs[fi].kd) /\ w'.cell? ⟨fb, foff + fi * 11 + 2, none⟩ = some (.int .i64 ss[ix].fs[fi].ls) /\ w'.cell? ⟨fb, foff + fi * 11 + 3, none⟩ = some (.int .i64 ss[ix].fs[fi].ms) /\ w'.cell? ⟨fb, foff + fi * 11 + 4, none⟩ = some (.slice wa ss[ix].fs[fi].ws.length wcap) /\ w'.cell? ⟨fb, foff + fi * 11 + 5, none⟩ = some (.string ss[ix].fs[fi].to) /\ w'.cell? ⟨fb, foff + fi * 11 + 6, none⟩ = some (.int .i64 ss[ix].fs[fi].rl) /\ w'.cell? ⟨fb, foff + fi * 11 + 7, none⟩ = some (.bool ss[ix].fs[fi].mu) /\ w'.cell? ⟨fb, foff + fi * 11 + 8, none⟩ = some (.bool ss[ix].fs[fi].fx) /\ w'.cell? ⟨fb, foff + fi * 11 + 9, none⟩ = some (.string ss[ix].fs[fi].df) /\ w'.cell? ⟨fb, foff + fi * 11 + 10, none⟩ = some (.string ss[ix].fs[fi].wg)) (exact ⟨hXc, hL⟩) (first
              | (go_at_call 171; refine (HFX.out _ hbc).mono ?_; rintro e w5 ⟨rfl, rfl⟩)
              | (go_at_call 130; refine (zdw _ _ _ _ _ _ _ _ _ _ _ _ _ _ _ HPT.out (by exact (HFI.out _ hbc).strs)).mono ?_; rintro e w5 ⟨rfl, hb5⟩; have hbW := hbW.trans (hb5.mono hbW.size); have hbc := hbc.trans (hb5.mono hbc.size); have hXc := za HXw.out H7.out.2.1 hbW; have hL := (HFI.out _ hbc).load; clear hb5))
            go_wp2_with fail
            go_ret
            exact ⟨by rw [HSh.out, HT.out, HFO.out]; rfl, hbc⟩
          · have HT : Hid (Gate.zc4 ss[ix].fs m = true) := by unfold Hid; rw [HS.out.1]; simp [Gate.isSet, hpt]
            go_wp2_with fail
            go_quiet (fail)
            go_wp2_with fail
            go_ret
            exact ⟨by rw [HSh.out, HT.out]; rfl, below_drewN H7.out.1 _⟩
end Go.Proofs.YtfpeplbmfbepcaaGreat
