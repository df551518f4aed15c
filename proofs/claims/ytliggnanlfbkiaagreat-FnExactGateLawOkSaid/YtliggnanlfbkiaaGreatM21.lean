import Derived.Test.YtliggnanlfbkiaaGreatM19
import Derived.Test.YtliggnanlfbkiaaGreatM20
import Derived.Deep.RegionHeld3
import Derived.Deep.Cut
namespace Go.Proofs.YtliggnanlfbkiaaGreat
open Go.RowKit

set_option maxHeartbeats 400000 in
theorem l3Field_any (a : Option Addr) (cap : Nat) (fs : List Fld) (v : ByteArray) (w : World) (hw : FldsAt w a fs) :
    Calls Tryz.prog 52 #[.slice a fs.length cap, .string v] w fun e w' => e = .returned (.int .i64 (Gate.fieldIx fs v)) ∧ w' = w := by
  have hl := hw.len
  unfold maxLen at hl
  go_enter Tryz.func52, Tryz.ntmps52
  go_wp2
  go_loop [5] (fun i => ∃ k : Nat, k ≤ fs.length ∧ i = .int .i64 k ∧ Gate.hasName (fs.take k) v = false) (fun i => fs.length - (intOf i).toNat)
  case atStart => exact ⟨0, Nat.zero_le _, rfl, rfl⟩
  case round =>
    obtain ⟨k, hk, rfl, hno⟩ := hrel
    by_cases hlt : k < fs.length
    · obtain ⟨b, off, rfl, hb, hr⟩ := hw.rows (by rintro rfl; simp at hlt)
      obtain ⟨wa, wcap, hf⟩ := hr k hlt
      obtain ⟨c0, c1, c2, c3, c4, c5, c6, c7, c8, c9, c10⟩ := hf.load
      clear hw hr hf c1 c2 c3 c4 c5 c6 c7 c8 c9 c10
      by_cases he : fs[k].nm = v
      · have hbe : (fs[k].nm.toList == v.toList) = true := by rw [Gate.beq_toList]; simpa using he
        have HB : Hid (Gate.fieldIx fs v = (k : Int)) := Gate.fieldIx_at fs v k hlt hno he
        clear he hno
        go_wp2
        go_ret
        exact ⟨by rw [HB.out]; rfl, rfl⟩
      · have hbe : (fs[k].nm.toList == v.toList) = false := by rw [Gate.beq_toList]; simpa using he
        have HS : Hid (Gate.hasName (fs.take (k + 1)) v = false) := by unfold Hid; rw [Gate.hasName_snoc fs v k hlt, hno, decide_eq_false he]; rfl
        clear he hno
        go_wp2
        go_round
        case rel => exact ⟨k + 1, by omega, by go_num, HS.out⟩
        case measure => simp [intOf]; omega
    · have HA : Hid (Gate.fieldIx fs v = -1) := Gate.fieldIx_none fs v (by rw [← Gate.hasName_all fs v k (by omega)]; exact hno)
      clear hno hw
      go_wp2
      go_ret
      exact ⟨by rw [HA.out]; rfl, rfl⟩

set_option maxHeartbeats 1000000 in
theorem l3Plain_any (a : Option Addr) (cap : Nat) (fs : List Fld) (v : ByteArray) (w : World) (hw : FldsAt w a fs) :
    Calls Tryz.prog 50 #[.slice a fs.length cap, .string v] w fun e w' => e = .returned (.bool (Gate.plain fs v)) ∧ Below w.heap.size w w' := by
  have hl := hw.len
  unfold maxLen at hl
  rcases Gate.field_cases fs v with ⟨h1, h2⟩ | ⟨i, hi, h1, h2, h3⟩
  · have HP : Hid (Gate.plain fs v = false) := Gate.plain_none h2
    go_enter Tryz.func50, Tryz.ntmps50
    go_wp2_with fail
    have h := l3Field_any a cap fs v w hw
    rw [h1] at h
    refine h.mono ?_
    rintro e w1 ⟨rfl, rfl⟩
    clear h
    go_wp2_with fail
    go_ret
    exact ⟨by rw [HP.out]; rfl, Below.refl _ _⟩
  · have HP : Hid (Gate.plain fs v = decide (fs[i].kd ≠ 4)) := Gate.plain_some h3
    obtain ⟨b, off, rfl, hb, hr⟩ := hw.rows (by rintro rfl; simp at hi)
    obtain ⟨wa, wcap, hf0⟩ := hr i hi
    go_enter Tryz.func50, Tryz.ntmps50
    go_wp2_with fail
    have h := l3Field_any (some ⟨b, off, none⟩) cap fs v w hw
    rw [h1] at h
    refine h.mono ?_
    rintro e w1 ⟨rfl, rfl⟩
    obtain ⟨c0, c1, c2, c3, c4, c5, c6, c7, c8, c9, c10⟩ := hf0.load
    have hiI : (i : Int) < (fs.length : Int) := by omega
    have hge : decide ((i : Int) ≥ 0) = true := by simp
    clear h hw hr hf0 h3 h2 h1
    go_wp2_with fail
    go_ret
    exact ⟨by rw [HP.out]; exact kd_ne fs[i].kd, Below.refl _ _⟩

namespace Gate
/-- The specification's look at a mend, part by part. -/
def specOk (fs : List Fld) (m : Mnd) : Bool :=
  plain fs m.fd && (!isSet m.wh || plain fs m.wh) && (!isSet m.fr || plain fs m.fr) && !decide (m.wh = m.fd) && !decide (m.fr = m.fd) && mendTail fs m

theorem isSet_iff (s : ByteArray) : isSet s = true ↔ s ≠ ByteArray.empty := by
  unfold isSet
  rw [isEmpty_of_size]
  constructor
  · intro h e; subst e; simp at h
  · intro h
    simp only [Bool.not_eq_true', decide_eq_false_iff_not]
    intro h0
    apply h
    have : s.data.size = 0 := h0
    cases s with
    | mk d => simp only at this; have := Array.eq_empty_of_size_eq_zero this; subst this; rfl
end Gate

end Go.Proofs.YtliggnanlfbkiaaGreat

namespace Go.Proofs.YtliggnanlfbkiaaGreat
open Go.RowKit

/-- A mend in its box, in a world that came of w. -/
def MBox (w : World) (m : Mnd) (W : World) : Prop := Below w.heap.size w W ∧ w.heap.size < W.heap.size ∧ ∀ j, W.cell? ⟨w.heap.size, j, none⟩ = (#[.string m.kd, .string m.fd, .string m.wh, .string m.wi, .string m.pt, .string m.fr] : Array Value)[j]?

set_option maxRecDepth 20000 in
set_option maxHeartbeats 4000000 in
theorem l3MendOk_yes (a : Option Addr) (cap : Nat) (ss : List Shp) (m : Mnd) (w : World) (hw : ShpsAt w a ss) (hm : m.Small) (hk : Gate.hasKind ss m.kd = true) :
    Calls Tryz.prog 26 #[.slice a ss.length cap, .agg m.cells] w fun e w' => e = .returned (.bool (Gate.specOk (Gate.shapeOf ss m.kd).fs m)) ∧ Below w.heap.size w w' := by
  have hl := hw.len
  unfold maxLen at hl
  unfold Mnd.cells
  have hba := (Below.refl w.heap.size w).alloc (Nat.le_refl _) (.cells #[.string m.kd, .string m.fd, .string m.wh, .string m.wi, .string m.pt, .string m.fr] 60)
  go_enter Tryz.func26, Tryz.ntmps26
  go_wp2_with fail
  refine (l1Shape_yes _ _ _ _ _ (hw.mono hba) hk).mono ?_
  rintro e w1 ⟨ix, hix, rfl, hsh, rfl⟩
  have HSh : Hid (Gate.shapeOf ss m.kd = ss[ix]) := hsh
  obtain ⟨b, off, rfl, hb, hr⟩ := hw.rows (by rintro rfl; simp at hix)
  obtain ⟨fa, fcap, hs⟩ := hr ix hix
  have hcl := hs.list
  have HFL : Hid (FldsAt w fa ss[ix].fs) := hs.flds
  have hixI : (ix : Int) < (ss.length : Int) := by omega
  have hix0 : decide ((ix : Int) < 0) = false := by simp
  have hbw : b < w.heap.size := hb
  have HBA : Hid (Below w.heap.size w (w.alloc (.cells #[.string m.kd, .string m.fd, .string m.wh, .string m.wi, .string m.pt, .string m.fr] 60))) := hba
  clear hr hs hsh hk hw hba
  go_upto_region 5 with fail
  refine wp_world (MBox w m) ⟨HBA.out, by simp, box_new w _ _⟩ ?_
  rintro W1 hW1
  have H1 := hid hW1
  have HP : Hid (∀ v W, MBox w m W → Calls Tryz.prog 50 #[.slice fa ss[ix].fs.length fcap, .string v] W fun e w' => e = .returned (.bool (Gate.plain ss[ix].fs v)) ∧ MBox w m w') := fun v W h => (l3Plain_any fa fcap ss[ix].fs v W (HFL.out.mono h.1)).mono fun e w' ⟨he, hb⟩ => ⟨he, h.1.trans (hb.mono h.1.size), Nat.lt_of_lt_of_le h.2.1 hb.size, box_later h.2.2 h.2.1 hb⟩
  obtain ⟨b1, hb1⟩ : ∃ x, x = !(Gate.plain ss[ix].fs m.fd && (!Gate.isSet m.wh || Gate.plain ss[ix].fs m.wh) && (!Gate.isSet m.fr || Gate.plain ss[ix].fs m.fr)) := ⟨_, rfl⟩
  have HB1 := hid hb1
  clear hb1 hW1 HBA
  go_cut [46] from 7 (fun vx W => vx = .bool b1 ∧ Hid (MBox w m W))
  case first =>
    have cX := H1.out.2.2
    go_wp2_with fail
    refine (HP.out m.fd _ H1.out).mono ?_
    rintro e w2 ⟨rfl, h2⟩
    have H2 := hid h2
    clear h2 cX H1
    have cX := H2.out.2.2
    rcases hp0 : Gate.plain ss[ix].fs m.fd with _ | _
    · go_wp2_with fail
      go_meet
      case rel => exact ⟨by rw [HB1.out]; simp [hp0], H2⟩
    rcases hwh : m.wh.toList.isEmpty with _ | _
    · go_wp2_with fail
      refine (HP.out m.wh _ H2.out).mono ?_
      rintro e w3 ⟨rfl, h3⟩
      have H3 := hid h3
      clear h3 cX H2
      have cX := H3.out.2.2
      rcases hp1 : Gate.plain ss[ix].fs m.wh with _ | _
      · go_wp2_with fail
        go_meet
        case rel => exact ⟨by rw [HB1.out]; simp [Gate.isSet, hp0, hwh, hp1], H3⟩
      rcases hfr : m.fr.toList.isEmpty with _ | _
      · go_wp2_with fail
        refine (HP.out m.fr _ H3.out).mono ?_
        rintro e w4 ⟨rfl, h4⟩
        have H4 := hid h4
        clear h4 cX
        go_wp2_with fail
        go_meet
        case rel => exact ⟨by rw [HB1.out]; simp [Gate.isSet, hp0, hwh, hp1, hfr], H4⟩
      · go_wp2_with fail
        go_meet
        case rel => exact ⟨by rw [HB1.out]; simp [Gate.isSet, hp0, hwh, hp1, hfr], H3⟩
    · skip
      rcases hfr : m.fr.toList.isEmpty with _ | _
      · go_wp2_with fail
        refine (HP.out m.fr _ H2.out).mono ?_
        rintro e w4 ⟨rfl, h4⟩
        have H4 := hid h4
        clear h4 cX
        go_wp2_with fail
        go_meet
        case rel => exact ⟨by rw [HB1.out]; simp [Gate.isSet, hp0, hwh, hfr], H4⟩
      · go_wp2_with fail
        go_meet
        case rel => exact ⟨by rw [HB1.out]; simp [Gate.isSet, hp0, hwh, hfr], H2⟩
  case rest =>
    obtain ⟨rfl, H5⟩ := hcut
    obtain ⟨W5, rfl⟩ : ∃ x, x = wc := ⟨_, rfl⟩
    clear H1
    have cX := H5.out.2.2
    cases b1 with
    | true =>
      have HT : Hid (Gate.specOk ss[ix].fs m = false) := by
        have h := HB1.out
        unfold Hid Gate.specOk
        revert h
        cases Gate.plain ss[ix].fs m.fd <;> cases (!Gate.isSet m.wh || Gate.plain ss[ix].fs m.wh) <;> cases (!Gate.isSet m.fr || Gate.plain ss[ix].fs m.fr) <;> simp
      go_wp2_with fail
      go_ret
      exact ⟨by rw [HSh.out, HT.out]; rfl, H5.out.1⟩
    | false =>
      obtain ⟨b2, hb2⟩ : ∃ x, x = (decide (m.wh = m.fd) || decide (m.fr = m.fd) || (!Gate.isSet m.wh && Gate.isSet m.wi) || (Gate.isSet m.pt == Gate.isSet m.fr)) := ⟨_, rfl⟩
      have HB2 := hid hb2
      clear hb2
      have HS : Hid (Gate.specOk ss[ix].fs m = (!b2 && (!Gate.isSet m.pt || Gate.fitsF (Gate.fieldOf ss[ix].fs m.fd) m.pt)) ∧ Gate.plain ss[ix].fs m.fd = true) := by
        have h := HB1.out
        unfold Hid Gate.specOk Gate.mendTail
        rw [HB2.out]
        revert h
        cases Gate.plain ss[ix].fs m.fd <;> cases (!Gate.isSet m.wh || Gate.plain ss[ix].fs m.wh) <;> cases (!Gate.isSet m.fr || Gate.plain ss[ix].fs m.fr) <;> simp [Bool.or_assoc, Bool.and_assoc]
      go_upto_region 7 with fail
      go_cut [77] from 7 (fun vx W => vx = .bool b2 ∧ Hid (MBox w m W))
      case first =>
        by_cases e1 : m.wh = m.fd
        · have he1 : (m.wh.toList == m.fd.toList) = true := by rw [Gate.beq_toList]; simpa using e1
          have HE := hid e1
          clear e1
          go_wp2_with fail
          go_meet
          case rel => exact ⟨by rw [HB2.out]; simp [HE.out], H5⟩
        have he1 : (m.wh.toList == m.fd.toList) = false := by rw [Gate.beq_toList]; simpa using e1
        have HE1 := hid e1
        clear e1
        by_cases e2 : m.fr = m.fd
        · have he2 : (m.fr.toList == m.fd.toList) = true := by rw [Gate.beq_toList]; simpa using e2
          have HE := hid e2
          clear e2
          go_wp2_with fail
          go_meet
          case rel => exact ⟨by rw [HB2.out]; simp [HE.out], H5⟩
        have he2 : (m.fr.toList == m.fd.toList) = false := by rw [Gate.beq_toList]; simpa using e2
        have HE2 := hid e2
        clear e2
        rcases hwh : m.wh.toList.isEmpty with _ | _ <;> rcases hwi : m.wi.toList.isEmpty with _ | _ <;> rcases hpt : m.pt.toList.isEmpty with _ | _ <;> rcases hfr : m.fr.toList.isEmpty with _ | _ <;> (go_wp2_with fail; go_meet; case rel => exact ⟨by rw [HB2.out]; simp [Gate.isSet, HE1.out, HE2.out, hwh, hwi, hpt, hfr], H5⟩)
      case rest =>
        obtain ⟨rfl, H7⟩ := hcut
        obtain ⟨W7, rfl⟩ : ∃ x, x = wc := ⟨_, rfl⟩
        clear H5 cX
        have cX := H7.out.2.2
        cases b2 with
        | true =>
          go_wp2_with fail
          go_ret
          exact ⟨by rw [HSh.out, HS.out.1]; rfl, H7.out.1⟩
        | false =>
          have hp0 := HS.out.2
          rcases hpt : m.pt.toList.isEmpty with _ | _
          · have HT : Hid (Gate.specOk ss[ix].fs m = Gate.fitsF (Gate.fieldOf ss[ix].fs m.fd) m.pt) := by unfold Hid; rw [HS.out.1]; simp [Gate.isSet, hpt]
            go_wp2_with fail
            obtain ⟨fi, hfi, hixx, hfind⟩ : ∃ fi, ∃ h : fi < ss[ix].fs.length, Gate.fieldIx ss[ix].fs m.fd = (fi : Int) ∧ ss[ix].fs.find? (fun f => decide (f.nm = m.fd)) = some ss[ix].fs[fi] := by
              rcases Gate.field_cases ss[ix].fs m.fd with ⟨_, h2⟩ | ⟨fi, hfi, h1, _, h3⟩
              · rw [Gate.plain_none h2] at hp0; cases hp0
              · exact ⟨fi, hfi, h1, h3⟩
            have HFO : Hid (Gate.fieldOf ss[ix].fs m.fd = ss[ix].fs[fi]) := by unfold Hid Gate.fieldOf; rw [hfind]; rfl
            obtain ⟨fb, foff, rfl, hfb, hrows⟩ := HFL.out.rows (by intro e; rw [e] at hfi; simp at hfi)
            obtain ⟨wa, wcap, hf0⟩ := hrows fi hfi
            have HFI : Hid (∀ W, Below w.heap.size w W → FldIn W fb (foff + fi * 11) ss[ix].fs[fi] wa wcap) := fun W hb => hf0.mono hfb hb
            have hfiI : (fi : Int) < (ss[ix].fs.length : Int) := by omega
            have hbc : Below w.heap.size w W7.drew := H7.out.1.drew
            have HXw : Hid (∀ j, W7.cell? ⟨w.heap.size, j, none⟩ = (#[.string m.kd, .string m.fd, .string m.wh, .string m.wi, .string m.pt, .string m.fr] : Array Value)[j]?) := H7.out.2.2
            have hbW : Below W7.heap.size W7 W7.drew := (Below.refl _ _).drew
            have hXc := box_later HXw.out H7.out.2.1 hbW
            have hL := (HFI.out _ hbc).load
            have HFX : Hid (∀ W, Below w.heap.size w W → Calls Tryz.prog 52 #[.slice (some ⟨fb, foff, none⟩) ss[ix].fs.length fcap, .string m.fd] W fun e w' => e = .returned (.int .i64 (fi : Int)) ∧ w' = W) := by
              intro W hb
              have h := l3Field_any (some ⟨fb, foff, none⟩) fcap ss[ix].fs m.fd W (HFL.out.mono hb)
              rw [hixx] at h
              exact h
            have HPT : Hid (m.pt.size ≤ maxLen) := hm.pt
            clear hrows hf0 hfind hixx
            go_region_held3 (fun w' => (∀ j, w'.cell? ⟨w.heap.size, j, none⟩ = (#[.string m.kd, .string m.fd, .string m.wh, .string m.wi, .string m.pt, .string m.fr] : Array Value)[j]?) ∧ w'.cell? ⟨fb, foff + fi * 11, none⟩ = some (.string ss[ix].fs[fi].nm) ∧ w'.cell? ⟨fb, foff + fi * 11 + 1, none⟩ = some (.int .i64 ss[ix].fs[fi].kd) ∧ w'.cell? ⟨fb, foff + fi * 11 + 2, none⟩ = some (.int .i64 ss[ix].fs[fi].ls) ∧ w'.cell? ⟨fb, foff + fi * 11 + 3, none⟩ = some (.int .i64 ss[ix].fs[fi].ms) ∧ w'.cell? ⟨fb, foff + fi * 11 + 4, none⟩ = some (.slice wa ss[ix].fs[fi].ws.length wcap) ∧ w'.cell? ⟨fb, foff + fi * 11 + 5, none⟩ = some (.string ss[ix].fs[fi].to) ∧ w'.cell? ⟨fb, foff + fi * 11 + 6, none⟩ = some (.int .i64 ss[ix].fs[fi].rl) ∧ w'.cell? ⟨fb, foff + fi * 11 + 7, none⟩ = some (.bool ss[ix].fs[fi].mu) ∧ w'.cell? ⟨fb, foff + fi * 11 + 8, none⟩ = some (.bool ss[ix].fs[fi].fx) ∧ w'.cell? ⟨fb, foff + fi * 11 + 9, none⟩ = some (.string ss[ix].fs[fi].df) ∧ w'.cell? ⟨fb, foff + fi * 11 + 10, none⟩ = some (.string ss[ix].fs[fi].wg)) (exact ⟨hXc, hL⟩) (first
              | (go_at_call 52; refine (HFX.out _ hbc).mono ?_; rintro e w5 ⟨rfl, rfl⟩)
              | (go_at_call 51; refine (specFits_any _ _ _ _ _ _ _ _ _ _ _ _ _ _ _ HPT.out (by exact (HFI.out _ hbc).strs)).mono ?_; rintro e w5 ⟨rfl, hb5⟩; have hbW := hbW.trans (hb5.mono hbW.size); have hbc := hbc.trans (hb5.mono hbc.size); have hXc := box_later HXw.out H7.out.2.1 hbW; have hL := (HFI.out _ hbc).load; clear hb5))
            go_wp2_with fail
            go_ret
            exact ⟨by rw [HSh.out, HT.out, HFO.out]; rfl, hbc⟩
          · have HT : Hid (Gate.specOk ss[ix].fs m = true) := by unfold Hid; rw [HS.out.1]; simp [Gate.isSet, hpt]
            go_wp2_with fail
            go_quiet (fail)
            go_wp2_with fail
            go_ret
            exact ⟨by rw [HSh.out, HT.out]; rfl, below_drewN H7.out.1 _⟩

end Go.Proofs.YtliggnanlfbkiaaGreat

namespace Go.Proofs.YtliggnanlfbkiaaGreat
open Go.RowKit

namespace Gate
def mendReady (kd fld : ByteArray) (row : List ByteArray) (m : Mnd) : Bool := !(decide (m.kd = kd) && decide (m.fd = fld)) || ((!isSet m.wh || has row m.wh) && (!isSet m.fr || has row m.fr))
def readyN (ms : List Mnd) (kd fld : ByteArray) (row : List ByteArray) : Bool := ms.all (mendReady kd fld row)
end Gate

set_option maxRecDepth 20000 in
set_option maxHeartbeats 4000000 in
theorem l3Ready_any (a ra : Option Addr) (cap rcap : Nat) (ms : List Mnd) (kd fld : ByteArray) (row : List ByteArray) (w : World) (hm : MndsAt w a ms) (hr : StrsAt w ra row) (hml : ms.length ≤ 12) :
    Calls Tryz.prog 54 #[.slice a ms.length cap, .string kd, .string fld, .slice ra row.length rcap] w fun e w' => e = .returned (.bool (Gate.readyN ms kd fld row)) ∧ Below w.heap.size w w' := by
  have HM := hid2 hm hr
  clear hm hr
  go_enter Tryz.func54, Tryz.ntmps54
  go_wp2_with fail
  go_loopw [9] (fun iv wr => ∃ k : Nat, k ≤ ms.length ∧ iv = .int .i64 k ∧ (ms.take k).all (Gate.mendReady kd fld row) = true ∧ Below w.heap.size w wr) (fun iv _ => ms.length - (intOf iv).toNat)
  case atStart => exact ⟨0, Nat.zero_le _, rfl, rfl, Below.refl _ _⟩
  case round =>
    obtain ⟨k, hk, rfl, hall, hB⟩ := hrel
    have HB := hid hB
    have HA : Hid ((ms.take k).all (Gate.mendReady kd fld row) = true) := hall
    by_cases hlt : k < ms.length
    · obtain ⟨b, off, rfl, hb, c0, c1, c2, c3, c4, c5⟩ := HM.out.1.load hB k hlt
      have hltI : (k : Int) < (ms.length : Int) := by omega
      have HTK : Hid ((ms.take (k + 1)).all (Gate.mendReady kd fld row) = Gate.mendReady kd fld row ms[k]) := by
        unfold Hid; rw [List.take_succ_eq_append_getElem hlt, List.all_append, HA.out]; simp
      have HNO : Hid (Gate.mendReady kd fld row ms[k] = false → Gate.readyN ms kd fld row = false) := by
        intro h
        unfold Gate.readyN
        rw [List.all_eq_false]; exact ⟨_, List.getElem_mem hlt, by rw [h]; simp⟩
      have HBA : Hid (Below w.heap.size w (wr.alloc (.cells #[.string ms[k].kd, .string ms[k].fd, .string ms[k].wh, .string ms[k].wi, .string ms[k].pt, .string ms[k].fr] 60))) := hB.alloc hB.size _
      clear hall hB HA
      by_cases e1 : ms[k].kd = kd
      rotate_left
      · have he1 : (ms[k].kd.toList == kd.toList) = false := by rw [Gate.beq_toList]; simpa using e1
        have HY : Hid (Gate.mendReady kd fld row ms[k] = true) := by unfold Hid Gate.mendReady; simp [e1]
        clear e1
        go_wp2_with fail
        exact ⟨⟨k + 1, by omega, by go_num, by rw [HTK.out]; exact HY.out, HBA.out⟩, step_less' hlt⟩
      have he1 : (ms[k].kd.toList == kd.toList) = true := by rw [Gate.beq_toList]; simpa using e1
      by_cases e2 : ms[k].fd = fld
      rotate_left
      · have he2 : (ms[k].fd.toList == fld.toList) = false := by rw [Gate.beq_toList]; simpa using e2
        have HY : Hid (Gate.mendReady kd fld row ms[k] = true) := by unfold Hid Gate.mendReady; simp [e2]
        clear e1 e2
        go_wp2_with fail
        exact ⟨⟨k + 1, by omega, by go_num, by rw [HTK.out]; exact HY.out, HBA.out⟩, step_less' hlt⟩
      have he2 : (ms[k].fd.toList == fld.toList) = true := by rw [Gate.beq_toList]; simpa using e2
      have HRD : Hid (Gate.mendReady kd fld row ms[k] = ((!Gate.isSet ms[k].wh || Gate.has row ms[k].wh) && (!Gate.isSet ms[k].fr || Gate.has row ms[k].fr))) := by unfold Hid Gate.mendReady; simp [e1, e2]
      clear e1 e2
      rcases hwh : ms[k].wh.toList.isEmpty with _ | _ <;> rcases hfr : ms[k].fr.toList.isEmpty with _ | _
      all_goals go_wp2_with fail
      · skip
        have h := l1Has_any ra rcap row ms[k].wh _ (HM.out.2.mono HBA.out)
        rcases hh1 : Gate.has row ms[k].wh with _ | _
        · rw [hh1] at h
          refine h.mono ?_
          rintro e w3 ⟨rfl, rfl⟩
          have HF : Hid (Gate.readyN ms kd fld row = false) := HNO.out (by rw [HRD.out]; unfold Gate.isSet; simp [*])
          clear h
          go_wp2_with fail
          go_ret
          exact ⟨by rw [HF.out]; rfl, HBA.out⟩
        · rw [hh1] at h
          refine h.mono ?_
          rintro e w3 ⟨rfl, rfl⟩
          clear h
          go_wp2_with fail
          have h := l1Has_any ra rcap row ms[k].fr _ (HM.out.2.mono HBA.out)
          rcases hh2 : Gate.has row ms[k].fr with _ | _
          · rw [hh2] at h
            refine h.mono ?_
            rintro e w3 ⟨rfl, rfl⟩
            have HF : Hid (Gate.readyN ms kd fld row = false) := HNO.out (by rw [HRD.out]; unfold Gate.isSet; simp [*])
            clear h
            go_wp2_with fail
            go_ret
            exact ⟨by rw [HF.out]; rfl, HBA.out⟩
          · rw [hh2] at h
            refine h.mono ?_
            rintro e w3 ⟨rfl, rfl⟩
            clear h
            go_wp2_with fail
            have HY : Hid (Gate.mendReady kd fld row ms[k] = true) := by unfold Hid; rw [HRD.out]; unfold Gate.isSet; simp [*]
            exact ⟨⟨k + 1, by omega, by go_num, by rw [HTK.out]; exact HY.out, HBA.out⟩, step_less' hlt⟩
      · skip
        have h := l1Has_any ra rcap row ms[k].wh _ (HM.out.2.mono HBA.out)
        rcases hh1 : Gate.has row ms[k].wh with _ | _
        · rw [hh1] at h
          refine h.mono ?_
          rintro e w3 ⟨rfl, rfl⟩
          have HF : Hid (Gate.readyN ms kd fld row = false) := HNO.out (by rw [HRD.out]; unfold Gate.isSet; simp [*])
          clear h
          go_wp2_with fail
          go_ret
          exact ⟨by rw [HF.out]; rfl, HBA.out⟩
        · rw [hh1] at h
          refine h.mono ?_
          rintro e w3 ⟨rfl, rfl⟩
          clear h
          go_wp2_with fail
          have HY : Hid (Gate.mendReady kd fld row ms[k] = true) := by unfold Hid; rw [HRD.out]; unfold Gate.isSet; simp [*]
          exact ⟨⟨k + 1, by omega, by go_num, by rw [HTK.out]; exact HY.out, HBA.out⟩, step_less' hlt⟩
      · skip
        have h := l1Has_any ra rcap row ms[k].fr _ (HM.out.2.mono HBA.out)
        rcases hh2 : Gate.has row ms[k].fr with _ | _
        · rw [hh2] at h
          refine h.mono ?_
          rintro e w3 ⟨rfl, rfl⟩
          have HF : Hid (Gate.readyN ms kd fld row = false) := HNO.out (by rw [HRD.out]; unfold Gate.isSet; simp [*])
          clear h
          go_wp2_with fail
          go_ret
          exact ⟨by rw [HF.out]; rfl, HBA.out⟩
        · rw [hh2] at h
          refine h.mono ?_
          rintro e w3 ⟨rfl, rfl⟩
          clear h
          go_wp2_with fail
          have HY : Hid (Gate.mendReady kd fld row ms[k] = true) := by unfold Hid; rw [HRD.out]; unfold Gate.isSet; simp [*]
          exact ⟨⟨k + 1, by omega, by go_num, by rw [HTK.out]; exact HY.out, HBA.out⟩, step_less' hlt⟩
      · skip
        have HY : Hid (Gate.mendReady kd fld row ms[k] = true) := by unfold Hid; rw [HRD.out]; unfold Gate.isSet; simp [*]
        exact ⟨⟨k + 1, by omega, by go_num, by rw [HTK.out]; exact HY.out, HBA.out⟩, step_less' hlt⟩
    · have e : k = ms.length := by omega
      rw [e, List.take_of_length_le (Nat.le_refl _)] at hall
      have HF : Hid (Gate.readyN ms kd fld row = true) := hall
      subst e
      clear hall HA hB
      go_wp2_with fail
      go_ret
      exact ⟨by rw [HF.out]; rfl, HB.out⟩

end Go.Proofs.YtliggnanlfbkiaaGreat
