import Derived.Test.YtpmlngcljbkchaaGreatM37
import Derived.Test.YtpmlngcljbkchaaGreatM39
import Derived.Test.YtpmlngcljbkchaaGreatM30
namespace Go.Proofs.YtpmlngcljbkchaaGreat
open Go.RowKit

namespace Gate
def specAt (ss : List Shp) (m : Mnd) : Bool := hasKind ss m.kd && specOk (shapeOf ss m.kd).fs m
def rowOkS (ms : List Mnd) (s : Shp) : Bool := decide ((greedyN s ms s.fs.length).length = s.fs.length)
def mendsOkS (ss : List Shp) (ms : List Mnd) : Bool := shapesOk ss && decide (ms.length ≤ 12) && ms.all (specAt ss) && ss.all (rowOkS ms)
end Gate

set_option maxHeartbeats 1000000 in
theorem l3MendOk_any (a : Option Addr) (cap : Nat) (ss : List Shp) (m : Mnd) (w : World) (hw : ShpsAt w a ss) (hm : m.Small) :
    Calls Tryz.prog 61 #[.slice a ss.length cap, .agg m.cells] w fun e w' => e = .returned (.bool (Gate.specAt ss m)) ∧ Below w.heap.size w w' := by
  by_cases hk : Gate.hasKind ss m.kd = true
  · refine (l3MendOk_yes a cap ss m w hw hm hk).mono ?_
    rintro e w' ⟨rfl, hb⟩
    exact ⟨by unfold Gate.specAt; rw [hk]; rfl, hb⟩
  · have hkf : Gate.hasKind ss m.kd = false := by simpa using hk
    have HF : Hid (Gate.specAt ss m = false) := by unfold Hid Gate.specAt; rw [hkf]; rfl
    unfold Mnd.cells
    have hba := (Below.refl w.heap.size w).alloc (Nat.le_refl _) (.cells #[.string m.kd, .string m.fd, .string m.wh, .string m.wi, .string m.pt, .string m.fr] 90)
    go_enter Tryz.func61, Tryz.ntmps61
    go_wp2_with fail
    refine (l1Shape_no _ _ _ _ _ (hw.mono hba) hkf).mono ?_
    rintro e w1 ⟨rfl, rfl⟩
    go_wp2_with fail
    go_ret
    exact ⟨by rw [HF.out]; rfl, hba⟩

set_option maxRecDepth 20000 in
set_option maxHeartbeats 4000000 in
theorem specMendsOk_any (a a' : Option Addr) (cap cap' : Nat) (ss : List Shp) (ms : List Mnd) (w : World) (hw : ShpsAt w a ss) (hm : MndsAt w a' ms) :
    Calls Tryz.prog 35 #[.slice a ss.length cap, .slice a' ms.length cap'] w fun e w' => e = .returned (.bool (Gate.mendsOkS ss ms)) ∧ Below w.heap.size w w' := by
  have HW : Hid (ShpsAt w a ss ∧ MndsAt w a' ms) := ⟨hw, hm⟩
  have hl := hw.len
  have hml := hm.len
  unfold maxLen at hl hml
  clear hw hm
  by_cases hok : Gate.shapesOk ss = true
  rotate_left
  · have hokf : Gate.shapesOk ss = false := by simpa using hok
    have HF : Hid (Gate.mendsOkS ss ms = false) := by unfold Hid Gate.mendsOkS; rw [hokf]; simp
    go_enter Tryz.func35, Tryz.ntmps35
    go_wp2_with fail
    have h := specShapesOk_any a cap ss w HW.out.1
    rw [hokf] at h
    refine h.mono ?_
    rintro e w1 ⟨rfl, hb1⟩
    clear h
    go_wp2_with fail
    go_ret
    exact ⟨by rw [HF.out]; rfl, hb1⟩
  have HOK : Hid (Gate.shapesOk ss = true) := hok
  by_cases h12 : ms.length ≤ 12
  rotate_left
  · have HF : Hid (Gate.mendsOkS ss ms = false) := by unfold Hid Gate.mendsOkS; rw [decide_eq_false h12]; simp
    go_enter Tryz.func35, Tryz.ntmps35
    go_wp2_with fail
    have h := specShapesOk_any a cap ss w HW.out.1
    rw [hok] at h
    refine h.mono ?_
    rintro e w1 ⟨rfl, hb1⟩
    clear h hok
    go_wp2_with fail
    go_ret
    exact ⟨by rw [HF.out]; rfl, hb1⟩
  have h12I : (ms.length : Int) ≤ 12 := by omega
  go_enter Tryz.func35, Tryz.ntmps35
  go_wp2_with fail
  have h := specShapesOk_any a cap ss w HW.out.1
  rw [hok] at h
  refine h.mono ?_
  rintro e w1 ⟨rfl, hb1⟩
  have HB1 : Hid (Below w.heap.size w w1) := hb1
  clear h hok hb1
  go_wp2_with fail
  go_loopw [5] (fun iv wr => ∃ k : Nat, k ≤ ms.length ∧ iv = .int .i64 k ∧ (ms.take k).all (Gate.specAt ss) = true ∧ Below w.heap.size w wr) (fun iv _ => ms.length - (intOf iv).toNat)
  case atStart => exact ⟨0, Nat.zero_le _, rfl, rfl, HB1.out⟩
  case round =>
    obtain ⟨k, hk, rfl, hall, hB⟩ := hrel
    have HB : Hid (Below w.heap.size w wr) := hB
    have HA : Hid ((ms.take k).all (Gate.specAt ss) = true) := hall
    clear hall hB
    by_cases hlt : k < ms.length
    · obtain ⟨b, off, rfl, hb, c0, c1, c2, c3, c4, c5⟩ := HW.out.2.load HB.out k hlt
      have hltI : (k : Int) < (ms.length : Int) := by omega
      have HSM : Hid (ms[k].Small) := HW.out.2.small k hlt
      have HTK : Hid ((ms.take (k + 1)).all (Gate.specAt ss) = Gate.specAt ss ms[k]) := by
        unfold Hid; rw [List.take_succ_eq_append_getElem hlt, List.all_append, HA.out]; simp
      have HNO : Hid (Gate.specAt ss ms[k] = false → Gate.mendsOkS ss ms = false) := by
        intro h
        have : ms.all (Gate.specAt ss) = false := by rw [List.all_eq_false]; exact ⟨_, List.getElem_mem hlt, by rw [h]; simp⟩
        unfold Gate.mendsOkS; rw [this]; simp
      go_wp2_with fail
      have h := l3MendOk_any a cap ss ms[k] wr (HW.out.1.mono HB.out) HSM.out
      rcases hh : Gate.specAt ss ms[k] with _ | _
      · rw [hh] at h
        refine h.mono ?_
        rintro e w3 ⟨rfl, hb3⟩
        have HF : Hid (Gate.mendsOkS ss ms = false ∧ Below w.heap.size w w3) := ⟨HNO.out hh, HB.out.trans (hb3.mono HB.out.size)⟩
        clear h hb3 hh c0 c1 c2 c3 c4 c5
        go_wp2_with fail
        go_ret
        exact ⟨by rw [HF.out.1]; rfl, HF.out.2⟩
      · rw [hh] at h
        refine h.mono ?_
        rintro e w3 ⟨rfl, hb3⟩
        have HY : Hid ((ms.take (k + 1)).all (Gate.specAt ss) = true ∧ Below w.heap.size w w3) := ⟨by rw [HTK.out]; exact hh, HB.out.trans (hb3.mono HB.out.size)⟩
        clear h hb3 hh c0 c1 c2 c3 c4 c5
        go_wp2_with fail
        exact ⟨⟨k + 1, by omega, by go_num, HY.out.1, HY.out.2⟩, step_less' hlt⟩
    · have e : k = ms.length := by omega
      have hall := HA.out
      rw [e, List.take_of_length_le (Nat.le_refl _)] at hall
      have HALL : Hid (ms.all (Gate.specAt ss) = true) := hall
      subst e
      clear hall HA
      go_wp2_with fail
      have HBw : Hid (Below w.heap.size w wr) := HB.out
      clear HB
      go_loopw [6] (fun iv wq => ∃ k : Nat, k ≤ ss.length ∧ iv = .int .i64 k ∧ (ss.take k).all (Gate.rowOkS ms) = true ∧ Below w.heap.size w wq) (fun iv _ => ss.length - (intOf iv).toNat)
      case atStart => exact ⟨0, Nat.zero_le _, rfl, rfl, HBw.out⟩
      case round =>
        obtain ⟨k, hk, rfl, hall, hB⟩ := hrel
        have HB : Hid (Below w.heap.size w wr) := hB
        have HA : Hid ((ss.take k).all (Gate.rowOkS ms) = true) := hall
        clear hall hB
        by_cases hlt : k < ss.length
        · obtain ⟨b, off, rfl, hb, hr⟩ := HW.out.1.rows (by rintro rfl; simp at hlt)
          obtain ⟨fa, fcap, hs0⟩ := hr k hlt
          have HSI : Hid (∀ W, Below w.heap.size w W → ShpIn W b (off + k * 2) ss[k] fa fcap) := fun W hbb => hs0.mono hb hbb
          have hck := (HSI.out _ HB.out).kind
          have hcl := (HSI.out _ HB.out).list
          have hltI : (k : Int) < (ss.length : Int) := by omega
          have HTK : Hid ((ss.take (k + 1)).all (Gate.rowOkS ms) = Gate.rowOkS ms ss[k]) := by
            unfold Hid; rw [List.take_succ_eq_append_getElem hlt, List.all_append, HA.out]; simp
          have HNO : Hid (Gate.rowOkS ms ss[k] = false → Gate.mendsOkS ss ms = false) := by
            intro h
            have : ss.all (Gate.rowOkS ms) = false := by rw [List.all_eq_false]; exact ⟨_, List.getElem_mem hlt, by rw [h]; simp⟩
            unfold Gate.mendsOkS; rw [this]; simp
          have HFW : Hid (ss[k].fs.length ≤ 6) := Gate.fields_few HOK.out k hlt
          clear hr hs0
          go_wp2_with fail
          have hbc : Below w.heap.size w wr.drew := HB.out.drew
          have hL := (⟨(HSI.out _ hbc).kind, (HSI.out _ hbc).list⟩ : _ ∧ _)
          go_region_held3 (fun w' => w'.cell? ⟨b, off + k * 2, none⟩ = some (.string ss[k].kd) ∧ w'.cell? ⟨b, off + k * 2 + 1, none⟩ = some (.slice fa ss[k].fs.length fcap)) (exact hL) (first
            | (go_at_call 62; refine (l3Row_any fa a' fcap cap' ss[k] ms _ (by exact (HSI.out _ hbc).flds) (by exact HW.out.2.mono hbc) h12 HFW.out).mono ?_; rintro e w5 ⟨v5, rfl, hrow, hb5⟩; obtain ⟨ra, rcap, rfl⟩ := ownsRow_slice hrow; have hbc := hbc.trans (hb5.mono hbc.size); have hL := (⟨(HSI.out _ hbc).kind, (HSI.out _ hbc).list⟩ : _ ∧ _); clear hb5 hrow))
          by_cases hrk : (Gate.greedyN ss[k] ms ss[k].fs.length).length = ss[k].fs.length
          · have hrI : (((Gate.greedyN ss[k] ms ss[k].fs.length).length : Int) != (ss[k].fs.length : Int)) = false := by rw [hrk]; simp
            have HY : Hid ((ss.take (k + 1)).all (Gate.rowOkS ms) = true) := by unfold Hid; rw [HTK.out]; unfold Gate.rowOkS; exact decide_eq_true hrk
            clear hrk
            go_wp2_with fail
            exact ⟨⟨k + 1, by omega, by go_num, HY.out, hbc⟩, step_less' hlt⟩
          · have hrI : (((Gate.greedyN ss[k] ms ss[k].fs.length).length : Int) != (ss[k].fs.length : Int)) = true := by rw [bne_iff_ne]; omega
            have HF : Hid (Gate.mendsOkS ss ms = false) := HNO.out (by unfold Gate.rowOkS; exact decide_eq_false hrk)
            clear hrk
            go_wp2_with fail
            go_ret
            exact ⟨by rw [HF.out]; rfl, hbc⟩
        · have e : k = ss.length := by omega
          have hall := HA.out
          rw [e, List.take_of_length_le (Nat.le_refl _)] at hall
          have HF : Hid (Gate.mendsOkS ss ms = true) := by unfold Hid Gate.mendsOkS; rw [HALL.out, HOK.out, hall, decide_eq_true h12]; rfl
          subst e
          clear hall HA
          go_wp2_with fail
          go_ret
          exact ⟨by rw [HF.out]; rfl, HB.out⟩

end Go.Proofs.YtpmlngcljbkchaaGreat
