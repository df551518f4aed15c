import Derived.Test.YtbefjngbilakjaaM17
import Derived.Test.YtbefjngbilakjaaM14
import Derived.Test.YtbefjngbilakjaaM05
import Derived.Deep.RegionWith
import Derived.Test.YtbefjngbilakjaaM06
import Derived.Test.YtbefjngbilakjaaM03
import Derived.Test.YtbefjngbilakjaaM07
namespace Go.Proofs.Ytbefjngbilakjaa
open Go.RowKit

set_option maxRecDepth 20000 in
set_option maxHeartbeats 4000000 in
theorem implMendsOk_any (a a' : Option Addr) (cap cap' : Nat) (ss : List Shp) (ms : List Mnd) (w : World) (hw : ShpsAt w a ss) (hm : MndsAt w a' ms) (hml : ms.length ≤ 1048576) :
    Calls Try.prog 28 #[.slice a ss.length cap, .slice a' ms.length cap'] w fun e w' => e = .returned (.bool (Gate.mendsOk ss ms)) ∧ Below w.heap.size w w' := by
  have HW : Hid (ShpsAt w a ss ∧ MndsAt w a' ms) := ⟨hw, hm⟩
  have hl := hw.len
  unfold maxLen at hl
  clear hw hm
  by_cases h12 : ms.length ≤ 12
  rotate_left
  · have HF : Hid (Gate.mendsOk ss ms = false) := by unfold Hid Gate.mendsOk; rw [decide_eq_false h12]; simp
    go_enter Try.func28, Try.ntmps28
    go_wp2_with fail
    go_ret
    exact ⟨by rw [HF.out]; rfl, Below.refl _ _⟩
  have h12I : (ms.length : Int) ≤ 12 := by omega
  by_cases hok : Gate.shapesOk ss = true
  rotate_left
  · have hokf : Gate.shapesOk ss = false := by simpa using hok
    have HF : Hid (Gate.mendsOk ss ms = false) := by unfold Hid Gate.mendsOk; rw [hokf]; simp
    go_enter Try.func28, Try.ntmps28
    go_wp2_with fail
    have h := implShapesOk_any a cap ss w HW.out.1
    rw [hokf] at h
    refine h.mono ?_
    rintro e w1 ⟨rfl, hb1⟩
    clear h
    go_wp2_with fail
    go_ret
    exact ⟨by rw [HF.out]; rfl, hb1⟩
  have HOK : Hid (Gate.shapesOk ss = true) := hok
  go_enter Try.func28, Try.ntmps28
  go_wp2_with fail
  have h := implShapesOk_any a cap ss w HW.out.1
  rw [hok] at h
  refine h.mono ?_
  rintro e w1 ⟨rfl, hb1⟩
  have HB1 : Hid (Below w.heap.size w w1) := hb1
  clear h hb1 hok
  go_wp2_with fail
  refine (fieldKinds_any _).mono ?_
  rintro e w2 ⟨rfl, hw2⟩
  have HB2 : Hid (Below w.heap.size w w2 ∧ w2.heap[w1.heap.size]? = some (.map kindEs 4) ∧ w1.heap.size < w2.heap.size) := by
    rw [hw2]; exact ⟨HB1.out.trans (((Below.refl _ _).alloc (Nat.le_refl _) _).mono HB1.out.size), alloc_at _ _, by simp⟩
  clear hw2
  go_wp2_with fail
  go_loopw [25] (fun iv wr => ∃ k : Nat, k ≤ ms.length ∧ iv = .int .i64 k ∧ (ms.take k).all (Gate.mendAt ss) = true ∧ Below w2.heap.size w2 wr) (fun iv _ => ms.length - (intOf iv).toNat)
  case atStart => exact ⟨0, Nat.zero_le _, rfl, rfl, Below.refl _ _⟩
  case round =>
    obtain ⟨k, hk, rfl, hall, hB⟩ := hrel
    have HB : Hid (Below w2.heap.size w2 wr ∧ Below w.heap.size w wr) := ⟨hB, HB2.out.1.trans (hB.mono HB2.out.1.size)⟩
    have HA : Hid ((ms.take k).all (Gate.mendAt ss) = true) := hall
    clear hall hB
    by_cases hlt : k < ms.length
    · obtain ⟨b, off, rfl, hb, c0, c1, c2, c3, c4, c5⟩ := HW.out.2.load HB.out.2 k hlt
      have hltI : (k : Int) < (ms.length : Int) := by omega
      have hsm := HW.out.2.small k hlt
      have HTK : Hid ((ms.take (k + 1)).all (Gate.mendAt ss) = Gate.mendAt ss ms[k]) := by
        unfold Hid; rw [List.take_succ_eq_append_getElem hlt, List.all_append, HA.out]; simp
      have HNO : Hid (Gate.mendAt ss ms[k] = false → Gate.mendsOk ss ms = false) := by
        intro h
        have : ms.all (Gate.mendAt ss) = false := by rw [List.all_eq_false]; exact ⟨_, List.getElem_mem hlt, by rw [h]; simp⟩
        unfold Gate.mendsOk; rw [this]; simp
      have hba := (Below.refl wr.heap.size wr).alloc (Nat.le_refl _) (.cells #[.string ms[k].kd, .string ms[k].fd, .string ms[k].wh, .string ms[k].wi, .string ms[k].pt, .string ms[k].fr] 86)
      have HSM : Hid (ms[k].Small) := hsm
      clear hsm
      go_wp2_with fail
      have h := shapeOf_any a cap ss ms[k].kd _ (HW.out.1.mono (HB.out.2.trans (hba.mono HB.out.2.size)))
      by_cases hkk : Gate.hasKind ss ms[k].kd = true
      rotate_left
      · have hkf : Gate.hasKind ss ms[k].kd = false := by simpa using hkk
        rw [hkf] at h
        refine h.mono ?_
        rintro e w3 ⟨fa, fcap, rfl, hfl, hb3⟩
        have HF : Hid (Gate.mendsOk ss ms = false ∧ Below w.heap.size w w3) := ⟨HNO.out (by unfold Gate.mendAt; rw [hkf]; rfl), HB.out.2.trans ((hba.trans (hb3.mono hba.size)).mono HB.out.2.size)⟩
        clear h hba hfl hb3 c0 c1 c2 c3 c4 c5
        go_wp2_with fail
        go_ret
        exact ⟨by rw [HF.out.1]; rfl, HF.out.2.alloc HF.out.2.size _⟩
      rw [hkk] at h
      refine h.mono ?_
      rintro e w3 ⟨fa, fcap, rfl, hfl, hb3⟩
      have hX3 := box_later (box_new wr _ _) (by simp) hb3
      have hz3 : wr.heap.size < w3.heap.size := by have := hb3.size; simp at this; omega
      have HB3 : Hid (Below wr.heap.size wr w3) := hba.trans (hb3.mono hba.size)
      have hbs := (Below.refl w3.heap.size w3).alloc (Nat.le_refl _) (.cells #[.string (Gate.shapeOf ss ms[k].kd).kd, .slice fa (Gate.shapeOf ss ms[k].kd).fs.length fcap] 71)
      have HB4 : Hid (Below wr.heap.size wr (w3.alloc (.cells #[.string (Gate.shapeOf ss ms[k].kd).kd, .slice fa (Gate.shapeOf ss ms[k].kd).fs.length fcap] 71))) := HB3.out.trans (hbs.mono HB3.out.size)
      have HFL : Hid (FldsAt (w3.alloc (.cells #[.string (Gate.shapeOf ss ms[k].kd).kd, .slice fa (Gate.shapeOf ss ms[k].kd).fs.length fcap] 71)) fa (Gate.shapeOf ss ms[k].kd).fs) := (hfl.mono hb3).mono hbs
      have HMA : Hid (Gate.mendAt ss ms[k] = Gate.mendOk (Gate.shapeOf ss ms[k].kd).fs ms[k]) := by unfold Hid Gate.mendAt; rw [hkk]; simp
      have HRM : Hid ((w3.alloc (.cells #[.string (Gate.shapeOf ss ms[k].kd).kd, .slice fa (Gate.shapeOf ss ms[k].kd).fs.length fcap] 71)).heap[w1.heap.size]? = some (.map kindEs 4)) := by
        have h1 := HB.out.1.size
        have h2 := HB2.out.2.2
        exact (HB4.out.block w1.heap.size (by omega)).trans ((HB.out.1.block w1.heap.size h2).trans HB2.out.2.1)
      clear h hba hfl hb3 hbs hkk c0 c1 c2 c3 c4 c5
      go_wp2_with fail
      have h := mendOk_any w1.heap.size fa fcap (Gate.shapeOf ss ms[k].kd).fs ms[k] _ HRM.out HFL.out HSM.out
      by_cases hmo : Gate.mendOk (Gate.shapeOf ss ms[k].kd).fs ms[k] = true
      · rw [hmo] at h
        refine h.mono ?_
        rintro e w5 ⟨rfl, hb5⟩
        have HY : Hid ((ms.take (k + 1)).all (Gate.mendAt ss) = true ∧ Below w2.heap.size w2 w5) := ⟨by rw [HTK.out, HMA.out]; exact hmo, HB.out.1.trans ((HB4.out.trans (hb5.mono HB4.out.size)).mono HB.out.1.size)⟩
        clear h hb5 hmo hX3
        go_wp2_with fail
        exact ⟨⟨k + 1, by omega, by go_num, HY.out.1, HY.out.2⟩, step_less' hlt⟩
      · have hmf : Gate.mendOk (Gate.shapeOf ss ms[k].kd).fs ms[k] = false := by simpa using hmo
        rw [hmf] at h
        refine h.mono ?_
        rintro e w5 ⟨rfl, hb5⟩
        have HF : Hid (Gate.mendsOk ss ms = false ∧ Below w.heap.size w w5) := ⟨HNO.out (by rw [HMA.out]; exact hmf), HB.out.2.trans ((HB4.out.trans (hb5.mono HB4.out.size)).mono HB.out.2.size)⟩
        clear h hb5 hmo hX3
        go_wp2_with fail
        go_ret
        exact ⟨by rw [HF.out.1]; rfl, HF.out.2⟩
    · have e : k = ms.length := by omega
      have hall := HA.out
      rw [e, List.take_of_length_le (Nat.le_refl _)] at hall
      have HALL : Hid (ms.all (Gate.mendAt ss) = true) := hall
      subst e
      clear hall HA
      go_wp2_with fail
      have HBw : Hid (Below w.heap.size w wr) := HB.out.2
      clear HB
      go_loopw [49] (fun iv wq => ∃ k : Nat, k ≤ ss.length ∧ iv = .int .i64 k ∧ (ss.take k).all (Gate.rowOk ms) = true ∧ Below w.heap.size w wq) (fun iv _ => ss.length - (intOf iv).toNat)
      case atStart => exact ⟨0, Nat.zero_le _, rfl, rfl, HBw.out⟩
      case round =>
        obtain ⟨k, hk, rfl, hall, hB⟩ := hrel
        have HB : Hid (Below w.heap.size w wr) := hB
        have HA : Hid ((ss.take k).all (Gate.rowOk ms) = true) := hall
        clear hall hB
        by_cases hlt : k < ss.length
        · obtain ⟨b, off, rfl, hb, hr⟩ := HW.out.1.rows (by rintro rfl; simp at hlt)
          obtain ⟨fa, fcap, hs0⟩ := hr k hlt
          have hs := hs0.mono hb HB.out
          have hck := hs.kind
          have hcl := hs.list
          have hfl := hs.flds
          have hltI : (k : Int) < (ss.length : Int) := by omega
          have HTK : Hid ((ss.take (k + 1)).all (Gate.rowOk ms) = Gate.rowOk ms ss[k]) := by
            unfold Hid; rw [List.take_succ_eq_append_getElem hlt, List.all_append, HA.out]; simp
          have HNO : Hid (Gate.rowOk ms ss[k] = false → Gate.mendsOk ss ms = false) := by
            intro h
            have : ss.all (Gate.rowOk ms) = false := by rw [List.all_eq_false]; exact ⟨_, List.getElem_mem hlt, by rw [h]; simp⟩
            unfold Gate.mendsOk; rw [this]; simp
          have hba := (Below.refl wr.heap.size wr).alloc (Nat.le_refl _) (.cells #[.string ss[k].kd, .slice fa ss[k].fs.length fcap] 71)
          have HFL : Hid (FldsAt (wr.alloc (.cells #[.string ss[k].kd, .slice fa ss[k].fs.length fcap] 71)) fa ss[k].fs) := hfl.mono hba
          have HBA : Hid (Below w.heap.size w (wr.alloc (.cells #[.string ss[k].kd, .slice fa ss[k].fs.length fcap] 71))) := HB.out.trans (hba.mono HB.out.size)
          clear hr hs0 hs hfl hba
          go_wp2_with fail
          have h := mendRow_any ss[k] ms a' fa cap' fcap _ (HW.out.2.mono HBA.out) HFL.out hml (Gate.fields_few HOK.out k hlt) (Gate.reads_ok HOK.out HALL.out k hlt)
          by_cases hrk : Gate.rowOk ms ss[k] = true
          · have hrk' : (Gate.walkAll (Gate.readsN ss[k] ms) ss[k].fs.length).1 = true := hrk
            refine h.mono ?_
            rintro e w5 ⟨v5, rfl, hb5, _⟩
            have HY : Hid ((ss.take (k + 1)).all (Gate.rowOk ms) = true ∧ Below w.heap.size w w5) := ⟨by rw [HTK.out]; exact hrk, HBA.out.trans (hb5.mono HBA.out.size)⟩
            rw [hrk']
            clear h hb5 hrk hrk' hck hcl
            go_wp2_with fail
            exact ⟨⟨k + 1, by omega, by go_num, HY.out.1, HY.out.2⟩, step_less' hlt⟩
          · have hrf : Gate.rowOk ms ss[k] = false := by simpa using hrk
            have hrk' : (Gate.walkAll (Gate.readsN ss[k] ms) ss[k].fs.length).1 = false := hrf
            refine h.mono ?_
            rintro e w5 ⟨v5, rfl, hb5, _⟩
            have HF : Hid (Gate.mendsOk ss ms = false ∧ Below w.heap.size w w5) := ⟨HNO.out hrf, HBA.out.trans (hb5.mono HBA.out.size)⟩
            rw [hrk']
            clear h hb5 hrk hrk' hck hcl
            go_wp2_with fail
            go_ret
            exact ⟨by rw [HF.out.1]; rfl, HF.out.2⟩
        · have e : k = ss.length := by omega
          have hall := HA.out
          rw [e, List.take_of_length_le (Nat.le_refl _)] at hall
          have HF : Hid (Gate.mendsOk ss ms = true) := by unfold Hid Gate.mendsOk; rw [HALL.out, HOK.out, hall, decide_eq_true h12]; rfl
          subst e
          clear hall HA
          go_wp2_with fail
          go_ret
          exact ⟨by rw [HF.out]; rfl, HB.out⟩

end Go.Proofs.Ytbefjngbilakjaa

namespace Go.Proofs.Ytbefjngbilakjaa
open Go.RowKit

set_option maxHeartbeats 2000000 in
theorem eqGateFieldS_yes (a a' : Option Addr) (cap cap' : Nat) (fs : List Fld) (w : World) (hw : FldsAt w a fs) (hw' : FldsAt w a' fs) :
    Calls Try.prog 74 #[.slice a fs.length cap, .slice a' fs.length cap'] w fun e w' => e = .returned (.bool true) ∧ Below w.heap.size w w' := by
  have hl := hw.len
  unfold maxLen at hl
  have hnn : ((fs.length : Int) != fs.length) = false := by simp
  go_enter Try.func74, Try.ntmps74
  go_wp2_with fail
  go_loopw [5] (fun i wr => ∃ k : Nat, k ≤ fs.length ∧ i = .int .i64 k ∧ Below w.heap.size w wr) (fun i _ => fs.length - (intOf i).toNat)
  case atStart => exact ⟨0, Nat.zero_le _, rfl, Below.refl _ _⟩
  case round =>
    obtain ⟨k, hk, rfl, hB⟩ := hrel
    by_cases hlt : k < fs.length
    · obtain ⟨b, off, rfl, hb, hr⟩ := hw.rows (by rintro rfl; simp at hlt)
      obtain ⟨b', off', rfl, hb', hr'⟩ := hw'.rows (by rintro rfl; simp at hlt)
      obtain ⟨wa, wcap, hf0⟩ := hr k hlt
      obtain ⟨wa', wcap', hf0'⟩ := hr' k hlt
      have hf := hf0.mono hb hB
      have hf' := hf0'.mono hb' hB
      obtain ⟨c0, c1, c2, c3, c4, c5, c6, c7, c8, c9, c10⟩ := hf.load
      obtain ⟨d0, d1, d2, d3, d4, d5, d6, d7, d8, d9, d10⟩ := hf'.load
      have hst := hf.strs
      have hst' := hf'.strs
      have hltI : (k : Int) < (fs.length : Int) := by omega
      clear hw hw' hr hr' hf0 hf0' hf hf'
      go_wp2_with fail
      go_region_with (go_at_call 11; refine (eqGateField_yes _ _ _ _ _ _ _ _ _ _ _ _ _ _ _ _ (by exact hst.mono ((Below.refl _ _).drew)) (by exact hst'.mono ((Below.refl _ _).drew))).mono ?_; rintro e w1 ⟨rfl, hb1'⟩; have hb1 := (Below.refl wr.heap.size wr).drew.trans hb1'; clear hb1')
      all_goals go_wp2_with fail
      all_goals exact ⟨⟨k + 1, by omega, by go_num, hB.trans (hb1.mono hB.size)⟩, by simp [intOf]; omega⟩
    · clear hw hw'
      go_wp2_with fail
      go_ret
      exact ⟨rfl, hB⟩

set_option maxHeartbeats 1000000 in
theorem eqGateShape_yes (kd : ByteArray) (a a' : Option Addr) (cap cap' : Nat) (fs : List Fld) (w : World) (hw : FldsAt w a fs) (hw' : FldsAt w a' fs) :
    Calls Try.prog 44 #[.agg #[.string kd, .slice a fs.length cap], .agg #[.string kd, .slice a' fs.length cap']] w fun e w' => e = .returned (.bool true) ∧ Below w.heap.size w w' := by
  go_enter Try.func44, Try.ntmps44
  go_wp2_with fail
  refine (eqGateFieldS_yes _ _ _ _ _ _ (hw.mono (below2' _ _ _)) (hw'.mono (below2' _ _ _))).mono ?_
  rintro e w1 ⟨rfl, hb1⟩
  go_wp2_with fail
  go_ret
  exact ⟨rfl, (below2' _ _ _).trans (hb1.mono (by simp; omega))⟩

set_option maxHeartbeats 2000000 in
theorem eqGateShapeS_yes (a a' : Option Addr) (cap cap' : Nat) (ss : List Shp) (w : World) (hw : ShpsAt w a ss) (hw' : ShpsAt w a' ss) :
    Calls Try.prog 16 #[.slice a ss.length cap, .slice a' ss.length cap'] w fun e w' => e = .returned (.bool true) ∧ Below w.heap.size w w' := by
  have hl := hw.len
  unfold maxLen at hl
  have hnn : ((ss.length : Int) != ss.length) = false := by simp
  go_enter Try.func16, Try.ntmps16
  go_wp2_with fail
  go_loopw [5] (fun i wr => ∃ k : Nat, k ≤ ss.length ∧ i = .int .i64 k ∧ Below w.heap.size w wr) (fun i _ => ss.length - (intOf i).toNat)
  case atStart => exact ⟨0, Nat.zero_le _, rfl, Below.refl _ _⟩
  case round =>
    obtain ⟨k, hk, rfl, hB⟩ := hrel
    by_cases hlt : k < ss.length
    · obtain ⟨b, off, rfl, hb, hr⟩ := hw.rows (by rintro rfl; simp at hlt)
      obtain ⟨b', off', rfl, hb', hr'⟩ := hw'.rows (by rintro rfl; simp at hlt)
      obtain ⟨wa, wcap, hf0⟩ := hr k hlt
      obtain ⟨wa', wcap', hf0'⟩ := hr' k hlt
      have hf := hf0.mono hb hB
      have hf' := hf0'.mono hb' hB
      have c0 := hf.kind
      have c1 := hf.list
      have d0 := hf'.kind
      have d1 := hf'.list
      have hst := hf.flds
      have hst' := hf'.flds
      have hltI : (k : Int) < (ss.length : Int) := by omega
      clear hw hw' hr hr' hf0 hf0' hf hf'
      go_wp2_with fail
      go_region_with (go_at_call 44; refine (eqGateShape_yes _ _ _ _ _ _ _ (by exact hst.mono ((Below.refl _ _).drew)) (by exact hst'.mono ((Below.refl _ _).drew))).mono ?_; rintro e w1 ⟨rfl, hb1'⟩; have hb1 := (Below.refl wr.heap.size wr).drew.trans hb1'; clear hb1')
      all_goals go_wp2_with fail
      all_goals exact ⟨⟨k + 1, by omega, by go_num, hB.trans (hb1.mono hB.size)⟩, by simp [intOf]; omega⟩
    · clear hw hw'
      go_wp2_with fail
      go_ret
      exact ⟨rfl, hB⟩

end Go.Proofs.Ytbefjngbilakjaa

namespace Go.Proofs.Ytbefjngbilakjaa
open Go.RowKit

def obSz (o : Ob) : Nat := o.kd.size + o.nm.size + o.tm.size + strsSz o.vs + strsSz o.hs

set_option maxHeartbeats 2000000 in
theorem szGateObject_any (o : Ob) (a a' : Option Addr) (cap cap' : Nat) (left : Int) (w : World) (ho : ObAt w o a a') (h0 : 0 ≤ left) (h1 : left ≤ 1048576) :
    Calls Try.prog 17 #[.agg #[.string o.kd, .string o.nm, .string o.tm, .slice a o.vs.length cap, .bool o.en, .slice a' o.hs.length cap', .int .i64 o.vr], .int .i64 left] w fun e w' => e = .returned (.int .i64 (szRes (obSz o) left)) ∧ Below w.heap.size w w' := by
  have hkd := ho.small.kd
  have hnm := ho.small.nm
  have htm := ho.small.tm
  have hv := ho.vals
  have hh := ho.holds
  clear ho
  unfold maxLen at hkd hnm htm
  by_cases c1 : (o.kd.size : Int) ≤ left
  rotate_left
  · have HF : Hid (szRes (obSz o) left = -1) := szRes_no (by unfold obSz; omega)
    go_enter Try.func17, Try.ntmps17
    go_wp2_with fail
    go_ret
    exact ⟨ret_int HF.out.symm, (Below.refl _ _).alloc (Nat.le_refl _) _⟩
  by_cases c2 : (o.nm.size : Int) ≤ left - o.kd.size
  rotate_left
  · have HF : Hid (szRes (obSz o) left = -1) := szRes_no (by unfold obSz; omega)
    go_enter Try.func17, Try.ntmps17
    go_wp2_with fail
    go_ret
    exact ⟨ret_int HF.out.symm, (Below.refl _ _).alloc (Nat.le_refl _) _⟩
  by_cases c3 : (o.tm.size : Int) ≤ left - o.kd.size - o.nm.size
  rotate_left
  · have HF : Hid (szRes (obSz o) left = -1) := szRes_no (by unfold obSz; omega)
    go_enter Try.func17, Try.ntmps17
    go_wp2_with fail
    go_ret
    exact ⟨ret_int HF.out.symm, (Below.refl _ _).alloc (Nat.le_refl _) _⟩
  by_cases c4 : (strsSz o.vs : Int) ≤ left - o.kd.size - o.nm.size - o.tm.size
  rotate_left
  · have HF : Hid (szRes (obSz o) left = -1) := szRes_no (by unfold obSz; omega)
    go_enter Try.func17, Try.ntmps17
    go_wp2_with fail
    refine (szStringS_no _ _ _ _ _ (hv.mono ((Below.refl _ _).alloc (Nat.le_refl _) _)) (by omega) (by omega) (by omega)).mono ?_
    rintro e w1 ⟨rfl, rfl⟩
    go_wp2_with fail
    go_ret
    exact ⟨ret_int HF.out.symm, (Below.refl _ _).alloc (Nat.le_refl _) _⟩
  by_cases c5 : (strsSz o.hs : Int) ≤ left - o.kd.size - o.nm.size - o.tm.size - strsSz o.vs
  rotate_left
  · have HF : Hid (szRes (obSz o) left = -1) := szRes_no (by unfold obSz; omega)
    go_enter Try.func17, Try.ntmps17
    go_wp2_with fail
    refine (szStringS_yes _ _ _ _ _ (hv.mono ((Below.refl _ _).alloc (Nat.le_refl _) _)) (by omega) (by omega) (by omega)).mono ?_
    rintro e w1 ⟨rfl, rfl⟩
    go_wp2_with fail
    refine (szStringS_no _ _ _ _ _ (hh.mono ((Below.refl _ _).alloc (Nat.le_refl _) _)) (by omega) (by omega) (by omega)).mono ?_
    rintro e w1 ⟨rfl, rfl⟩
    go_wp2_with fail
    go_ret
    exact ⟨ret_int HF.out.symm, (Below.refl _ _).alloc (Nat.le_refl _) _⟩
  · have HF : Hid (szRes (obSz o) left = left - o.kd.size - o.nm.size - o.tm.size - strsSz o.vs - strsSz o.hs) := by
      have e : szRes (obSz o) left = left - obSz o := szRes_yes (by unfold obSz; omega)
      unfold Hid; rw [e]; unfold obSz; omega
    go_enter Try.func17, Try.ntmps17
    go_wp2_with fail
    refine (szStringS_yes _ _ _ _ _ (hv.mono ((Below.refl _ _).alloc (Nat.le_refl _) _)) (by omega) (by omega) (by omega)).mono ?_
    rintro e w1 ⟨rfl, rfl⟩
    go_wp2_with fail
    refine (szStringS_yes _ _ _ _ _ (hh.mono ((Below.refl _ _).alloc (Nat.le_refl _) _)) (by omega) (by omega) (by omega)).mono ?_
    rintro e w1 ⟨rfl, rfl⟩
    go_wp2_with fail
    go_ret
    exact ⟨ret_int HF.out.symm, (Below.refl _ _).alloc (Nat.le_refl _) _⟩

set_option maxHeartbeats 1000000 in
theorem eqGateObject_yes (o : Ob) (a a' b b' : Option Addr) (cap cap' dap dap' : Nat) (w : World) (ho : ObAt w o a a') (ho' : ObAt w o b b') :
    Calls Try.prog 21 #[.agg #[.string o.kd, .string o.nm, .string o.tm, .slice a o.vs.length cap, .bool o.en, .slice a' o.hs.length cap', .int .i64 o.vr], .agg #[.string o.kd, .string o.nm, .string o.tm, .slice b o.vs.length dap, .bool o.en, .slice b' o.hs.length dap', .int .i64 o.vr]] w fun e w' => e = .returned (.bool true) ∧ Below w.heap.size w w' := by
  go_enter Try.func21, Try.ntmps21
  go_wp2_with fail
  refine (eqStringS_yes _ _ _ _ _ _ (ho.vals.mono (below2' _ _ _)) (ho'.vals.mono (below2' _ _ _))).mono ?_
  rintro e w1 ⟨rfl, hb1⟩
  have hX1 := box_later (wk := (w.alloc (.cells #[.string o.kd, .string o.nm, .string o.tm, .slice a o.vs.length cap, .bool o.en, .slice a' o.hs.length cap', .int .i64 o.vr] 41)).alloc (.cells #[.string o.kd, .string o.nm, .string o.tm, .slice b o.vs.length dap, .bool o.en, .slice b' o.hs.length dap', .int .i64 o.vr] 41)) (b := w.heap.size) (X := #[.string o.kd, .string o.nm, .string o.tm, .slice a o.vs.length cap, .bool o.en, .slice a' o.hs.length cap', .int .i64 o.vr]) (fun j => by rw [World.cell?_alloc_lt _ _ ⟨w.heap.size, j, none⟩ (by simp)]; exact box_new w _ _ j) (by simp; omega) hb1
  have hY1 := box_later (wk := (w.alloc (.cells #[.string o.kd, .string o.nm, .string o.tm, .slice a o.vs.length cap, .bool o.en, .slice a' o.hs.length cap', .int .i64 o.vr] 41)).alloc (.cells #[.string o.kd, .string o.nm, .string o.tm, .slice b o.vs.length dap, .bool o.en, .slice b' o.hs.length dap', .int .i64 o.vr] 41)) (b := w.heap.size + 1) (X := #[.string o.kd, .string o.nm, .string o.tm, .slice b o.vs.length dap, .bool o.en, .slice b' o.hs.length dap', .int .i64 o.vr]) (fun j => by rw [World.cell?_alloc_at _ _ _ _ (by simp)]) (by simp) hb1
  have hz1 : w.heap.size + 1 < w1.heap.size := by have := hb1.size; simp at this; omega
  have hB1 : Below w.heap.size w w1 := (below2' _ _ _).trans (hb1.mono (by simp; omega))
  clear hb1
  go_wp2_with fail
  refine (eqStringS_yes _ _ _ _ _ _ (ho.holds.mono hB1) (ho'.holds.mono hB1)).mono ?_
  rintro e w2 ⟨rfl, hb2⟩
  have hX2 := box_later hX1 (by omega) hb2
  have hY2 := box_later hY1 (by omega) hb2
  have hB2 := hB1.trans (hb2.mono (by omega))
  clear hb2 hX1 hY1
  go_wp2_with fail
  go_ret
  exact ⟨rfl, hB2⟩

theorem at5a (w : World) (o1 o2 o3 o4 o5 : Obj) : (((((w.alloc o1).alloc o2).alloc o3).alloc o4).alloc o5).heap[w.heap.size + 1 + 1 + 1]? = some o4 :=
  (Below.heap_alloc _ _ _ (by simp)).trans (at4 _ _ _ _ _)
theorem at5b (w : World) (o1 o2 o3 o4 o5 : Obj) : (((((w.alloc o1).alloc o2).alloc o3).alloc o4).alloc o5).heap[w.heap.size + 1 + 1 + 1 + 1]? = some o5 := by
  have h := (MapKept.heap_alloc ((((w.alloc o1).alloc o2).alloc o3).alloc o4) o5).1
  simpa using h

set_option maxHeartbeats 2000000 in
theorem toGateObject_any (o : Ob) (a a' : Option Addr) (cap cap' : Nat) (w : World) (ho : ObAt w o a a') (hl : o.vs.length ≤ 1048576) (hl' : o.hs.length ≤ 1048576) :
    Calls Try.prog 19 #[.agg #[.string o.kd, .string o.nm, .string o.tm, .slice a o.vs.length cap, .bool o.en, .slice a' o.hs.length cap', .int .i64 o.vr]] w fun e w' => ∃ bv bh, e = .returned (.agg #[.string o.kd, .string o.nm, .string o.tm, .slice (some ⟨bv, 0, none⟩) o.vs.length o.vs.length, .bool o.en, .slice (some ⟨bh, 0, none⟩) o.hs.length o.hs.length, .int .i64 o.vr]) ∧
      w.heap.size ≤ bv ∧ w.heap.size ≤ bh ∧ bv ≠ bh ∧ w'.heap[bv]? = some (.cells (strArr o.vs) 9) ∧ w'.heap[bh]? = some (.cells (strArr o.hs) 9) ∧ Below w.heap.size w w' := by
  go_enter Try.func19, Try.ntmps19
  go_wp2_with fail
  refine (toStringS_any _ _ _ _ (ho.vals.mono ((((Below.refl _ _).alloc (Nat.le_refl _) _).alloc (by simp) _).alloc (by simp; omega) _)) hl).mono ?_
  rintro e w1 ⟨rfl, rfl⟩
  go_wp2_with fail
  refine (toStringS_any _ _ _ _ (ho.holds.mono (below4 _ _ _ _ _)) hl').mono ?_
  rintro e w2 ⟨rfl, rfl⟩
  go_wp2_with fail
  refine bodyPost_ret (v := .agg #[.string o.kd, .string o.nm, .string o.tm, .slice (some ⟨w.heap.size + 1 + 1 + 1, 0, none⟩) o.vs.length o.vs.length, .bool o.en, .slice (some ⟨w.heap.size + 1 + 1 + 1 + 1, 0, none⟩) o.hs.length o.hs.length, .int .i64 o.vr]) (by simp [results, Try.results19, go_sem]) rfl ⟨w.heap.size + 1 + 1 + 1, w.heap.size + 1 + 1 + 1 + 1, rfl, by omega, by omega, by omega, at5a _ _ _ _ _ _, at5b _ _ _ _ _ _, (below4 _ _ _ _ _).alloc (by simp; omega) _⟩

end Go.Proofs.Ytbefjngbilakjaa
