import Derived.Test.YtponiggfclcbgaaGreatM23
import Derived.Test.YtponiggfclcbgaaGreatM14
import Derived.Deep.RegionHeld3
namespace Go.Proofs.YtponiggfclcbgaaGreat
open Go.RowKit

set_option maxHeartbeats 400000 in
theorem l3Field_any (a : Option Addr) (cap : Nat) (fs : List Fld) (v : ByteArray) (w : World) (hw : FldsAt w a fs) :
    Calls Tryz.prog 67 #[.slice a fs.length cap, .string v] w fun e w' => e = .returned (.int .i64 (Gate.fieldIx fs v)) ∧ w' = w := by
  have hl := hw.len
  unfold maxLen at hl
  go_enter Tryz.func67, Tryz.ntmps67
  go_wp2
  go_loop [5] (fun i => ∃ k : Nat, k ≤ fs.length ∧ i = .int .i64 k ∧ Gate.hasName (fs.take k) v = false) (fun i => fs.length - (intOf i).toNat)
  case atStart => exact ⟨0, Nat.zero_le _, rfl, rfl⟩
  case round =>
    obtain ⟨k, hk, rfl, hno⟩ := hrel
    by_cases hlt : k < fs.length
    · obtain ⟨b, off, rfl, hb, hr⟩ := hw.rows (by rintro rfl; simp at hlt)
      obtain ⟨wa, wcap, hf⟩ := hr k hlt
      obtain ⟨c0, c1, c2, c3, c4, c5, c6, c7, c8, c9, c10⟩ := hf.load
      clear hw hr hf c1 c2 c3 c4 c5 c6 c7 c8 c9 c10
      by_cases he : fs[k].nm = v
      · have hbe : (fs[k].nm.toList == v.toList) = true := by rw [Gate.beq_toList]; simpa using he
        have HB : Hid (Gate.fieldIx fs v = (k : Int)) := Gate.fieldIx_at fs v k hlt hno he
        clear he hno
        go_wp2
        go_ret
        exact ⟨by rw [HB.out]; rfl, rfl⟩
      · have hbe : (fs[k].nm.toList == v.toList) = false := by rw [Gate.beq_toList]; simpa using he
        have HS : Hid (Gate.hasName (fs.take (k + 1)) v = false) := by unfold Hid; rw [Gate.hasName_snoc fs v k hlt, hno, decide_eq_false he]; rfl
        clear he hno
        go_wp2
        go_round
        case rel => exact ⟨k + 1, by omega, by go_num, HS.out⟩
        case measure => simp [intOf]; omega
    · have HA : Hid (Gate.fieldIx fs v = -1) := Gate.fieldIx_none fs v (by rw [← Gate.hasName_all fs v k (by omega)]; exact hno)
      clear hno hw
      go_wp2
      go_ret
      exact ⟨by rw [HA.out]; rfl, rfl⟩

set_option maxHeartbeats 1000000 in
theorem l3Plain_any (a : Option Addr) (cap : Nat) (fs : List Fld) (v : ByteArray) (w : World) (hw : FldsAt w a fs) :
    Calls Tryz.prog 92 #[.slice a fs.length cap, .string v] w fun e w' => e = .returned (.bool (Gate.plain fs v)) ∧ Below w.heap.size w w' := by
  have hl := hw.len
  unfold maxLen at hl
  rcases Gate.field_cases fs v with ⟨h1, h2⟩ | ⟨i, hi, h1, h2, h3⟩
  · have HP : Hid (Gate.plain fs v = false) := Gate.plain_none h2
    go_enter Tryz.func92, Tryz.ntmps92
    go_wp2_with fail
    have h := l3Field_any a cap fs v w hw
    rw [h1] at h
    refine h.mono ?_
    rintro e w1 ⟨rfl, rfl⟩
    clear h
    go_wp2_with fail
    go_ret
    exact ⟨by rw [HP.out]; rfl, Below.refl _ _⟩
  · have HP : Hid (Gate.plain fs v = decide (fs[i].kd ≠ 4)) := Gate.plain_some h3
    obtain ⟨b, off, rfl, hb, hr⟩ := hw.rows (by rintro rfl; simp at hi)
    obtain ⟨wa, wcap, hf0⟩ := hr i hi
    go_enter Tryz.func92, Tryz.ntmps92
    go_wp2_with fail
    have h := l3Field_any (some ⟨b, off, none⟩) cap fs v w hw
    rw [h1] at h
    refine h.mono ?_
    rintro e w1 ⟨rfl, rfl⟩
    obtain ⟨c0, c1, c2, c3, c4, c5, c6, c7, c8, c9, c10⟩ := hf0.load
    have hiI : (i : Int) < (fs.length : Int) := by omega
    have hge : decide ((i : Int) ≥ 0) = true := by simp
    clear h hw hr hf0 h3 h2 h1
    go_wp2_with fail
    go_ret
    exact ⟨by rw [HP.out]; exact kd_ne fs[i].kd, Below.refl _ _⟩

namespace Gate
/-- The specification's look at a mend, part by part. -/
def specOk (fs : List Fld) (m : Mnd) : Bool :=
  plain fs m.fd && (!isSet m.wh || plain fs m.wh) && (!isSet m.fr || plain fs m.fr) && !decide (m.wh = m.fd) && !decide (m.fr = m.fd) && mendTail fs m

theorem isSet_iff (s : ByteArray) : isSet s = true ↔ s ≠ ByteArray.empty := by
  unfold isSet
  rw [isEmpty_of_size]
  constructor
  · intro h e; subst e; simp at h
  · intro h
    simp only [Bool.not_eq_true', decide_eq_false_iff_not]
    intro h0
    apply h
    have : s.data.size = 0 := h0
    cases s with
    | mk d => simp only at this; have := Array.eq_empty_of_size_eq_zero this; subst this; rfl
end Gate

end Go.Proofs.YtponiggfclcbgaaGreat

namespace Go.Proofs.YtponiggfclcbgaaGreat
open Go.RowKit

set_option maxRecDepth 20000 in
set_option maxHeartbeats 4000000 in
theorem l3MendOk_yes (a : Option Addr) (cap : Nat) (ss : List Shp) (m : Mnd) (w : World) (hw : ShpsAt w a ss) (hm : m.Small) (hk : Gate.hasKind ss m.kd = true) :
    Calls Tryz.prog 62 #[.slice a ss.length cap, .agg m.cells] w fun e w' => e = .returned (.bool (Gate.specOk (Gate.shapeOf ss m.kd).fs m)) ∧ Below w.heap.size w w' := by
  have hl := hw.len
  unfold maxLen at hl
  unfold Mnd.cells
  have hba := (Below.refl w.heap.size w).alloc (Nat.le_refl _) (.cells #[.string m.kd, .string m.fd, .string m.wh, .string m.wi, .string m.pt, .string m.fr] 71)
  go_enter Tryz.func62, Tryz.ntmps62
  go_wp2_with fail
  refine (l1Shape_yes _ _ _ _ _ (hw.mono hba) hk).mono ?_
  rintro e w1 ⟨ix, hix, rfl, hsh, rfl⟩
  have HSh : Hid (Gate.shapeOf ss m.kd = ss[ix]) := hsh
  obtain ⟨b, off, rfl, hb, hr⟩ := hw.rows (by rintro rfl; simp at hix)
  obtain ⟨fa, fcap, hs⟩ := hr ix hix
  have hcl := hs.list
  have HFL : Hid (FldsAt w fa ss[ix].fs) := hs.flds
  have hixI : (ix : Int) < (ss.length : Int) := by omega
  have hix0 : decide ((ix : Int) < 0) = false := by simp
  have hbw : b < w.heap.size := hb
  have HBA : Hid (Below w.heap.size w (w.alloc (.cells #[.string m.kd, .string m.fd, .string m.wh, .string m.wi, .string m.pt, .string m.fr] 71))) := hba
  clear hr hs hsh hk hw hba
  go_wp2_with fail
  rcases hp0 : Gate.plain ss[ix].fs m.fd with _ | _
  · skip
    have HT : Hid (Gate.specOk ss[ix].fs m = false) := by unfold Hid Gate.specOk Gate.mendTail Gate.isSet; simp [*]
    have h := l3Plain_any fa fcap ss[ix].fs m.fd _ (HFL.out.mono HBA.out)
    rw [hp0] at h
    refine h.mono ?_
    rintro e wc0 ⟨rfl, hb0⟩
    have HBc0 : Hid (Below w.heap.size w wc0) := HBA.out.trans (hb0.mono HBA.out.size)
    have hXc0 := box_later (box_new w _ _) (by simp) hb0
    have hzc0 : w.heap.size < wc0.heap.size := Nat.lt_of_lt_of_le (by simp) hb0.size
    clear h hb0
    go_wp2_with fail
    go_ret
    exact ⟨by rw [HSh.out, HT.out]; rfl, HBc0.out⟩
  · skip
    rcases hwh : m.wh.toList.isEmpty with _ | _
    · skip
      rcases hp1 : Gate.plain ss[ix].fs m.wh with _ | _
      · skip
        have HT : Hid (Gate.specOk ss[ix].fs m = false) := by unfold Hid Gate.specOk Gate.mendTail Gate.isSet; simp [*]
        have h := l3Plain_any fa fcap ss[ix].fs m.fd _ (HFL.out.mono HBA.out)
        rw [hp0] at h
        refine h.mono ?_
        rintro e wc0 ⟨rfl, hb0⟩
        have HBc0 : Hid (Below w.heap.size w wc0) := HBA.out.trans (hb0.mono HBA.out.size)
        have hXc0 := box_later (box_new w _ _) (by simp) hb0
        have hzc0 : w.heap.size < wc0.heap.size := Nat.lt_of_lt_of_le (by simp) hb0.size
        clear h hb0
        go_wp2_with fail
        have h := l3Plain_any fa fcap ss[ix].fs m.wh _ (HFL.out.mono HBc0.out)
        rw [hp1] at h
        refine h.mono ?_
        rintro e wc1 ⟨rfl, hb1⟩
        have HBc1 : Hid (Below w.heap.size w wc1) := HBc0.out.trans (hb1.mono HBc0.out.size)
        have hXc1 := box_later (hXc0) hzc0 hb1
        have hzc1 : w.heap.size < wc1.heap.size := Nat.lt_of_lt_of_le hzc0 hb1.size
        clear h hb1 hXc0
        go_wp2_with fail
        go_ret
        exact ⟨by rw [HSh.out, HT.out]; rfl, HBc1.out⟩
      · skip
        rcases hfr : m.fr.toList.isEmpty with _ | _
        · skip
          rcases hp2 : Gate.plain ss[ix].fs m.fr with _ | _
          · skip
            have HT : Hid (Gate.specOk ss[ix].fs m = false) := by unfold Hid Gate.specOk Gate.mendTail Gate.isSet; simp [*]
            have h := l3Plain_any fa fcap ss[ix].fs m.fd _ (HFL.out.mono HBA.out)
            rw [hp0] at h
            refine h.mono ?_
            rintro e wc0 ⟨rfl, hb0⟩
            have HBc0 : Hid (Below w.heap.size w wc0) := HBA.out.trans (hb0.mono HBA.out.size)
            have hXc0 := box_later (box_new w _ _) (by simp) hb0
            have hzc0 : w.heap.size < wc0.heap.size := Nat.lt_of_lt_of_le (by simp) hb0.size
            clear h hb0
            go_wp2_with fail
            have h := l3Plain_any fa fcap ss[ix].fs m.wh _ (HFL.out.mono HBc0.out)
            rw [hp1] at h
            refine h.mono ?_
            rintro e wc1 ⟨rfl, hb1⟩
            have HBc1 : Hid (Below w.heap.size w wc1) := HBc0.out.trans (hb1.mono HBc0.out.size)
            have hXc1 := box_later (hXc0) hzc0 hb1
            have hzc1 : w.heap.size < wc1.heap.size := Nat.lt_of_lt_of_le hzc0 hb1.size
            clear h hb1 hXc0
            go_wp2_with fail
            have h := l3Plain_any fa fcap ss[ix].fs m.fr _ (HFL.out.mono HBc1.out)
            rw [hp2] at h
            refine h.mono ?_
            rintro e wc2 ⟨rfl, hb2⟩
            have HBc2 : Hid (Below w.heap.size w wc2) := HBc1.out.trans (hb2.mono HBc1.out.size)
            have hXc2 := box_later (hXc1) hzc1 hb2
            have hzc2 : w.heap.size < wc2.heap.size := Nat.lt_of_lt_of_le hzc1 hb2.size
            clear h hb2 hXc1
            go_wp2_with fail
            go_ret
            exact ⟨by rw [HSh.out, HT.out]; rfl, HBc2.out⟩
          · skip
            by_cases e1 : m.wh = m.fd
            · have he1 : (m.wh.toList == m.fd.toList) = true := by rw [Gate.beq_toList]; simpa using e1
              have HT : Hid (Gate.specOk ss[ix].fs m = false) := by unfold Hid Gate.specOk Gate.mendTail Gate.isSet; simp [*]
              clear e1
              have h := l3Plain_any fa fcap ss[ix].fs m.fd _ (HFL.out.mono HBA.out)
              rw [hp0] at h
              refine h.mono ?_
              rintro e wc0 ⟨rfl, hb0⟩
              have HBc0 : Hid (Below w.heap.size w wc0) := HBA.out.trans (hb0.mono HBA.out.size)
              have hXc0 := box_later (box_new w _ _) (by simp) hb0
              have hzc0 : w.heap.size < wc0.heap.size := Nat.lt_of_lt_of_le (by simp) hb0.size
              clear h hb0
              go_wp2_with fail
              have h := l3Plain_any fa fcap ss[ix].fs m.wh _ (HFL.out.mono HBc0.out)
              rw [hp1] at h
              refine h.mono ?_
              rintro e wc1 ⟨rfl, hb1⟩
              have HBc1 : Hid (Below w.heap.size w wc1) := HBc0.out.trans (hb1.mono HBc0.out.size)
              have hXc1 := box_later (hXc0) hzc0 hb1
              have hzc1 : w.heap.size < wc1.heap.size := Nat.lt_of_lt_of_le hzc0 hb1.size
              clear h hb1 hXc0
              go_wp2_with fail
              have h := l3Plain_any fa fcap ss[ix].fs m.fr _ (HFL.out.mono HBc1.out)
              rw [hp2] at h
              refine h.mono ?_
              rintro e wc2 ⟨rfl, hb2⟩
              have HBc2 : Hid (Below w.heap.size w wc2) := HBc1.out.trans (hb2.mono HBc1.out.size)
              have hXc2 := box_later (hXc1) hzc1 hb2
              have hzc2 : w.heap.size < wc2.heap.size := Nat.lt_of_lt_of_le hzc1 hb2.size
              clear h hb2 hXc1
              go_wp2_with fail
              go_ret
              exact ⟨by rw [HSh.out, HT.out]; rfl, HBc2.out⟩
            have he1 : (m.wh.toList == m.fd.toList) = false := by rw [Gate.beq_toList]; simpa using e1
            by_cases e2 : m.fr = m.fd
            · have he2 : (m.fr.toList == m.fd.toList) = true := by rw [Gate.beq_toList]; simpa using e2
              have HT : Hid (Gate.specOk ss[ix].fs m = false) := by unfold Hid Gate.specOk Gate.mendTail Gate.isSet; simp [*]
              clear e2
              have h := l3Plain_any fa fcap ss[ix].fs m.fd _ (HFL.out.mono HBA.out)
              rw [hp0] at h
              refine h.mono ?_
              rintro e wc0 ⟨rfl, hb0⟩
              have HBc0 : Hid (Below w.heap.size w wc0) := HBA.out.trans (hb0.mono HBA.out.size)
              have hXc0 := box_later (box_new w _ _) (by simp) hb0
              have hzc0 : w.heap.size < wc0.heap.size := Nat.lt_of_lt_of_le (by simp) hb0.size
              clear h hb0
              go_wp2_with fail
              have h := l3Plain_any fa fcap ss[ix].fs m.wh _ (HFL.out.mono HBc0.out)
              rw [hp1] at h
              refine h.mono ?_
              rintro e wc1 ⟨rfl, hb1⟩
              have HBc1 : Hid (Below w.heap.size w wc1) := HBc0.out.trans (hb1.mono HBc0.out.size)
              have hXc1 := box_later (hXc0) hzc0 hb1
              have hzc1 : w.heap.size < wc1.heap.size := Nat.lt_of_lt_of_le hzc0 hb1.size
              clear h hb1 hXc0
              go_wp2_with fail
              have h := l3Plain_any fa fcap ss[ix].fs m.fr _ (HFL.out.mono HBc1.out)
              rw [hp2] at h
              refine h.mono ?_
              rintro e wc2 ⟨rfl, hb2⟩
              have HBc2 : Hid (Below w.heap.size w wc2) := HBc1.out.trans (hb2.mono HBc1.out.size)
              have hXc2 := box_later (hXc1) hzc1 hb2
              have hzc2 : w.heap.size < wc2.heap.size := Nat.lt_of_lt_of_le hzc1 hb2.size
              clear h hb2 hXc1
              go_wp2_with fail
              go_ret
              exact ⟨by rw [HSh.out, HT.out]; rfl, HBc2.out⟩
            have he2 : (m.fr.toList == m.fd.toList) = false := by rw [Gate.beq_toList]; simpa using e2
            rcases hwi : m.wi.toList.isEmpty with _ | _
            · skip
              rcases hpt : m.pt.toList.isEmpty with _ | _
              · skip
                have HT : Hid (Gate.specOk ss[ix].fs m = false) := by unfold Hid Gate.specOk Gate.mendTail Gate.isSet; simp [*]
                have h := l3Plain_any fa fcap ss[ix].fs m.fd _ (HFL.out.mono HBA.out)
                rw [hp0] at h
                refine h.mono ?_
                rintro e wc0 ⟨rfl, hb0⟩
                have HBc0 : Hid (Below w.heap.size w wc0) := HBA.out.trans (hb0.mono HBA.out.size)
                have hXc0 := box_later (box_new w _ _) (by simp) hb0
                have hzc0 : w.heap.size < wc0.heap.size := Nat.lt_of_lt_of_le (by simp) hb0.size
                clear h hb0
                go_wp2_with fail
                have h := l3Plain_any fa fcap ss[ix].fs m.wh _ (HFL.out.mono HBc0.out)
                rw [hp1] at h
                refine h.mono ?_
                rintro e wc1 ⟨rfl, hb1⟩
                have HBc1 : Hid (Below w.heap.size w wc1) := HBc0.out.trans (hb1.mono HBc0.out.size)
                have hXc1 := box_later (hXc0) hzc0 hb1
                have hzc1 : w.heap.size < wc1.heap.size := Nat.lt_of_lt_of_le hzc0 hb1.size
                clear h hb1 hXc0
                go_wp2_with fail
                have h := l3Plain_any fa fcap ss[ix].fs m.fr _ (HFL.out.mono HBc1.out)
                rw [hp2] at h
                refine h.mono ?_
                rintro e wc2 ⟨rfl, hb2⟩
                have HBc2 : Hid (Below w.heap.size w wc2) := HBc1.out.trans (hb2.mono HBc1.out.size)
                have hXc2 := box_later (hXc1) hzc1 hb2
                have hzc2 : w.heap.size < wc2.heap.size := Nat.lt_of_lt_of_le hzc1 hb2.size
                clear h hb2 hXc1
                go_wp2_with fail
                go_ret
                exact ⟨by rw [HSh.out, HT.out]; rfl, HBc2.out⟩
              · skip
                have HT : Hid (Gate.specOk ss[ix].fs m = true) := by unfold Hid Gate.specOk Gate.mendTail Gate.isSet; simp [*]
                have h := l3Plain_any fa fcap ss[ix].fs m.fd _ (HFL.out.mono HBA.out)
                rw [hp0] at h
                refine h.mono ?_
                rintro e wc0 ⟨rfl, hb0⟩
                have HBc0 : Hid (Below w.heap.size w wc0) := HBA.out.trans (hb0.mono HBA.out.size)
                have hXc0 := box_later (box_new w _ _) (by simp) hb0
                have hzc0 : w.heap.size < wc0.heap.size := Nat.lt_of_lt_of_le (by simp) hb0.size
                clear h hb0
                go_wp2_with fail
                have h := l3Plain_any fa fcap ss[ix].fs m.wh _ (HFL.out.mono HBc0.out)
                rw [hp1] at h
                refine h.mono ?_
                rintro e wc1 ⟨rfl, hb1⟩
                have HBc1 : Hid (Below w.heap.size w wc1) := HBc0.out.trans (hb1.mono HBc0.out.size)
                have hXc1 := box_later (hXc0) hzc0 hb1
                have hzc1 : w.heap.size < wc1.heap.size := Nat.lt_of_lt_of_le hzc0 hb1.size
                clear h hb1 hXc0
                go_wp2_with fail
                have h := l3Plain_any fa fcap ss[ix].fs m.fr _ (HFL.out.mono HBc1.out)
                rw [hp2] at h
                refine h.mono ?_
                rintro e wc2 ⟨rfl, hb2⟩
                have HBc2 : Hid (Below w.heap.size w wc2) := HBc1.out.trans (hb2.mono HBc1.out.size)
                have hXc2 := box_later (hXc1) hzc1 hb2
                have hzc2 : w.heap.size < wc2.heap.size := Nat.lt_of_lt_of_le hzc1 hb2.size
                clear h hb2 hXc1
                go_wp2_with fail
                go_quiet (fail)
                go_wp2_with fail
                go_ret
                exact ⟨by rw [HSh.out, HT.out]; rfl, below_drewN HBc2.out _⟩
            · skip
              rcases hpt : m.pt.toList.isEmpty with _ | _
              · skip
                have HT : Hid (Gate.specOk ss[ix].fs m = false) := by unfold Hid Gate.specOk Gate.mendTail Gate.isSet; simp [*]
                have h := l3Plain_any fa fcap ss[ix].fs m.fd _ (HFL.out.mono HBA.out)
                rw [hp0] at h
                refine h.mono ?_
                rintro e wc0 ⟨rfl, hb0⟩
                have HBc0 : Hid (Below w.heap.size w wc0) := HBA.out.trans (hb0.mono HBA.out.size)
                have hXc0 := box_later (box_new w _ _) (by simp) hb0
                have hzc0 : w.heap.size < wc0.heap.size := Nat.lt_of_lt_of_le (by simp) hb0.size
                clear h hb0
                go_wp2_with fail
                have h := l3Plain_any fa fcap ss[ix].fs m.wh _ (HFL.out.mono HBc0.out)
                rw [hp1] at h
                refine h.mono ?_
                rintro e wc1 ⟨rfl, hb1⟩
                have HBc1 : Hid (Below w.heap.size w wc1) := HBc0.out.trans (hb1.mono HBc0.out.size)
                have hXc1 := box_later (hXc0) hzc0 hb1
                have hzc1 : w.heap.size < wc1.heap.size := Nat.lt_of_lt_of_le hzc0 hb1.size
                clear h hb1 hXc0
                go_wp2_with fail
                have h := l3Plain_any fa fcap ss[ix].fs m.fr _ (HFL.out.mono HBc1.out)
                rw [hp2] at h
                refine h.mono ?_
                rintro e wc2 ⟨rfl, hb2⟩
                have HBc2 : Hid (Below w.heap.size w wc2) := HBc1.out.trans (hb2.mono HBc1.out.size)
                have hXc2 := box_later (hXc1) hzc1 hb2
                have hzc2 : w.heap.size < wc2.heap.size := Nat.lt_of_lt_of_le hzc1 hb2.size
                clear h hb2 hXc1
                go_wp2_with fail
                go_ret
                exact ⟨by rw [HSh.out, HT.out]; rfl, HBc2.out⟩
              · skip
                have HT : Hid (Gate.specOk ss[ix].fs m = true) := by unfold Hid Gate.specOk Gate.mendTail Gate.isSet; simp [*]
                have h := l3Plain_any fa fcap ss[ix].fs m.fd _ (HFL.out.mono HBA.out)
                rw [hp0] at h
                refine h.mono ?_
                rintro e wc0 ⟨rfl, hb0⟩
                have HBc0 : Hid (Below w.heap.size w wc0) := HBA.out.trans (hb0.mono HBA.out.size)
                have hXc0 := box_later (box_new w _ _) (by simp) hb0
                have hzc0 : w.heap.size < wc0.heap.size := Nat.lt_of_lt_of_le (by simp) hb0.size
                clear h hb0
                go_wp2_with fail
                have h := l3Plain_any fa fcap ss[ix].fs m.wh _ (HFL.out.mono HBc0.out)
                rw [hp1] at h
                refine h.mono ?_
                rintro e wc1 ⟨rfl, hb1⟩
                have HBc1 : Hid (Below w.heap.size w wc1) := HBc0.out.trans (hb1.mono HBc0.out.size)
                have hXc1 := box_later (hXc0) hzc0 hb1
                have hzc1 : w.heap.size < wc1.heap.size := Nat.lt_of_lt_of_le hzc0 hb1.size
                clear h hb1 hXc0
                go_wp2_with fail
                have h := l3Plain_any fa fcap ss[ix].fs m.fr _ (HFL.out.mono HBc1.out)
                rw [hp2] at h
                refine h.mono ?_
                rintro e wc2 ⟨rfl, hb2⟩
                have HBc2 : Hid (Below w.heap.size w wc2) := HBc1.out.trans (hb2.mono HBc1.out.size)
                have hXc2 := box_later (hXc1) hzc1 hb2
                have hzc2 : w.heap.size < wc2.heap.size := Nat.lt_of_lt_of_le hzc1 hb2.size
                clear h hb2 hXc1
                go_wp2_with fail
                go_quiet (fail)
                go_wp2_with fail
                go_ret
                exact ⟨by rw [HSh.out, HT.out]; rfl, below_drewN HBc2.out _⟩
        · skip
          by_cases e1 : m.wh = m.fd
          · have he1 : (m.wh.toList == m.fd.toList) = true := by rw [Gate.beq_toList]; simpa using e1
            have HT : Hid (Gate.specOk ss[ix].fs m = false) := by unfold Hid Gate.specOk Gate.mendTail Gate.isSet; simp [*]
            clear e1
            have h := l3Plain_any fa fcap ss[ix].fs m.fd _ (HFL.out.mono HBA.out)
            rw [hp0] at h
            refine h.mono ?_
            rintro e wc0 ⟨rfl, hb0⟩
            have HBc0 : Hid (Below w.heap.size w wc0) := HBA.out.trans (hb0.mono HBA.out.size)
            have hXc0 := box_later (box_new w _ _) (by simp) hb0
            have hzc0 : w.heap.size < wc0.heap.size := Nat.lt_of_lt_of_le (by simp) hb0.size
            clear h hb0
            go_wp2_with fail
            have h := l3Plain_any fa fcap ss[ix].fs m.wh _ (HFL.out.mono HBc0.out)
            rw [hp1] at h
            refine h.mono ?_
            rintro e wc1 ⟨rfl, hb1⟩
            have HBc1 : Hid (Below w.heap.size w wc1) := HBc0.out.trans (hb1.mono HBc0.out.size)
            have hXc1 := box_later (hXc0) hzc0 hb1
            have hzc1 : w.heap.size < wc1.heap.size := Nat.lt_of_lt_of_le hzc0 hb1.size
            clear h hb1 hXc0
            go_wp2_with fail
            go_ret
            exact ⟨by rw [HSh.out, HT.out]; rfl, HBc1.out⟩
          have he1 : (m.wh.toList == m.fd.toList) = false := by rw [Gate.beq_toList]; simpa using e1
          by_cases e2 : m.fr = m.fd
          · have he2 : (m.fr.toList == m.fd.toList) = true := by rw [Gate.beq_toList]; simpa using e2
            have HT : Hid (Gate.specOk ss[ix].fs m = false) := by unfold Hid Gate.specOk Gate.mendTail Gate.isSet; simp [*]
            clear e2
            have h := l3Plain_any fa fcap ss[ix].fs m.fd _ (HFL.out.mono HBA.out)
            rw [hp0] at h
            refine h.mono ?_
            rintro e wc0 ⟨rfl, hb0⟩
            have HBc0 : Hid (Below w.heap.size w wc0) := HBA.out.trans (hb0.mono HBA.out.size)
            have hXc0 := box_later (box_new w _ _) (by simp) hb0
            have hzc0 : w.heap.size < wc0.heap.size := Nat.lt_of_lt_of_le (by simp) hb0.size
            clear h hb0
            go_wp2_with fail
            have h := l3Plain_any fa fcap ss[ix].fs m.wh _ (HFL.out.mono HBc0.out)
            rw [hp1] at h
            refine h.mono ?_
            rintro e wc1 ⟨rfl, hb1⟩
            have HBc1 : Hid (Below w.heap.size w wc1) := HBc0.out.trans (hb1.mono HBc0.out.size)
            have hXc1 := box_later (hXc0) hzc0 hb1
            have hzc1 : w.heap.size < wc1.heap.size := Nat.lt_of_lt_of_le hzc0 hb1.size
            clear h hb1 hXc0
            go_wp2_with fail
            go_ret
            exact ⟨by rw [HSh.out, HT.out]; rfl, HBc1.out⟩
          have he2 : (m.fr.toList == m.fd.toList) = false := by rw [Gate.beq_toList]; simpa using e2
          rcases hwi : m.wi.toList.isEmpty with _ | _
          · skip
            rcases hpt : m.pt.toList.isEmpty with _ | _
            · skip
              have HT : Hid (Gate.specOk ss[ix].fs m = Gate.fitsF (Gate.fieldOf ss[ix].fs m.fd) m.pt) := by unfold Hid Gate.specOk Gate.mendTail Gate.isSet; simp [*]
              have h := l3Plain_any fa fcap ss[ix].fs m.fd _ (HFL.out.mono HBA.out)
              rw [hp0] at h
              refine h.mono ?_
              rintro e wc0 ⟨rfl, hb0⟩
              have HBc0 : Hid (Below w.heap.size w wc0) := HBA.out.trans (hb0.mono HBA.out.size)
              have hXc0 := box_later (box_new w _ _) (by simp) hb0
              have hzc0 : w.heap.size < wc0.heap.size := Nat.lt_of_lt_of_le (by simp) hb0.size
              clear h hb0
              go_wp2_with fail
              have h := l3Plain_any fa fcap ss[ix].fs m.wh _ (HFL.out.mono HBc0.out)
              rw [hp1] at h
              refine h.mono ?_
              rintro e wc1 ⟨rfl, hb1⟩
              have HBc1 : Hid (Below w.heap.size w wc1) := HBc0.out.trans (hb1.mono HBc0.out.size)
              have hXc1 := box_later (hXc0) hzc0 hb1
              have hzc1 : w.heap.size < wc1.heap.size := Nat.lt_of_lt_of_le hzc0 hb1.size
              clear h hb1 hXc0
              go_wp2_with fail
              obtain ⟨fi, hfi, hixx, hfind⟩ : ∃ fi, ∃ h : fi < ss[ix].fs.length, Gate.fieldIx ss[ix].fs m.fd = (fi : Int) ∧ ss[ix].fs.find? (fun f => decide (f.nm = m.fd)) = some ss[ix].fs[fi] := by
                rcases Gate.field_cases ss[ix].fs m.fd with ⟨_, h2⟩ | ⟨fi, hfi, h1, _, h3⟩
                · rw [Gate.plain_none h2] at hp0; cases hp0
                · exact ⟨fi, hfi, h1, h3⟩
              have HFO : Hid (Gate.fieldOf ss[ix].fs m.fd = ss[ix].fs[fi]) := by unfold Hid Gate.fieldOf; rw [hfind]; rfl
              obtain ⟨fb, foff, rfl, hfb, hrows⟩ := HFL.out.rows (by intro e; rw [e] at hfi; simp at hfi)
              obtain ⟨wa, wcap, hf0⟩ := hrows fi hfi
              have HFI : Hid (∀ W, Below w.heap.size w W → FldIn W fb (foff + fi * 11) ss[ix].fs[fi] wa wcap) := fun W hb => hf0.mono hfb hb
              have hfiI : (fi : Int) < (ss[ix].fs.length : Int) := by omega
              have hbc : Below w.heap.size w wc1.drew := HBc1.out.drew
              have HXw : Hid (∀ j, wc1.cell? ⟨w.heap.size, j, none⟩ = (#[.string m.kd, .string m.fd, .string m.wh, .string m.wi, .string m.pt, .string m.fr] : Array Value)[j]?) := hXc1
              have hbW : Below wc1.heap.size wc1 wc1.drew := (Below.refl _ _).drew
              have hXc := box_later HXw.out hzc1 hbW
              have hL := (HFI.out _ hbc).load
              have HFX : Hid (∀ W, Below w.heap.size w W → Calls Tryz.prog 67 #[.slice (some ⟨fb, foff, none⟩) ss[ix].fs.length fcap, .string m.fd] W fun e w' => e = .returned (.int .i64 (fi : Int)) ∧ w' = W) := by
                intro W hb
                have h := l3Field_any (some ⟨fb, foff, none⟩) fcap ss[ix].fs m.fd W (HFL.out.mono hb)
                rw [hixx] at h
                exact h
              have HPT : Hid (m.pt.size ≤ maxLen) := hm.pt
              clear hrows hf0 hfind hixx
              go_region_held3 (fun w' => (∀ j, w'.cell? ⟨w.heap.size, j, none⟩ = (#[.string m.kd, .string m.fd, .string m.wh, .string m.wi, .string m.pt, .string m.fr] : Array Value)[j]?) ∧ w'.cell? ⟨fb, foff + fi * 11, none⟩ = some (.string ss[ix].fs[fi].nm) ∧ w'.cell? ⟨fb, foff + fi * 11 + 1, none⟩ = some (.int .i64 ss[ix].fs[fi].kd) ∧ w'.cell? ⟨fb, foff + fi * 11 + 2, none⟩ = some (.int .i64 ss[ix].fs[fi].ls) ∧ w'.cell? ⟨fb, foff + fi * 11 + 3, none⟩ = some (.int .i64 ss[ix].fs[fi].ms) ∧ w'.cell? ⟨fb, foff + fi * 11 + 4, none⟩ = some (.slice wa ss[ix].fs[fi].ws.length wcap) ∧ w'.cell? ⟨fb, foff + fi * 11 + 5, none⟩ = some (.string ss[ix].fs[fi].to) ∧ w'.cell? ⟨fb, foff + fi * 11 + 6, none⟩ = some (.int .i64 ss[ix].fs[fi].rl) ∧ w'.cell? ⟨fb, foff + fi * 11 + 7, none⟩ = some (.bool ss[ix].fs[fi].mu) ∧ w'.cell? ⟨fb, foff + fi * 11 + 8, none⟩ = some (.bool ss[ix].fs[fi].fx) ∧ w'.cell? ⟨fb, foff + fi * 11 + 9, none⟩ = some (.string ss[ix].fs[fi].df) ∧ w'.cell? ⟨fb, foff + fi * 11 + 10, none⟩ = some (.string ss[ix].fs[fi].wg)) (exact ⟨hXc, hL⟩) (first
                | (go_at_call 67; refine (HFX.out _ hbc).mono ?_; rintro e w5 ⟨rfl, rfl⟩)
                | (go_at_call 93; refine (specFits_any _ _ _ _ _ _ _ _ _ _ _ _ _ _ _ HPT.out (by exact (HFI.out _ hbc).strs)).mono ?_; rintro e w5 ⟨rfl, hb5⟩; have hbW := hbW.trans (hb5.mono hbW.size); have hbc := hbc.trans (hb5.mono hbc.size); have hXc := box_later HXw.out hzc1 hbW; have hL := (HFI.out _ hbc).load; clear hb5))
              go_wp2_with fail
              go_ret
              exact ⟨by rw [HSh.out, HT.out, HFO.out]; rfl, hbc⟩
            · skip
              have HT : Hid (Gate.specOk ss[ix].fs m = false) := by unfold Hid Gate.specOk Gate.mendTail Gate.isSet; simp [*]
              have h := l3Plain_any fa fcap ss[ix].fs m.fd _ (HFL.out.mono HBA.out)
              rw [hp0] at h
              refine h.mono ?_
              rintro e wc0 ⟨rfl, hb0⟩
              have HBc0 : Hid (Below w.heap.size w wc0) := HBA.out.trans (hb0.mono HBA.out.size)
              have hXc0 := box_later (box_new w _ _) (by simp) hb0
              have hzc0 : w.heap.size < wc0.heap.size := Nat.lt_of_lt_of_le (by simp) hb0.size
              clear h hb0
              go_wp2_with fail
              have h := l3Plain_any fa fcap ss[ix].fs m.wh _ (HFL.out.mono HBc0.out)
              rw [hp1] at h
              refine h.mono ?_
              rintro e wc1 ⟨rfl, hb1⟩
              have HBc1 : Hid (Below w.heap.size w wc1) := HBc0.out.trans (hb1.mono HBc0.out.size)
              have hXc1 := box_later (hXc0) hzc0 hb1
              have hzc1 : w.heap.size < wc1.heap.size := Nat.lt_of_lt_of_le hzc0 hb1.size
              clear h hb1 hXc0
              go_wp2_with fail
              go_ret
              exact ⟨by rw [HSh.out, HT.out]; rfl, HBc1.out⟩
          · skip
            rcases hpt : m.pt.toList.isEmpty with _ | _
            · skip
              have HT : Hid (Gate.specOk ss[ix].fs m = Gate.fitsF (Gate.fieldOf ss[ix].fs m.fd) m.pt) := by unfold Hid Gate.specOk Gate.mendTail Gate.isSet; simp [*]
              have h := l3Plain_any fa fcap ss[ix].fs m.fd _ (HFL.out.mono HBA.out)
              rw [hp0] at h
              refine h.mono ?_
              rintro e wc0 ⟨rfl, hb0⟩
              have HBc0 : Hid (Below w.heap.size w wc0) := HBA.out.trans (hb0.mono HBA.out.size)
              have hXc0 := box_later (box_new w _ _) (by simp) hb0
              have hzc0 : w.heap.size < wc0.heap.size := Nat.lt_of_lt_of_le (by simp) hb0.size
              clear h hb0
              go_wp2_with fail
              have h := l3Plain_any fa fcap ss[ix].fs m.wh _ (HFL.out.mono HBc0.out)
              rw [hp1] at h
              refine h.mono ?_
              rintro e wc1 ⟨rfl, hb1⟩
              have HBc1 : Hid (Below w.heap.size w wc1) := HBc0.out.trans (hb1.mono HBc0.out.size)
              have hXc1 := box_later (hXc0) hzc0 hb1
              have hzc1 : w.heap.size < wc1.heap.size := Nat.lt_of_lt_of_le hzc0 hb1.size
              clear h hb1 hXc0
              go_wp2_with fail
              obtain ⟨fi, hfi, hixx, hfind⟩ : ∃ fi, ∃ h : fi < ss[ix].fs.length, Gate.fieldIx ss[ix].fs m.fd = (fi : Int) ∧ ss[ix].fs.find? (fun f => decide (f.nm = m.fd)) = some ss[ix].fs[fi] := by
                rcases Gate.field_cases ss[ix].fs m.fd with ⟨_, h2⟩ | ⟨fi, hfi, h1, _, h3⟩
                · rw [Gate.plain_none h2] at hp0; cases hp0
                · exact ⟨fi, hfi, h1, h3⟩
              have HFO : Hid (Gate.fieldOf ss[ix].fs m.fd = ss[ix].fs[fi]) := by unfold Hid Gate.fieldOf; rw [hfind]; rfl
              obtain ⟨fb, foff, rfl, hfb, hrows⟩ := HFL.out.rows (by intro e; rw [e] at hfi; simp at hfi)
              obtain ⟨wa, wcap, hf0⟩ := hrows fi hfi
              have HFI : Hid (∀ W, Below w.heap.size w W → FldIn W fb (foff + fi * 11) ss[ix].fs[fi] wa wcap) := fun W hb => hf0.mono hfb hb
              have hfiI : (fi : Int) < (ss[ix].fs.length : Int) := by omega
              have hbc : Below w.heap.size w wc1.drew := HBc1.out.drew
              have HXw : Hid (∀ j, wc1.cell? ⟨w.heap.size, j, none⟩ = (#[.string m.kd, .string m.fd, .string m.wh, .string m.wi, .string m.pt, .string m.fr] : Array Value)[j]?) := hXc1
              have hbW : Below wc1.heap.size wc1 wc1.drew := (Below.refl _ _).drew
              have hXc := box_later HXw.out hzc1 hbW
              have hL := (HFI.out _ hbc).load
              have HFX : Hid (∀ W, Below w.heap.size w W → Calls Tryz.prog 67 #[.slice (some ⟨fb, foff, none⟩) ss[ix].fs.length fcap, .string m.fd] W fun e w' => e = .returned (.int .i64 (fi : Int)) ∧ w' = W) := by
                intro W hb
                have h := l3Field_any (some ⟨fb, foff, none⟩) fcap ss[ix].fs m.fd W (HFL.out.mono hb)
                rw [hixx] at h
                exact h
              have HPT : Hid (m.pt.size ≤ maxLen) := hm.pt
              clear hrows hf0 hfind hixx
              go_region_held3 (fun w' => (∀ j, w'.cell? ⟨w.heap.size, j, none⟩ = (#[.string m.kd, .string m.fd, .string m.wh, .string m.wi, .string m.pt, .string m.fr] : Array Value)[j]?) ∧ w'.cell? ⟨fb, foff + fi * 11, none⟩ = some (.string ss[ix].fs[fi].nm) ∧ w'.cell? ⟨fb, foff + fi * 11 + 1, none⟩ = some (.int .i64 ss[ix].fs[fi].kd) ∧ w'.cell? ⟨fb, foff + fi * 11 + 2, none⟩ = some (.int .i64 ss[ix].fs[fi].ls) ∧ w'.cell? ⟨fb, foff + fi * 11 + 3, none⟩ = some (.int .i64 ss[ix].fs[fi].ms) ∧ w'.cell? ⟨fb, foff + fi * 11 + 4, none⟩ = some (.slice wa ss[ix].fs[fi].ws.length wcap) ∧ w'.cell? ⟨fb, foff + fi * 11 + 5, none⟩ = some (.string ss[ix].fs[fi].to) ∧ w'.cell? ⟨fb, foff + fi * 11 + 6, none⟩ = some (.int .i64 ss[ix].fs[fi].rl) ∧ w'.cell? ⟨fb, foff + fi * 11 + 7, none⟩ = some (.bool ss[ix].fs[fi].mu) ∧ w'.cell? ⟨fb, foff + fi * 11 + 8, none⟩ = some (.bool ss[ix].fs[fi].fx) ∧ w'.cell? ⟨fb, foff + fi * 11 + 9, none⟩ = some (.string ss[ix].fs[fi].df) ∧ w'.cell? ⟨fb, foff + fi * 11 + 10, none⟩ = some (.string ss[ix].fs[fi].wg)) (exact ⟨hXc, hL⟩) (first
                | (go_at_call 67; refine (HFX.out _ hbc).mono ?_; rintro e w5 ⟨rfl, rfl⟩)
                | (go_at_call 93; refine (specFits_any _ _ _ _ _ _ _ _ _ _ _ _ _ _ _ HPT.out (by exact (HFI.out _ hbc).strs)).mono ?_; rintro e w5 ⟨rfl, hb5⟩; have hbW := hbW.trans (hb5.mono hbW.size); have hbc := hbc.trans (hb5.mono hbc.size); have hXc := box_later HXw.out hzc1 hbW; have hL := (HFI.out _ hbc).load; clear hb5))
              go_wp2_with fail
              go_ret
              exact ⟨by rw [HSh.out, HT.out, HFO.out]; rfl, hbc⟩
            · skip
              have HT : Hid (Gate.specOk ss[ix].fs m = false) := by unfold Hid Gate.specOk Gate.mendTail Gate.isSet; simp [*]
              have h := l3Plain_any fa fcap ss[ix].fs m.fd _ (HFL.out.mono HBA.out)
              rw [hp0] at h
              refine h.mono ?_
              rintro e wc0 ⟨rfl, hb0⟩
              have HBc0 : Hid (Below w.heap.size w wc0) := HBA.out.trans (hb0.mono HBA.out.size)
              have hXc0 := box_later (box_new w _ _) (by simp) hb0
              have hzc0 : w.heap.size < wc0.heap.size := Nat.lt_of_lt_of_le (by simp) hb0.size
              clear h hb0
              go_wp2_with fail
              have h := l3Plain_any fa fcap ss[ix].fs m.wh _ (HFL.out.mono HBc0.out)
              rw [hp1] at h
              refine h.mono ?_
              rintro e wc1 ⟨rfl, hb1⟩
              have HBc1 : Hid (Below w.heap.size w wc1) := HBc0.out.trans (hb1.mono HBc0.out.size)
              have hXc1 := box_later (hXc0) hzc0 hb1
              have hzc1 : w.heap.size < wc1.heap.size := Nat.lt_of_lt_of_le hzc0 hb1.size
              clear h hb1 hXc0
              go_wp2_with fail
              go_ret
              exact ⟨by rw [HSh.out, HT.out]; rfl, HBc1.out⟩
    · skip
      rcases hfr : m.fr.toList.isEmpty with _ | _
      · skip
        rcases hp2 : Gate.plain ss[ix].fs m.fr with _ | _
        · skip
          have HT : Hid (Gate.specOk ss[ix].fs m = false) := by unfold Hid Gate.specOk Gate.mendTail Gate.isSet; simp [*]
          have h := l3Plain_any fa fcap ss[ix].fs m.fd _ (HFL.out.mono HBA.out)
          rw [hp0] at h
          refine h.mono ?_
          rintro e wc0 ⟨rfl, hb0⟩
          have HBc0 : Hid (Below w.heap.size w wc0) := HBA.out.trans (hb0.mono HBA.out.size)
          have hXc0 := box_later (box_new w _ _) (by simp) hb0
          have hzc0 : w.heap.size < wc0.heap.size := Nat.lt_of_lt_of_le (by simp) hb0.size
          clear h hb0
          go_wp2_with fail
          have h := l3Plain_any fa fcap ss[ix].fs m.fr _ (HFL.out.mono HBc0.out)
          rw [hp2] at h
          refine h.mono ?_
          rintro e wc1 ⟨rfl, hb1⟩
          have HBc1 : Hid (Below w.heap.size w wc1) := HBc0.out.trans (hb1.mono HBc0.out.size)
          have hXc1 := box_later (hXc0) hzc0 hb1
          have hzc1 : w.heap.size < wc1.heap.size := Nat.lt_of_lt_of_le hzc0 hb1.size
          clear h hb1 hXc0
          go_wp2_with fail
          go_ret
          exact ⟨by rw [HSh.out, HT.out]; rfl, HBc1.out⟩
        · skip
          by_cases e1 : m.wh = m.fd
          · have he1 : (m.wh.toList == m.fd.toList) = true := by rw [Gate.beq_toList]; simpa using e1
            have HT : Hid (Gate.specOk ss[ix].fs m = false) := by unfold Hid Gate.specOk Gate.mendTail Gate.isSet; simp [*]
            clear e1
            have h := l3Plain_any fa fcap ss[ix].fs m.fd _ (HFL.out.mono HBA.out)
            rw [hp0] at h
            refine h.mono ?_
            rintro e wc0 ⟨rfl, hb0⟩
            have HBc0 : Hid (Below w.heap.size w wc0) := HBA.out.trans (hb0.mono HBA.out.size)
            have hXc0 := box_later (box_new w _ _) (by simp) hb0
            have hzc0 : w.heap.size < wc0.heap.size := Nat.lt_of_lt_of_le (by simp) hb0.size
            clear h hb0
            go_wp2_with fail
            have h := l3Plain_any fa fcap ss[ix].fs m.fr _ (HFL.out.mono HBc0.out)
            rw [hp2] at h
            refine h.mono ?_
            rintro e wc1 ⟨rfl, hb1⟩
            have HBc1 : Hid (Below w.heap.size w wc1) := HBc0.out.trans (hb1.mono HBc0.out.size)
            have hXc1 := box_later (hXc0) hzc0 hb1
            have hzc1 : w.heap.size < wc1.heap.size := Nat.lt_of_lt_of_le hzc0 hb1.size
            clear h hb1 hXc0
            go_wp2_with fail
            go_ret
            exact ⟨by rw [HSh.out, HT.out]; rfl, HBc1.out⟩
          have he1 : (m.wh.toList == m.fd.toList) = false := by rw [Gate.beq_toList]; simpa using e1
          by_cases e2 : m.fr = m.fd
          · have he2 : (m.fr.toList == m.fd.toList) = true := by rw [Gate.beq_toList]; simpa using e2
            have HT : Hid (Gate.specOk ss[ix].fs m = false) := by unfold Hid Gate.specOk Gate.mendTail Gate.isSet; simp [*]
            clear e2
            have h := l3Plain_any fa fcap ss[ix].fs m.fd _ (HFL.out.mono HBA.out)
            rw [hp0] at h
            refine h.mono ?_
            rintro e wc0 ⟨rfl, hb0⟩
            have HBc0 : Hid (Below w.heap.size w wc0) := HBA.out.trans (hb0.mono HBA.out.size)
            have hXc0 := box_later (box_new w _ _) (by simp) hb0
            have hzc0 : w.heap.size < wc0.heap.size := Nat.lt_of_lt_of_le (by simp) hb0.size
            clear h hb0
            go_wp2_with fail
            have h := l3Plain_any fa fcap ss[ix].fs m.fr _ (HFL.out.mono HBc0.out)
            rw [hp2] at h
            refine h.mono ?_
            rintro e wc1 ⟨rfl, hb1⟩
            have HBc1 : Hid (Below w.heap.size w wc1) := HBc0.out.trans (hb1.mono HBc0.out.size)
            have hXc1 := box_later (hXc0) hzc0 hb1
            have hzc1 : w.heap.size < wc1.heap.size := Nat.lt_of_lt_of_le hzc0 hb1.size
            clear h hb1 hXc0
            go_wp2_with fail
            go_ret
            exact ⟨by rw [HSh.out, HT.out]; rfl, HBc1.out⟩
          have he2 : (m.fr.toList == m.fd.toList) = false := by rw [Gate.beq_toList]; simpa using e2
          rcases hwi : m.wi.toList.isEmpty with _ | _
          · skip
            have HT : Hid (Gate.specOk ss[ix].fs m = false) := by unfold Hid Gate.specOk Gate.mendTail Gate.isSet; simp [*]
            have h := l3Plain_any fa fcap ss[ix].fs m.fd _ (HFL.out.mono HBA.out)
            rw [hp0] at h
            refine h.mono ?_
            rintro e wc0 ⟨rfl, hb0⟩
            have HBc0 : Hid (Below w.heap.size w wc0) := HBA.out.trans (hb0.mono HBA.out.size)
            have hXc0 := box_later (box_new w _ _) (by simp) hb0
            have hzc0 : w.heap.size < wc0.heap.size := Nat.lt_of_lt_of_le (by simp) hb0.size
            clear h hb0
            go_wp2_with fail
            have h := l3Plain_any fa fcap ss[ix].fs m.fr _ (HFL.out.mono HBc0.out)
            rw [hp2] at h
            refine h.mono ?_
            rintro e wc1 ⟨rfl, hb1⟩
            have HBc1 : Hid (Below w.heap.size w wc1) := HBc0.out.trans (hb1.mono HBc0.out.size)
            have hXc1 := box_later (hXc0) hzc0 hb1
            have hzc1 : w.heap.size < wc1.heap.size := Nat.lt_of_lt_of_le hzc0 hb1.size
            clear h hb1 hXc0
            go_wp2_with fail
            go_ret
            exact ⟨by rw [HSh.out, HT.out]; rfl, HBc1.out⟩
          · skip
            rcases hpt : m.pt.toList.isEmpty with _ | _
            · skip
              have HT : Hid (Gate.specOk ss[ix].fs m = false) := by unfold Hid Gate.specOk Gate.mendTail Gate.isSet; simp [*]
              have h := l3Plain_any fa fcap ss[ix].fs m.fd _ (HFL.out.mono HBA.out)
              rw [hp0] at h
              refine h.mono ?_
              rintro e wc0 ⟨rfl, hb0⟩
              have HBc0 : Hid (Below w.heap.size w wc0) := HBA.out.trans (hb0.mono HBA.out.size)
              have hXc0 := box_later (box_new w _ _) (by simp) hb0
              have hzc0 : w.heap.size < wc0.heap.size := Nat.lt_of_lt_of_le (by simp) hb0.size
              clear h hb0
              go_wp2_with fail
              have h := l3Plain_any fa fcap ss[ix].fs m.fr _ (HFL.out.mono HBc0.out)
              rw [hp2] at h
              refine h.mono ?_
              rintro e wc1 ⟨rfl, hb1⟩
              have HBc1 : Hid (Below w.heap.size w wc1) := HBc0.out.trans (hb1.mono HBc0.out.size)
              have hXc1 := box_later (hXc0) hzc0 hb1
              have hzc1 : w.heap.size < wc1.heap.size := Nat.lt_of_lt_of_le hzc0 hb1.size
              clear h hb1 hXc0
              go_wp2_with fail
              go_ret
              exact ⟨by rw [HSh.out, HT.out]; rfl, HBc1.out⟩
            · skip
              have HT : Hid (Gate.specOk ss[ix].fs m = true) := by unfold Hid Gate.specOk Gate.mendTail Gate.isSet; simp [*]
              have h := l3Plain_any fa fcap ss[ix].fs m.fd _ (HFL.out.mono HBA.out)
              rw [hp0] at h
              refine h.mono ?_
              rintro e wc0 ⟨rfl, hb0⟩
              have HBc0 : Hid (Below w.heap.size w wc0) := HBA.out.trans (hb0.mono HBA.out.size)
              have hXc0 := box_later (box_new w _ _) (by simp) hb0
              have hzc0 : w.heap.size < wc0.heap.size := Nat.lt_of_lt_of_le (by simp) hb0.size
              clear h hb0
              go_wp2_with fail
              have h := l3Plain_any fa fcap ss[ix].fs m.fr _ (HFL.out.mono HBc0.out)
              rw [hp2] at h
              refine h.mono ?_
              rintro e wc1 ⟨rfl, hb1⟩
              have HBc1 : Hid (Below w.heap.size w wc1) := HBc0.out.trans (hb1.mono HBc0.out.size)
              have hXc1 := box_later (hXc0) hzc0 hb1
              have hzc1 : w.heap.size < wc1.heap.size := Nat.lt_of_lt_of_le hzc0 hb1.size
              clear h hb1 hXc0
              go_wp2_with fail
              go_quiet (fail)
              go_wp2_with fail
              go_ret
              exact ⟨by rw [HSh.out, HT.out]; rfl, below_drewN HBc1.out _⟩
      · skip
        by_cases e1 : m.wh = m.fd
        · have he1 : (m.wh.toList == m.fd.toList) = true := by rw [Gate.beq_toList]; simpa using e1
          have HT : Hid (Gate.specOk ss[ix].fs m = false) := by unfold Hid Gate.specOk Gate.mendTail Gate.isSet; simp [*]
          clear e1
          have h := l3Plain_any fa fcap ss[ix].fs m.fd _ (HFL.out.mono HBA.out)
          rw [hp0] at h
          refine h.mono ?_
          rintro e wc0 ⟨rfl, hb0⟩
          have HBc0 : Hid (Below w.heap.size w wc0) := HBA.out.trans (hb0.mono HBA.out.size)
          have hXc0 := box_later (box_new w _ _) (by simp) hb0
          have hzc0 : w.heap.size < wc0.heap.size := Nat.lt_of_lt_of_le (by simp) hb0.size
          clear h hb0
          go_wp2_with fail
          go_ret
          exact ⟨by rw [HSh.out, HT.out]; rfl, HBc0.out⟩
        have he1 : (m.wh.toList == m.fd.toList) = false := by rw [Gate.beq_toList]; simpa using e1
        by_cases e2 : m.fr = m.fd
        · have he2 : (m.fr.toList == m.fd.toList) = true := by rw [Gate.beq_toList]; simpa using e2
          have HT : Hid (Gate.specOk ss[ix].fs m = false) := by unfold Hid Gate.specOk Gate.mendTail Gate.isSet; simp [*]
          clear e2
          have h := l3Plain_any fa fcap ss[ix].fs m.fd _ (HFL.out.mono HBA.out)
          rw [hp0] at h
          refine h.mono ?_
          rintro e wc0 ⟨rfl, hb0⟩
          have HBc0 : Hid (Below w.heap.size w wc0) := HBA.out.trans (hb0.mono HBA.out.size)
          have hXc0 := box_later (box_new w _ _) (by simp) hb0
          have hzc0 : w.heap.size < wc0.heap.size := Nat.lt_of_lt_of_le (by simp) hb0.size
          clear h hb0
          go_wp2_with fail
          go_ret
          exact ⟨by rw [HSh.out, HT.out]; rfl, HBc0.out⟩
        have he2 : (m.fr.toList == m.fd.toList) = false := by rw [Gate.beq_toList]; simpa using e2
        rcases hwi : m.wi.toList.isEmpty with _ | _
        · skip
          have HT : Hid (Gate.specOk ss[ix].fs m = false) := by unfold Hid Gate.specOk Gate.mendTail Gate.isSet; simp [*]
          have h := l3Plain_any fa fcap ss[ix].fs m.fd _ (HFL.out.mono HBA.out)
          rw [hp0] at h
          refine h.mono ?_
          rintro e wc0 ⟨rfl, hb0⟩
          have HBc0 : Hid (Below w.heap.size w wc0) := HBA.out.trans (hb0.mono HBA.out.size)
          have hXc0 := box_later (box_new w _ _) (by simp) hb0
          have hzc0 : w.heap.size < wc0.heap.size := Nat.lt_of_lt_of_le (by simp) hb0.size
          clear h hb0
          go_wp2_with fail
          go_ret
          exact ⟨by rw [HSh.out, HT.out]; rfl, HBc0.out⟩
        · skip
          rcases hpt : m.pt.toList.isEmpty with _ | _
          · skip
            have HT : Hid (Gate.specOk ss[ix].fs m = Gate.fitsF (Gate.fieldOf ss[ix].fs m.fd) m.pt) := by unfold Hid Gate.specOk Gate.mendTail Gate.isSet; simp [*]
            have h := l3Plain_any fa fcap ss[ix].fs m.fd _ (HFL.out.mono HBA.out)
            rw [hp0] at h
            refine h.mono ?_
            rintro e wc0 ⟨rfl, hb0⟩
            have HBc0 : Hid (Below w.heap.size w wc0) := HBA.out.trans (hb0.mono HBA.out.size)
            have hXc0 := box_later (box_new w _ _) (by simp) hb0
            have hzc0 : w.heap.size < wc0.heap.size := Nat.lt_of_lt_of_le (by simp) hb0.size
            clear h hb0
            go_wp2_with fail
            obtain ⟨fi, hfi, hixx, hfind⟩ : ∃ fi, ∃ h : fi < ss[ix].fs.length, Gate.fieldIx ss[ix].fs m.fd = (fi : Int) ∧ ss[ix].fs.find? (fun f => decide (f.nm = m.fd)) = some ss[ix].fs[fi] := by
              rcases Gate.field_cases ss[ix].fs m.fd with ⟨_, h2⟩ | ⟨fi, hfi, h1, _, h3⟩
              · rw [Gate.plain_none h2] at hp0; cases hp0
              · exact ⟨fi, hfi, h1, h3⟩
            have HFO : Hid (Gate.fieldOf ss[ix].fs m.fd = ss[ix].fs[fi]) := by unfold Hid Gate.fieldOf; rw [hfind]; rfl
            obtain ⟨fb, foff, rfl, hfb, hrows⟩ := HFL.out.rows (by intro e; rw [e] at hfi; simp at hfi)
            obtain ⟨wa, wcap, hf0⟩ := hrows fi hfi
            have HFI : Hid (∀ W, Below w.heap.size w W → FldIn W fb (foff + fi * 11) ss[ix].fs[fi] wa wcap) := fun W hb => hf0.mono hfb hb
            have hfiI : (fi : Int) < (ss[ix].fs.length : Int) := by omega
            have hbc : Below w.heap.size w wc0.drew := HBc0.out.drew
            have HXw : Hid (∀ j, wc0.cell? ⟨w.heap.size, j, none⟩ = (#[.string m.kd, .string m.fd, .string m.wh, .string m.wi, .string m.pt, .string m.fr] : Array Value)[j]?) := hXc0
            have hbW : Below wc0.heap.size wc0 wc0.drew := (Below.refl _ _).drew
            have hXc := box_later HXw.out hzc0 hbW
            have hL := (HFI.out _ hbc).load
            have HFX : Hid (∀ W, Below w.heap.size w W → Calls Tryz.prog 67 #[.slice (some ⟨fb, foff, none⟩) ss[ix].fs.length fcap, .string m.fd] W fun e w' => e = .returned (.int .i64 (fi : Int)) ∧ w' = W) := by
              intro W hb
              have h := l3Field_any (some ⟨fb, foff, none⟩) fcap ss[ix].fs m.fd W (HFL.out.mono hb)
              rw [hixx] at h
              exact h
            have HPT : Hid (m.pt.size ≤ maxLen) := hm.pt
            clear hrows hf0 hfind hixx
            go_region_held3 (fun w' => (∀ j, w'.cell? ⟨w.heap.size, j, none⟩ = (#[.string m.kd, .string m.fd, .string m.wh, .string m.wi, .string m.pt, .string m.fr] : Array Value)[j]?) ∧ w'.cell? ⟨fb, foff + fi * 11, none⟩ = some (.string ss[ix].fs[fi].nm) ∧ w'.cell? ⟨fb, foff + fi * 11 + 1, none⟩ = some (.int .i64 ss[ix].fs[fi].kd) ∧ w'.cell? ⟨fb, foff + fi * 11 + 2, none⟩ = some (.int .i64 ss[ix].fs[fi].ls) ∧ w'.cell? ⟨fb, foff + fi * 11 + 3, none⟩ = some (.int .i64 ss[ix].fs[fi].ms) ∧ w'.cell? ⟨fb, foff + fi * 11 + 4, none⟩ = some (.slice wa ss[ix].fs[fi].ws.length wcap) ∧ w'.cell? ⟨fb, foff + fi * 11 + 5, none⟩ = some (.string ss[ix].fs[fi].to) ∧ w'.cell? ⟨fb, foff + fi * 11 + 6, none⟩ = some (.int .i64 ss[ix].fs[fi].rl) ∧ w'.cell? ⟨fb, foff + fi * 11 + 7, none⟩ = some (.bool ss[ix].fs[fi].mu) ∧ w'.cell? ⟨fb, foff + fi * 11 + 8, none⟩ = some (.bool ss[ix].fs[fi].fx) ∧ w'.cell? ⟨fb, foff + fi * 11 + 9, none⟩ = some (.string ss[ix].fs[fi].df) ∧ w'.cell? ⟨fb, foff + fi * 11 + 10, none⟩ = some (.string ss[ix].fs[fi].wg)) (exact ⟨hXc, hL⟩) (first
              | (go_at_call 67; refine (HFX.out _ hbc).mono ?_; rintro e w5 ⟨rfl, rfl⟩)
              | (go_at_call 93; refine (specFits_any _ _ _ _ _ _ _ _ _ _ _ _ _ _ _ HPT.out (by exact (HFI.out _ hbc).strs)).mono ?_; rintro e w5 ⟨rfl, hb5⟩; have hbW := hbW.trans (hb5.mono hbW.size); have hbc := hbc.trans (hb5.mono hbc.size); have hXc := box_later HXw.out hzc0 hbW; have hL := (HFI.out _ hbc).load; clear hb5))
            go_wp2_with fail
            go_ret
            exact ⟨by rw [HSh.out, HT.out, HFO.out]; rfl, hbc⟩
          · skip
            have HT : Hid (Gate.specOk ss[ix].fs m = false) := by unfold Hid Gate.specOk Gate.mendTail Gate.isSet; simp [*]
            have h := l3Plain_any fa fcap ss[ix].fs m.fd _ (HFL.out.mono HBA.out)
            rw [hp0] at h
            refine h.mono ?_
            rintro e wc0 ⟨rfl, hb0⟩
            have HBc0 : Hid (Below w.heap.size w wc0) := HBA.out.trans (hb0.mono HBA.out.size)
            have hXc0 := box_later (box_new w _ _) (by simp) hb0
            have hzc0 : w.heap.size < wc0.heap.size := Nat.lt_of_lt_of_le (by simp) hb0.size
            clear h hb0
            go_wp2_with fail
            go_ret
            exact ⟨by rw [HSh.out, HT.out]; rfl, HBc0.out⟩

end Go.Proofs.YtponiggfclcbgaaGreat

namespace Go.Proofs.YtponiggfclcbgaaGreat
open Go.RowKit

namespace Gate
def mendReady (kd fld : ByteArray) (row : List ByteArray) (m : Mnd) : Bool := !(decide (m.kd = kd) && decide (m.fd = fld)) || ((!isSet m.wh || has row m.wh) && (!isSet m.fr || has row m.fr))
def readyN (ms : List Mnd) (kd fld : ByteArray) (row : List ByteArray) : Bool := ms.all (mendReady kd fld row)
end Gate

set_option maxRecDepth 20000 in
set_option maxHeartbeats 4000000 in
theorem l3Ready_any (a ra : Option Addr) (cap rcap : Nat) (ms : List Mnd) (kd fld : ByteArray) (row : List ByteArray) (w : World) (hm : MndsAt w a ms) (hr : StrsAt w ra row) (hml : ms.length ≤ 12) :
    Calls Tryz.prog 95 #[.slice a ms.length cap, .string kd, .string fld, .slice ra row.length rcap] w fun e w' => e = .returned (.bool (Gate.readyN ms kd fld row)) ∧ Below w.heap.size w w' := by
  have HM : Hid (MndsAt w a ms ∧ StrsAt w ra row) := ⟨hm, hr⟩
  clear hm hr
  go_enter Tryz.func95, Tryz.ntmps95
  go_wp2_with fail
  go_loopw [9] (fun iv wr => ∃ k : Nat, k ≤ ms.length ∧ iv = .int .i64 k ∧ (ms.take k).all (Gate.mendReady kd fld row) = true ∧ Below w.heap.size w wr) (fun iv _ => ms.length - (intOf iv).toNat)
  case atStart => exact ⟨0, Nat.zero_le _, rfl, rfl, Below.refl _ _⟩
  case round =>
    obtain ⟨k, hk, rfl, hall, hB⟩ := hrel
    have HB : Hid (Below w.heap.size w wr) := hB
    have HA : Hid ((ms.take k).all (Gate.mendReady kd fld row) = true) := hall
    by_cases hlt : k < ms.length
    · obtain ⟨b, off, rfl, hb, c0, c1, c2, c3, c4, c5⟩ := HM.out.1.load hB k hlt
      have hltI : (k : Int) < (ms.length : Int) := by omega
      have HTK : Hid ((ms.take (k + 1)).all (Gate.mendReady kd fld row) = Gate.mendReady kd fld row ms[k]) := by
        unfold Hid; rw [List.take_succ_eq_append_getElem hlt, List.all_append, HA.out]; simp
      have HNO : Hid (Gate.mendReady kd fld row ms[k] = false → Gate.readyN ms kd fld row = false) := by
        intro h
        unfold Gate.readyN
        rw [List.all_eq_false]; exact ⟨_, List.getElem_mem hlt, by rw [h]; simp⟩
      have HBA : Hid (Below w.heap.size w (wr.alloc (.cells #[.string ms[k].kd, .string ms[k].fd, .string ms[k].wh, .string ms[k].wi, .string ms[k].pt, .string ms[k].fr] 71))) := hB.alloc hB.size _
      clear hall hB HA
      by_cases e1 : ms[k].kd = kd
      rotate_left
      · have he1 : (ms[k].kd.toList == kd.toList) = false := by rw [Gate.beq_toList]; simpa using e1
        have HY : Hid (Gate.mendReady kd fld row ms[k] = true) := by unfold Hid Gate.mendReady; simp [e1]
        clear e1
        go_wp2_with fail
        exact ⟨⟨k + 1, by omega, by go_num, by rw [HTK.out]; exact HY.out, HBA.out⟩, step_less' hlt⟩
      have he1 : (ms[k].kd.toList == kd.toList) = true := by rw [Gate.beq_toList]; simpa using e1
      by_cases e2 : ms[k].fd = fld
      rotate_left
      · have he2 : (ms[k].fd.toList == fld.toList) = false := by rw [Gate.beq_toList]; simpa using e2
        have HY : Hid (Gate.mendReady kd fld row ms[k] = true) := by unfold Hid Gate.mendReady; simp [e2]
        clear e1 e2
        go_wp2_with fail
        exact ⟨⟨k + 1, by omega, by go_num, by rw [HTK.out]; exact HY.out, HBA.out⟩, step_less' hlt⟩
      have he2 : (ms[k].fd.toList == fld.toList) = true := by rw [Gate.beq_toList]; simpa using e2
      have HRD : Hid (Gate.mendReady kd fld row ms[k] = ((!Gate.isSet ms[k].wh || Gate.has row ms[k].wh) && (!Gate.isSet ms[k].fr || Gate.has row ms[k].fr))) := by unfold Hid Gate.mendReady; simp [e1, e2]
      clear e1 e2
      rcases hwh : ms[k].wh.toList.isEmpty with _ | _ <;> rcases hfr : ms[k].fr.toList.isEmpty with _ | _
      all_goals go_wp2_with fail
      · skip
        have h := l1Has_any ra rcap row ms[k].wh _ (HM.out.2.mono HBA.out)
        rcases hh1 : Gate.has row ms[k].wh with _ | _
        · rw [hh1] at h
          refine h.mono ?_
          rintro e w3 ⟨rfl, rfl⟩
          have HF : Hid (Gate.readyN ms kd fld row = false) := HNO.out (by rw [HRD.out]; unfold Gate.isSet; simp [*])
          clear h
          go_wp2_with fail
          go_ret
          exact ⟨by rw [HF.out]; rfl, HBA.out⟩
        · rw [hh1] at h
          refine h.mono ?_
          rintro e w3 ⟨rfl, rfl⟩
          clear h
          go_wp2_with fail
          have h := l1Has_any ra rcap row ms[k].fr _ (HM.out.2.mono HBA.out)
          rcases hh2 : Gate.has row ms[k].fr with _ | _
          · rw [hh2] at h
            refine h.mono ?_
            rintro e w3 ⟨rfl, rfl⟩
            have HF : Hid (Gate.readyN ms kd fld row = false) := HNO.out (by rw [HRD.out]; unfold Gate.isSet; simp [*])
            clear h
            go_wp2_with fail
            go_ret
            exact ⟨by rw [HF.out]; rfl, HBA.out⟩
          · rw [hh2] at h
            refine h.mono ?_
            rintro e w3 ⟨rfl, rfl⟩
            clear h
            go_wp2_with fail
            have HY : Hid (Gate.mendReady kd fld row ms[k] = true) := by unfold Hid; rw [HRD.out]; unfold Gate.isSet; simp [*]
            exact ⟨⟨k + 1, by omega, by go_num, by rw [HTK.out]; exact HY.out, HBA.out⟩, step_less' hlt⟩
      · skip
        have h := l1Has_any ra rcap row ms[k].wh _ (HM.out.2.mono HBA.out)
        rcases hh1 : Gate.has row ms[k].wh with _ | _
        · rw [hh1] at h
          refine h.mono ?_
          rintro e w3 ⟨rfl, rfl⟩
          have HF : Hid (Gate.readyN ms kd fld row = false) := HNO.out (by rw [HRD.out]; unfold Gate.isSet; simp [*])
          clear h
          go_wp2_with fail
          go_ret
          exact ⟨by rw [HF.out]; rfl, HBA.out⟩
        · rw [hh1] at h
          refine h.mono ?_
          rintro e w3 ⟨rfl, rfl⟩
          clear h
          go_wp2_with fail
          have HY : Hid (Gate.mendReady kd fld row ms[k] = true) := by unfold Hid; rw [HRD.out]; unfold Gate.isSet; simp [*]
          exact ⟨⟨k + 1, by omega, by go_num, by rw [HTK.out]; exact HY.out, HBA.out⟩, step_less' hlt⟩
      · skip
        have h := l1Has_any ra rcap row ms[k].fr _ (HM.out.2.mono HBA.out)
        rcases hh2 : Gate.has row ms[k].fr with _ | _
        · rw [hh2] at h
          refine h.mono ?_
          rintro e w3 ⟨rfl, rfl⟩
          have HF : Hid (Gate.readyN ms kd fld row = false) := HNO.out (by rw [HRD.out]; unfold Gate.isSet; simp [*])
          clear h
          go_wp2_with fail
          go_ret
          exact ⟨by rw [HF.out]; rfl, HBA.out⟩
        · rw [hh2] at h
          refine h.mono ?_
          rintro e w3 ⟨rfl, rfl⟩
          clear h
          go_wp2_with fail
          have HY : Hid (Gate.mendReady kd fld row ms[k] = true) := by unfold Hid; rw [HRD.out]; unfold Gate.isSet; simp [*]
          exact ⟨⟨k + 1, by omega, by go_num, by rw [HTK.out]; exact HY.out, HBA.out⟩, step_less' hlt⟩
      · skip
        have HY : Hid (Gate.mendReady kd fld row ms[k] = true) := by unfold Hid; rw [HRD.out]; unfold Gate.isSet; simp [*]
        exact ⟨⟨k + 1, by omega, by go_num, by rw [HTK.out]; exact HY.out, HBA.out⟩, step_less' hlt⟩
    · have e : k = ms.length := by omega
      rw [e, List.take_of_length_le (Nat.le_refl _)] at hall
      have HF : Hid (Gate.readyN ms kd fld row = true) := hall
      subst e
      clear hall HA hB
      go_wp2_with fail
      go_ret
      exact ⟨by rw [HF.out]; rfl, HB.out⟩

end Go.Proofs.YtponiggfclcbgaaGreat
