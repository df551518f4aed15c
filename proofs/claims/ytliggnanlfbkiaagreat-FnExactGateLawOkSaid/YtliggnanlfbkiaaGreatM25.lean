import Derived.Test.YtliggnanlfbkiaaGreatM19
import Derived.Test.YtliggnanlfbkiaaGreatM18
import Derived.Test.YtliggnanlfbkiaaGreatRows
import Derived.Test.YtliggnanlfbkiaaGreatM07
import Derived.Test.YtliggnanlfbkiaaGreatM01
import Derived.WalkKit
import Derived.WalkSpells
import Derived.WalkLawsBesides
import Derived.Deep.QuietTactic
import Derived.BigQuiet
import Derived.Deep.RegionWith
import Derived.Test.YtliggnanlfbkiaaGreatM11
namespace Go.Proofs.YtliggnanlfbkiaaGreat
open Go.RowKit

set_option maxRecDepth 20000 in
set_option maxHeartbeats 4000000 in
theorem implMendsOk_any (a a' : Option Addr) (cap cap' : Nat) (ss : List Shp) (ms : List Mnd) (w : World) (hw : ShpsAt w a ss) (hm : MndsAt w a' ms) (hml : ms.length ≤ 1048576) :
    Calls Tryz.prog 17 #[.slice a ss.length cap, .slice a' ms.length cap'] w fun e w' => e = .returned (.bool (Gate.mendsOk ss ms)) ∧ Below w.heap.size w w' := by
  have HW := hid2 hw hm
  have hl := hw.len
  unfold maxLen at hl
  clear hw hm
  by_cases h12 : ms.length ≤ 12
  rotate_left
  · have HF : Hid (Gate.mendsOk ss ms = false) := by unfold Hid Gate.mendsOk; rw [decide_eq_false h12]; simp
    go_enter Tryz.func17, Tryz.ntmps17
    go_wp2_with fail
    go_ret
    exact ⟨by rw [HF.out]; rfl, Below.refl _ _⟩
  have h12I : (ms.length : Int) ≤ 12 := by omega
  by_cases hok : Gate.shapesOk ss = true
  rotate_left
  · have hokf : Gate.shapesOk ss = false := by simpa using hok
    have HF : Hid (Gate.mendsOk ss ms = false) := by unfold Hid Gate.mendsOk; rw [hokf]; simp
    go_enter Tryz.func17, Tryz.ntmps17
    go_wp2_with fail
    have h := implShapesOk_any a cap ss w HW.out.1
    rw [hokf] at h
    refine h.mono ?_
    rintro e w1 ⟨rfl, hb1⟩
    clear h
    go_wp2_with fail
    go_ret
    exact ⟨by rw [HF.out]; rfl, hb1⟩
  have HOK := hid hok
  go_enter Tryz.func17, Tryz.ntmps17
  go_wp2_with fail
  have h := implShapesOk_any a cap ss w HW.out.1
  rw [hok] at h
  refine h.mono ?_
  rintro e w1 ⟨rfl, hb1⟩
  have HB1 := hid hb1
  clear h hb1 hok
  go_wp2_with fail
  refine (fieldKinds_any _).mono ?_
  rintro e w2 ⟨rfl, hw2⟩
  have HB2 : Hid (Below w.heap.size w w2 ∧ w2.heap[w1.heap.size]? = some (.map kindEs 4) ∧ w1.heap.size < w2.heap.size) := by
    rw [hw2]; exact ⟨HB1.out.trans (((Below.refl _ _).alloc (Nat.le_refl _) _).mono HB1.out.size), alloc_at _ _, by simp⟩
  clear hw2
  go_wp2_with fail
  go_loopw [25] (fun iv wr => ∃ k : Nat, k ≤ ms.length ∧ iv = .int .i64 k ∧ (ms.take k).all (Gate.mendAt ss) = true ∧ Below w2.heap.size w2 wr) (fun iv _ => ms.length - (intOf iv).toNat)
  case atStart => exact ⟨0, Nat.zero_le _, rfl, rfl, Below.refl _ _⟩
  case round =>
    obtain ⟨k, hk, rfl, hall, hB⟩ := hrel
    have HB := hid2 hB (HB2.out.1.trans (hB.mono HB2.out.1.size))
    have HA := hid hall
    clear hall hB
    by_cases hlt : k < ms.length
    · obtain ⟨b, off, rfl, hb, c0, c1, c2, c3, c4, c5⟩ := HW.out.2.load HB.out.2 k hlt
      have hltI : (k : Int) < (ms.length : Int) := by omega
      have hsm := HW.out.2.small k hlt
      have HTK : Hid ((ms.take (k + 1)).all (Gate.mendAt ss) = Gate.mendAt ss ms[k]) := by
        unfold Hid; rw [List.take_succ_eq_append_getElem hlt, List.all_append, HA.out]; simp
      have HNO : Hid (Gate.mendAt ss ms[k] = false → Gate.mendsOk ss ms = false) := by
        intro h
        have : ms.all (Gate.mendAt ss) = false := by rw [List.all_eq_false]; exact ⟨_, List.getElem_mem hlt, by rw [h]; simp⟩
        unfold Gate.mendsOk; rw [this]; simp
      have hba := (Below.refl wr.heap.size wr).alloc (Nat.le_refl _) (.cells #[.string ms[k].kd, .string ms[k].fd, .string ms[k].wh, .string ms[k].wi, .string ms[k].pt, .string ms[k].fr] 60)
      have HSM := hid hsm
      clear hsm
      go_wp2_with fail
      have h := shapeOf_any a cap ss ms[k].kd _ (HW.out.1.mono (HB.out.2.trans (hba.mono HB.out.2.size)))
      by_cases hkk : Gate.hasKind ss ms[k].kd = true
      rotate_left
      · have hkf : Gate.hasKind ss ms[k].kd = false := by simpa using hkk
        rw [hkf] at h
        refine h.mono ?_
        rintro e w3 ⟨fa, fcap, rfl, hfl, hb3⟩
        have HF := hid2 (HNO.out (by unfold Gate.mendAt; rw [hkf]; rfl)) (HB.out.2.trans ((hba.trans (hb3.mono hba.size)).mono HB.out.2.size))
        clear h hba hfl hb3 c0 c1 c2 c3 c4 c5
        go_wp2_with fail
        go_ret
        exact ⟨by rw [HF.out.1]; rfl, HF.out.2.alloc HF.out.2.size _⟩
      rw [hkk] at h
      refine h.mono ?_
      rintro e w3 ⟨fa, fcap, rfl, hfl, hb3⟩
      have hX3 := box_later (box_new wr _ _) (by simp) hb3
      have hz3 : wr.heap.size < w3.heap.size := by have := hb3.size; simp at this; omega
      have HB3 := hid (hba.trans (hb3.mono hba.size))
      have hbs := (Below.refl w3.heap.size w3).alloc (Nat.le_refl _) (.cells #[.string (Gate.shapeOf ss ms[k].kd).kd, .slice fa (Gate.shapeOf ss ms[k].kd).fs.length fcap] 65)
      have HB4 := hid (HB3.out.trans (hbs.mono HB3.out.size))
      have HFL := hid ((hfl.mono hb3).mono hbs)
      have HMA : Hid (Gate.mendAt ss ms[k] = Gate.mendOk (Gate.shapeOf ss ms[k].kd).fs ms[k]) := by unfold Hid Gate.mendAt; rw [hkk]; simp
      have HRM : Hid ((w3.alloc (.cells #[.string (Gate.shapeOf ss ms[k].kd).kd, .slice fa (Gate.shapeOf ss ms[k].kd).fs.length fcap] 65)).heap[w1.heap.size]? = some (.map kindEs 4)) := by
        have h1 := HB.out.1.size
        have h2 := HB2.out.2.2
        exact (HB4.out.block w1.heap.size (by omega)).trans ((HB.out.1.block w1.heap.size h2).trans HB2.out.2.1)
      clear h hba hfl hb3 hbs hkk c0 c1 c2 c3 c4 c5
      go_wp2_with fail
      have h := mendOk_any w1.heap.size fa fcap (Gate.shapeOf ss ms[k].kd).fs ms[k] _ HRM.out HFL.out HSM.out
      by_cases hmo : Gate.mendOk (Gate.shapeOf ss ms[k].kd).fs ms[k] = true
      · rw [hmo] at h
        refine h.mono ?_
        rintro e w5 ⟨rfl, hb5⟩
        have HY : Hid ((ms.take (k + 1)).all (Gate.mendAt ss) = true ∧ Below w2.heap.size w2 w5) := ⟨by rw [HTK.out, HMA.out]; exact hmo, HB.out.1.trans ((HB4.out.trans (hb5.mono HB4.out.size)).mono HB.out.1.size)⟩
        clear h hb5 hmo hX3
        go_wp2_with fail
        exact ⟨⟨k + 1, by omega, by go_num, HY.out.1, HY.out.2⟩, step_less' hlt⟩
      · have hmf : Gate.mendOk (Gate.shapeOf ss ms[k].kd).fs ms[k] = false := by simpa using hmo
        rw [hmf] at h
        refine h.mono ?_
        rintro e w5 ⟨rfl, hb5⟩
        have HF := hid2 (HNO.out (by rw [HMA.out]; exact hmf)) (HB.out.2.trans ((HB4.out.trans (hb5.mono HB4.out.size)).mono HB.out.2.size))
        clear h hb5 hmo hX3
        go_wp2_with fail
        go_ret
        exact ⟨by rw [HF.out.1]; rfl, HF.out.2⟩
    · have e : k = ms.length := by omega
      have hall := HA.out
      rw [e, List.take_of_length_le (Nat.le_refl _)] at hall
      have HALL := hid hall
      subst e
      clear hall HA
      go_wp2_with fail
      have HBw := hid HB.out.2
      clear HB
      go_loopw [49] (fun iv wq => ∃ k : Nat, k ≤ ss.length ∧ iv = .int .i64 k ∧ (ss.take k).all (Gate.rowOk ms) = true ∧ Below w.heap.size w wq) (fun iv _ => ss.length - (intOf iv).toNat)
      case atStart => exact ⟨0, Nat.zero_le _, rfl, rfl, HBw.out⟩
      case round =>
        obtain ⟨k, hk, rfl, hall, hB⟩ := hrel
        have HB := hid hB
        have HA := hid hall
        clear hall hB
        by_cases hlt : k < ss.length
        · obtain ⟨b, off, rfl, hb, hr⟩ := HW.out.1.rows (by rintro rfl; simp at hlt)
          obtain ⟨fa, fcap, hs0⟩ := hr k hlt
          have hs := hs0.mono hb HB.out
          have hck := hs.kind
          have hcl := hs.list
          have hfl := hs.flds
          have hltI : (k : Int) < (ss.length : Int) := by omega
          have HTK : Hid ((ss.take (k + 1)).all (Gate.rowOk ms) = Gate.rowOk ms ss[k]) := by
            unfold Hid; rw [List.take_succ_eq_append_getElem hlt, List.all_append, HA.out]; simp
          have HNO : Hid (Gate.rowOk ms ss[k] = false → Gate.mendsOk ss ms = false) := by
            intro h
            have : ss.all (Gate.rowOk ms) = false := by rw [List.all_eq_false]; exact ⟨_, List.getElem_mem hlt, by rw [h]; simp⟩
            unfold Gate.mendsOk; rw [this]; simp
          have hba := (Below.refl wr.heap.size wr).alloc (Nat.le_refl _) (.cells #[.string ss[k].kd, .slice fa ss[k].fs.length fcap] 65)
          have HFL := hid (hfl.mono hba)
          have HBA : Hid (Below w.heap.size w (wr.alloc (.cells #[.string ss[k].kd, .slice fa ss[k].fs.length fcap] 65))) := HB.out.trans (hba.mono HB.out.size)
          clear hr hs0 hs hfl hba
          go_wp2_with fail
          have h := mendRow_any ss[k] ms a' fa cap' fcap _ (HW.out.2.mono HBA.out) HFL.out hml (Gate.fields_few HOK.out k hlt) (Gate.reads_ok HOK.out HALL.out k hlt)
          by_cases hrk : Gate.rowOk ms ss[k] = true
          · have hrk' : (Gate.walkAll (Gate.readsN ss[k] ms) ss[k].fs.length).1 = true := hrk
            refine h.mono ?_
            rintro e w5 ⟨v5, rfl, hb5, _⟩
            have HY : Hid ((ss.take (k + 1)).all (Gate.rowOk ms) = true ∧ Below w.heap.size w w5) := ⟨by rw [HTK.out]; exact hrk, HBA.out.trans (hb5.mono HBA.out.size)⟩
            rw [hrk']
            clear h hb5 hrk hrk' hck hcl
            go_wp2_with fail
            exact ⟨⟨k + 1, by omega, by go_num, HY.out.1, HY.out.2⟩, step_less' hlt⟩
          · have hrf : Gate.rowOk ms ss[k] = false := by simpa using hrk
            have hrk' : (Gate.walkAll (Gate.readsN ss[k] ms) ss[k].fs.length).1 = false := hrf
            refine h.mono ?_
            rintro e w5 ⟨v5, rfl, hb5, _⟩
            have HF : Hid (Gate.mendsOk ss ms = false ∧ Below w.heap.size w w5) := ⟨HNO.out hrf, HBA.out.trans (hb5.mono HBA.out.size)⟩
            rw [hrk']
            clear h hb5 hrk hrk' hck hcl
            go_wp2_with fail
            go_ret
            exact ⟨by rw [HF.out.1]; rfl, HF.out.2⟩
        · have e : k = ss.length := by omega
          have hall := HA.out
          rw [e, List.take_of_length_le (Nat.le_refl _)] at hall
          have HF : Hid (Gate.mendsOk ss ms = true) := by unfold Hid Gate.mendsOk; rw [HALL.out, HOK.out, hall, decide_eq_true h12]; rfl
          subst e
          clear hall HA
          go_wp2_with fail
          go_ret
          exact ⟨by rw [HF.out]; rfl, HB.out⟩

end Go.Proofs.YtliggnanlfbkiaaGreat

namespace Go.Proofs.YtliggnanlfbkiaaGreat
open Go.RowKit

theorem ret_str {a b : ByteArray} (h : a = b) : Ending.returned (.string a) = .returned (.string b) := by rw [h]

theorem over_small (ts : List Tm) (v : ByteArray) (hs : ∀ i (h : i < ts.length), ts[i].Small) : (Gate.over ts v).size ≤ maxLen := by
  unfold Gate.over
  cases hf : ts.find? (fun t => decide (t.nm = v)) with
  | none => simp [Gate.noTeam, maxLen]
  | some t =>
    obtain ⟨k, hk, rfl⟩ := List.mem_iff_getElem.1 (List.mem_of_find?_eq_some hf)
    exact (hs k hk).ov

set_option maxHeartbeats 400000 in
theorem l4Over_any (a : Option Addr) (cap : Nat) (ts : List Tm) (v : ByteArray) (w : World) (hw : TmsAt w a ts) :
    Calls Tryz.prog 30 #[.slice a ts.length cap, .string v] w fun e w' => e = .returned (.string (Gate.over ts v)) ∧ w' = w := by
  have hl := hw.len
  unfold maxLen at hl
  go_enter Tryz.func30, Tryz.ntmps30
  go_wp2_with fail
  go_loop [5] (fun i => ∃ k : Nat, k ≤ ts.length ∧ i = .int .i64 k ∧ Gate.hasTeam (ts.take k) v = false) (fun i => ts.length - (intOf i).toNat)
  case atStart => exact ⟨0, Nat.zero_le _, rfl, rfl⟩
  case round =>
    obtain ⟨k, hk, rfl, hall⟩ := hrel
    by_cases hlt : k < ts.length
    · obtain ⟨b, off, rfl, hb, c0, c1⟩ := hw.load (Below.refl _ _) k hlt
      clear hw
      have HS : Hid (Gate.hasTeam (ts.take (k + 1)) v = (false || decide (ts[k].nm = v))) := by rw [Gate.hasTeam_snoc ts v k hlt, hall]; rfl
      have hltI : (k : Int) < (ts.length : Int) := by omega
      by_cases he : ts[k].nm = v
      · have hbe : (ts[k].nm.toList == v.toList) = true := by rw [Gate.beq_toList]; simpa using he
        have HR := hid (Gate.over_at ts v k hlt hall he)
        clear he hall
        go_wp2_with fail
        go_ret
        exact ⟨ret_str HR.out.symm, rfl⟩
      · have hbe : (ts[k].nm.toList == v.toList) = false := by rw [Gate.beq_toList]; simpa using he
        have HE := hid he
        clear he hall
        go_wp2_with fail
        go_round
        case rel => exact ⟨k + 1, by omega, by go_num, by rw [HS.out, decide_eq_false HE.out]; rfl⟩
        case measure => simp [intOf]; omega
    · have HR := hid (Gate.over_none ts v (by rw [← Gate.hasTeam_all ts v k (by omega)]; exact hall))
      clear hall hw
      go_wp2_with fail
      go_ret
      exact ⟨ret_str HR.out.symm, rfl⟩

set_option maxHeartbeats 800000 in
theorem overOf_any (a : Option Addr) (cap : Nat) (ts : List Tm) (v : ByteArray) (w : World) (hw : TmsAt w a ts) :
    Calls Tryz.prog 73 #[.slice a ts.length cap, .string v] w fun e w' => e = .returned (.string (Gate.over ts v)) ∧ Below w.heap.size w w' := by
  have hl := hw.len
  unfold maxLen at hl
  go_enter Tryz.func73, Tryz.ntmps73
  go_wp2_with fail
  go_loopw [9] (fun i wr => ∃ k : Nat, k ≤ ts.length ∧ i = .int .i64 k ∧ Gate.hasTeam (ts.take k) v = false ∧ Below w.heap.size w wr) (fun i _ => ts.length - (intOf i).toNat)
  case atStart => exact ⟨0, Nat.zero_le _, rfl, rfl, Below.refl _ _⟩
  case round =>
    obtain ⟨k, hk, rfl, hall, hB⟩ := hrel
    have hsz := hB.size
    by_cases hlt : k < ts.length
    · obtain ⟨b, off, rfl, hb, c0, c1⟩ := hw.load hB k hlt
      clear hw
      have HS : Hid (Gate.hasTeam (ts.take (k + 1)) v = (false || decide (ts[k].nm = v))) := by rw [Gate.hasTeam_snoc ts v k hlt, hall]; rfl
      have hltI : (k : Int) < (ts.length : Int) := by omega
      have hbr : b < wr.heap.size := by omega
      by_cases he : ts[k].nm = v
      · have hbe : (ts[k].nm.toList == v.toList) = true := by rw [Gate.beq_toList]; simpa using he
        have HR := hid (Gate.over_at ts v k hlt hall he)
        clear he hall
        go_wp2_with fail
        go_ret
        exact ⟨ret_str HR.out.symm, hB.alloc hsz _⟩
      · have hbe : (ts[k].nm.toList == v.toList) = false := by rw [Gate.beq_toList]; simpa using he
        have HE := hid he
        clear he hall
        go_wp2_with fail
        exact ⟨⟨k + 1, by omega, by go_num, by rw [HS.out, decide_eq_false HE.out]; rfl, hB.alloc hsz _⟩, by simp [intOf]; omega⟩
    · have HR := hid (Gate.over_none ts v (by rw [← Gate.hasTeam_all ts v k (by omega)]; exact hall))
      clear hall hw
      go_wp2_with fail
      go_ret
      exact ⟨ret_str HR.out.symm, hB⟩

end Go.Proofs.YtliggnanlfbkiaaGreat

namespace Go.Proofs.YtliggnanlfbkiaaGreat
open Go.RowKit

theorem any_take_snoc {α : Type} (p : α → Bool) (l : List α) (k : Nat) (h : k < l.length) : (l.take (k + 1)).any p = ((l.take k).any p || p l[k]) := by
  rw [List.take_succ_eq_append_getElem h, List.any_append]; simp
theorem any_at {α : Type} (p : α → Bool) (l : List α) (k : Nat) (h : k < l.length) (hp : p l[k] = true) : l.any p = true := by
  rw [List.any_eq_true]; exact ⟨l[k], List.getElem_mem h, hp⟩

/-- A function value of one captured box, called at each team: what it answers. -/
def TeamFn (P : Program) (fid : Nat) (q : Value) (ts : List Tm) (w : World) (p : Tm → Bool) : Prop :=
  ∀ w1, Below w.heap.size w w1 → ∀ i (h : i < ts.length), Calls P fid #[.agg ts[i].cells, q] w1 fun e w' => e = .returned (.bool (p ts[i])) ∧ Below w1.heap.size w1 w'

set_option maxHeartbeats 1000000 in
theorem IndexFuncT_any (a : Option Addr) (cap : Nat) (ts : List Tm) (q : Value) (p : Tm → Bool) (w : World) (hw : TmsAt w a ts) (hf : TeamFn Tryz.prog 71 q ts w p) :
    Calls Tryz.prog 72 #[.slice a ts.length cap, .func (.func 71) #[] #[q]] w fun e w' => ∃ r : Int, e = .returned (.int .i64 r) ∧ decide (0 ≤ r) = ts.any p ∧ Below w.heap.size w w' := by
  have hl := hw.len
  unfold maxLen at hl
  go_enter Tryz.func72, Tryz.ntmps72
  go_wp2_with fail
  go_loopw [8] (fun i wr => ∃ k : Nat, k ≤ ts.length ∧ i = .int .i64 k ∧ (ts.take k).any p = false ∧ Below w.heap.size w wr) (fun i _ => ts.length - (intOf i).toNat)
  case atStart => exact ⟨0, Nat.zero_le _, rfl, rfl, Below.refl _ _⟩
  case round =>
    obtain ⟨k, hk, rfl, hno, hB⟩ := hrel
    by_cases hlt : k < ts.length
    · obtain ⟨b, off, rfl, hb, c0, c1⟩ := hw.load hB k hlt
      have hltI : (k : Int) < (ts.length : Int) := by omega
      have hc := hf wr hB k hlt
      clear hw hf
      by_cases he : p ts[k] = true
      · have HA : Hid (ts.any p = true) := any_at p ts k hlt he
        have HE : Hid (p ts[k] = true) := he
        clear he hno
        go_wp2_with fail
        refine (as_bool HE.out hc).mono ?_
        rintro e w2 ⟨rfl, hb2⟩
        go_wp2_with fail
        go_ret
        exact ⟨_, rfl, by rw [HA.out]; simp, hB.trans (hb2.mono hB.size)⟩
      · have he' : p ts[k] = false := by simpa using he
        have HS : Hid ((ts.take (k + 1)).any p = false) := by unfold Hid; rw [any_take_snoc p ts k hlt, hno, he']; rfl
        have HE : Hid (p ts[k] = false) := he'
        clear he he' hno
        go_wp2_with fail
        refine (as_bool HE.out hc).mono ?_
        rintro e w2 ⟨rfl, hb2⟩
        go_wp2_with fail
        exact ⟨⟨k + 1, by omega, by go_num, HS.out, hB.trans (hb2.mono hB.size)⟩, by simp [intOf]; omega⟩
    · have HA : Hid (ts.any p = false) := by unfold Hid; rw [← hno, List.take_of_length_le (by omega)]
      clear hno hw hf
      go_wp2_with fail
      go_ret
      exact ⟨_, rfl, by rw [HA.out]; rfl, hB⟩

set_option maxHeartbeats 400000 in
theorem ContainsFuncT_any (a : Option Addr) (cap : Nat) (ts : List Tm) (q : Value) (p : Tm → Bool) (w : World) (hw : TmsAt w a ts) (hf : TeamFn Tryz.prog 71 q ts w p) :
    Calls Tryz.prog 41 #[.slice a ts.length cap, .func (.func 71) #[] #[q]] w fun e w' => e = .returned (.bool (ts.any p)) ∧ Below w.heap.size w w' := by
  go_enter Tryz.func41, Tryz.ntmps41
  go_wp2_with fail
  refine (IndexFuncT_any _ _ _ _ _ _ hw hf).mono ?_
  rintro e w2 ⟨r, rfl, hr, hb2⟩
  go_wp2_with fail
  go_ret
  exact ⟨rfl, hb2⟩

set_option maxHeartbeats 1000000 in
theorem IndexFuncU_any (a : Option Addr) (cap : Nat) (ts : List Tm) (q : Value) (p : Tm → Bool) (w : World) (hw : TmsAt w a ts) (hf : TeamFn Tryz.prog 42 q ts w p) :
    Calls Tryz.prog 72 #[.slice a ts.length cap, .func (.func 42) #[] #[q]] w fun e w' => ∃ r : Int, e = .returned (.int .i64 r) ∧ decide (0 ≤ r) = ts.any p ∧ Below w.heap.size w w' := by
  have hl := hw.len
  unfold maxLen at hl
  go_enter Tryz.func72, Tryz.ntmps72
  go_wp2_with fail
  go_loopw [8] (fun i wr => ∃ k : Nat, k ≤ ts.length ∧ i = .int .i64 k ∧ (ts.take k).any p = false ∧ Below w.heap.size w wr) (fun i _ => ts.length - (intOf i).toNat)
  case atStart => exact ⟨0, Nat.zero_le _, rfl, rfl, Below.refl _ _⟩
  case round =>
    obtain ⟨k, hk, rfl, hno, hB⟩ := hrel
    by_cases hlt : k < ts.length
    · obtain ⟨b, off, rfl, hb, c0, c1⟩ := hw.load hB k hlt
      have hltI : (k : Int) < (ts.length : Int) := by omega
      have hc := hf wr hB k hlt
      clear hw hf
      by_cases he : p ts[k] = true
      · have HA : Hid (ts.any p = true) := any_at p ts k hlt he
        have HE : Hid (p ts[k] = true) := he
        clear he hno
        go_wp2_with fail
        refine (as_bool HE.out hc).mono ?_
        rintro e w2 ⟨rfl, hb2⟩
        go_wp2_with fail
        go_ret
        exact ⟨_, rfl, by rw [HA.out]; simp, hB.trans (hb2.mono hB.size)⟩
      · have he' : p ts[k] = false := by simpa using he
        have HS : Hid ((ts.take (k + 1)).any p = false) := by unfold Hid; rw [any_take_snoc p ts k hlt, hno, he']; rfl
        have HE : Hid (p ts[k] = false) := he'
        clear he he' hno
        go_wp2_with fail
        refine (as_bool HE.out hc).mono ?_
        rintro e w2 ⟨rfl, hb2⟩
        go_wp2_with fail
        exact ⟨⟨k + 1, by omega, by go_num, HS.out, hB.trans (hb2.mono hB.size)⟩, by simp [intOf]; omega⟩
    · have HA : Hid (ts.any p = false) := by unfold Hid; rw [← hno, List.take_of_length_le (by omega)]
      clear hno hw hf
      go_wp2_with fail
      go_ret
      exact ⟨_, rfl, by rw [HA.out]; rfl, hB⟩

set_option maxHeartbeats 400000 in
theorem ContainsFuncU_any (a : Option Addr) (cap : Nat) (ts : List Tm) (q : Value) (p : Tm → Bool) (w : World) (hw : TmsAt w a ts) (hf : TeamFn Tryz.prog 42 q ts w p) :
    Calls Tryz.prog 41 #[.slice a ts.length cap, .func (.func 42) #[] #[q]] w fun e w' => e = .returned (.bool (ts.any p)) ∧ Below w.heap.size w w' := by
  go_enter Tryz.func41, Tryz.ntmps41
  go_wp2_with fail
  refine (IndexFuncU_any _ _ _ _ _ _ hw hf).mono ?_
  rintro e w2 ⟨r, rfl, hr, hb2⟩
  go_wp2_with fail
  go_ret
  exact ⟨rfl, hb2⟩

set_option maxHeartbeats 400000 in
theorem isTeamFn_any (t : Tm) (v : ByteArray) (bn : Nat) (w : World) (hb : bn < w.heap.size) (hn : w.cell? ⟨bn, 0, none⟩ = some (.string v)) :
    Calls Tryz.prog 71 #[.agg t.cells, .pointer (some ⟨bn, 0, none⟩)] w fun e w' => e = .returned (.bool (t.nm.toList == v.toList)) ∧ Below w.heap.size w w' := by
  unfold Tm.cells
  go_enter Tryz.func71, Tryz.ntmps71
  go_wp2_with fail
  go_ret
  exact ⟨rfl, (Below.refl _ _).alloc (Nat.le_refl _) _⟩

theorem isTeamFn_fn (ts : List Tm) (v : ByteArray) (bn : Nat) (w : World) (hb : bn < w.heap.size) (hn : w.cell? ⟨bn, 0, none⟩ = some (.string v)) :
    TeamFn Tryz.prog 71 (.pointer (some ⟨bn, 0, none⟩)) ts w (fun t => decide (t.nm = v)) := fun w1 hB i hi => by
  refine (isTeamFn_any ts[i] v bn w1 (Nat.lt_of_lt_of_le hb hB.size) ((hB.cell (p := ⟨bn, 0, none⟩) hb).trans hn)).mono ?_
  rintro e w' ⟨rfl, hb'⟩
  exact ⟨ret_bool (Gate.beq_toList _ _), hb'⟩

set_option maxHeartbeats 400000 in
theorem isTeam_any (a : Option Addr) (cap : Nat) (ts : List Tm) (v : ByteArray) (w : World) (hw : TmsAt w a ts) :
    Calls Tryz.prog 40 #[.slice a ts.length cap, .string v] w fun e w' => e = .returned (.bool (Gate.hasTeam ts v)) ∧ Below w.heap.size w w' := by
  go_enter Tryz.func40, Tryz.ntmps40
  go_wp2_with fail
  refine (ContainsFuncT_any _ _ _ _ _ _ (hw.mono ((Below.refl _ _).alloc (Nat.le_refl _) _)) (isTeamFn_fn ts v _ _ (by simp) (by rw [World.cell?_alloc_at _ _ _ _ rfl]; rfl))).mono ?_
  rintro e w2 ⟨rfl, hb2⟩
  go_wp2_with fail
  go_ret
  exact ⟨rfl, ((Below.refl _ _).alloc (Nat.le_refl _) _).trans (hb2.mono (by simp))⟩

set_option maxHeartbeats 800000 in
theorem isTooDeep_any (a : Option Addr) (cap : Nat) (ts : List Tm) (t : Tm) (w : World) (hw : TmsAt w a ts) :
    Calls Tryz.prog 43 #[.slice a ts.length cap, .agg t.cells] w fun e w' => e = .returned (.bool (!Gate.deepOk ts t)) ∧ Below w.heap.size w w' := by
  unfold Tm.cells
  go_enter Tryz.func43, Tryz.ntmps43
  go_wp2_with fail
  go_loopw [5, 8] (fun p i wr => ∃ (k : Nat) (z : ByteArray), k ≤ 4 ∧ p = .string z ∧ i = .int .i64 k ∧ Gate.climb ts 4 t.ov = Gate.climb ts (4 - k) z ∧ Below w.heap.size w wr) (fun _ i _ => 4 - (intOf i).toNat)
  case atStart => exact ⟨0, t.ov, Nat.zero_le _, rfl, rfl, rfl, (Below.refl _ _).alloc (Nat.le_refl _) _⟩
  case round =>
    obtain ⟨k, z, hk, rfl, rfl, hz, hB⟩ := hrel
    by_cases hlt : k < 4
    · have hltI : (k : Int) < 4 := by omega
      have HZ : Hid (Gate.climb ts 4 t.ov = Gate.climb ts (4 - (k + 1)) (Gate.over ts z)) := by
        obtain ⟨m, hm⟩ : ∃ m, 4 - k = m + 1 := ⟨3 - k, by omega⟩
        rw [Hid, hz, hm, show 4 - (k + 1) = m by omega]; rfl
      clear hz
      go_wp2_with fail
      refine (overOf_any _ _ _ _ _ (hw.mono hB)).mono ?_
      rintro e w1 ⟨rfl, hb1⟩
      have hB1 := hB.trans (hb1.mono hB.size)
      clear hb1
      go_wp2_with fail
      exact ⟨⟨k + 1, Gate.over ts z, by omega, rfl, by go_num, HZ.out, hB1⟩, by simp [intOf]; omega⟩
    · have HF : Hid (Gate.deepOk ts t = z.toList.isEmpty) := by
        have e : 4 - k = 0 := by omega
        rw [e] at hz
        unfold Hid Gate.deepOk
        rw [hz, Gate.isEmpty_of_size]; rfl
      clear hz
      go_wp2_with fail
      go_ret
      exact ⟨ret_bool (by rw [HF.out]), hB⟩

set_option maxHeartbeats 400000 in
theorem deepFn_any (a : Option Addr) (cap : Nat) (ts : List Tm) (t : Tm) (bn : Nat) (w : World) (hw : TmsAt w a ts) (hb : bn < w.heap.size) (hn : w.cell? ⟨bn, 0, none⟩ = some (.slice a ts.length cap)) :
    Calls Tryz.prog 42 #[.agg t.cells, .pointer (some ⟨bn, 0, none⟩)] w fun e w' => e = .returned (.bool (!Gate.deepOk ts t)) ∧ Below w.heap.size w w' := by
  unfold Tm.cells
  go_enter Tryz.func42, Tryz.ntmps42
  go_wp2_with fail
  refine (isTooDeep_any _ _ _ t _ (hw.mono ((Below.refl _ _).alloc (Nat.le_refl _) _))).mono ?_
  rintro e w2 ⟨rfl, hb2⟩
  go_wp2_with fail
  go_ret
  exact ⟨rfl, ((Below.refl _ _).alloc (Nat.le_refl _) _).trans (hb2.mono (by simp))⟩

theorem deepFn_fn (a : Option Addr) (cap : Nat) (ts : List Tm) (bn : Nat) (w : World) (hw : TmsAt w a ts) (hb : bn < w.heap.size) (hn : w.cell? ⟨bn, 0, none⟩ = some (.slice a ts.length cap)) :
    TeamFn Tryz.prog 42 (.pointer (some ⟨bn, 0, none⟩)) ts w (fun t => !Gate.deepOk ts t) := fun w1 hB i _ =>
  deepFn_any a cap ts ts[i] bn w1 (hw.mono hB) (Nat.lt_of_lt_of_le hb hB.size) ((hB.cell (p := ⟨bn, 0, none⟩) hb).trans hn)

end Go.Proofs.YtliggnanlfbkiaaGreat
