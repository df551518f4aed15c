import Derived.Test.YthclaldbcfljfabGreatDoorXH
namespace Go.Proofs.YthclaldbcfljfabGreatDoor
open Go.RowKit

theorem place_ne {fs : List Fld} {k : Nat} (h : k < fs.length) (hh : Gate.hasName (fs.take k) fs[k].nm = true) : (Gate.fieldIx fs fs[k].nm != (k : Int)) = true := by
  obtain ⟨j, hj, e⟩ := Gate.hasName_first fs _ k h hh
  rw [e, bne_iff_ne]; omega

theorem place_eq {fs : List Fld} {k : Nat} (h : k < fs.length) (hh : Gate.hasName (fs.take k) fs[k].nm = false) : (Gate.fieldIx fs fs[k].nm != (k : Int)) = false := by
  rw [Gate.fieldIx_at fs _ k h hh rfl]; simp

set_option maxHeartbeats 2000000 in
theorem fieldsOk_any (r : Nat) (a0 : Option Addr) (cap0 : Nat) (ss : List Shp) (a : Option Addr) (cap : Nat) (fs : List Fld) (w : World) (hr : w.heap[r]? = some (.map kindEs 4)) (hss : ShpsAt w a0 ss) (hw : FldsAt w a fs) :
    Calls Tryz.prog 30 #[.map (some r), .slice a0 ss.length cap0, .slice a fs.length cap] w fun e w' => e = .returned (.bool (Gate.fieldsOk ss fs)) ∧ Below w.heap.size w w' := by
  have hl := hw.len
  unfold maxLen at hl
  have hrlt : r < w.heap.size := (Array.getElem?_eq_some_iff.1 hr).1
  by_cases h6 : fs.length ≤ 6
  rotate_left
  · have HF : Hid (Gate.fieldsOk ss fs = false) := by simp [Hid, Gate.fieldsOk, h6]
    clear hw hr hss
    go_enter Tryz.func30, Tryz.ntmps30
    go_wp2
    go_ret
    exact ⟨ret_bool HF.out.symm, Below.refl _ _⟩
  have HG : Hid (Gate.fieldsOk ss fs = Gate.up (Gate.okAt ss fs) fs.length) := by simp [Hid, Gate.fieldsOk, h6]
  have h6I : (fs.length : Int) ≤ 6 := by omega
  go_enter Tryz.func30, Tryz.ntmps30
  go_wp2
  go_loopw [14] (fun i wr => ∃ k : Nat, k ≤ fs.length ∧ i = .int .i64 k ∧ Gate.up (Gate.okAt ss fs) k = true ∧ Below w.heap.size w wr) (fun i _ => fs.length - (intOf i).toNat)
  case atStart => exact ⟨0, Nat.zero_le _, rfl, rfl, Below.refl _ _⟩
  case round =>
    obtain ⟨k, hk, rfl, hup, hB⟩ := hrel
    have hsz := hB.size
    by_cases hlt : k < fs.length
    · obtain ⟨b, off, rfl, hb, hrw⟩ := hw.rows (by rintro rfl; simp at hlt)
      obtain ⟨wa, wcap, hf⟩ := hrw k hlt
      obtain ⟨c0, c1, c2, c3, c4, c5, c6, c7, c8, c9, c10⟩ := (hf.mono hb hB).load
      have hsm := hf.small
      have hst := hf.strs.mono hB
      have hfa : FldsAt wr (some ⟨b, off, none⟩) fs := hw.mono hB
      have hsa : ShpsAt wr a0 ss := hss.mono hB
      have hra : wr.heap[r]? = some (.map kindEs 4) := (hB.block r hrlt).trans hr
      have HO : Hid (Gate.okAt ss fs k = (Gate.nameOk fs[k].nm && !Gate.hasName (fs.take k) fs[k].nm && Gate.fieldOk ss fs[k])) := Gate.okAt_eq ss fs k hlt
      have HS : Hid (Gate.okAt ss fs k = true → Gate.up (Gate.okAt ss fs) (k + 1) = true) := fun h => by rw [Gate.up_succ, hup, h]; rfl
      have HN : Hid (Gate.okAt ss fs k = false → Gate.fieldsOk ss fs = false) := fun h => by rw [HG.out]; exact Gate.up_not hlt h
      clear hw hrw hf hup hss hr
      by_cases hn : Gate.nameOk fs[k].nm = true
      rotate_left
      · have HNm : Hid (Gate.nameOk fs[k].nm = false) := by simpa [Hid] using hn
        clear hn
        go_wp2_with fail
        refine (as_bool HNm.out (isName_any _ _ hsm.nm)).mono ?_
        rintro e w1 ⟨rfl, rfl⟩
        go_wp2_with fail
        go_ret
        exact ⟨ret_bool (HN.out (by rw [HO.out, HNm.out]; rfl)).symm, hB.alloc hsz _⟩
      have HNm : Hid (Gate.nameOk fs[k].nm = true) := hn
      clear hn
      by_cases hh : Gate.hasName (fs.take k) fs[k].nm = true
      · have HH : Hid (Gate.hasName (fs.take k) fs[k].nm = true) := hh
        have hpl := place_ne hlt hh
        clear hh
        go_wp2_with fail
        refine (as_bool HNm.out (isName_any _ _ hsm.nm)).mono ?_
        rintro e w1 ⟨rfl, rfl⟩
        go_wp2_with fail
        refine (fieldPlace_any _ _ _ _ _ (hfa.mono ((Below.refl _ _).alloc (Nat.le_refl _) _))).mono ?_
        rintro e w2 ⟨rfl, hb2⟩
        have hB2 : Below w.heap.size w w2 := (hB.alloc hsz _).trans (hb2.mono (by simp; omega))
        clear hb2
        go_wp2_with fail
        go_ret
        exact ⟨ret_bool (HN.out (by rw [HO.out, HNm.out, HH.out]; rfl)).symm, hB2⟩
      · have HH : Hid (Gate.hasName (fs.take k) fs[k].nm = false) := by simpa [Hid] using hh
        have hpl := place_eq hlt HH.out
        clear hh
        by_cases hok : Gate.fieldOk ss fs[k] = true
        all_goals
          first
            | (have HK : Hid (Gate.fieldOk ss fs[k] = true) := hok)
            | (have HK : Hid (Gate.fieldOk ss fs[k] = false) := by simpa [Hid] using hok)
          clear hok
          go_wp2_with fail
          refine (as_bool HNm.out (isName_any _ _ hsm.nm)).mono ?_
          rintro e w1 ⟨rfl, rfl⟩
          go_wp2_with fail
          refine (fieldPlace_any _ _ _ _ _ (hfa.mono ((Below.refl _ _).alloc (Nat.le_refl _) _))).mono ?_
          rintro e w2 ⟨rfl, hb2⟩
          have hX2 := box_later (box_new wr _ _) (by simp) hb2
          have hz2 : wr.heap.size < w2.heap.size := by have := hb2.size; simp at this; omega
          have hbr2 : Below wr.heap.size wr w2 := ((Below.refl _ _).alloc (Nat.le_refl _) _).trans (hb2.mono (by simp))
          have hB2 : Below w.heap.size w w2 := hB.trans (hbr2.mono hsz)
          have hra2 : w2.heap[r]? = some (.map kindEs 4) := (hbr2.block r (by omega)).trans hra
          clear hb2
          go_wp2_with fail
          refine (as_bool HK.out (fieldOk_any _ _ _ _ _ _ _ _ _ _ _ _ _ _ _ _ _ _ hra2 hsm.df hsm.wg (hst.mono hbr2) (hsa.mono hbr2))).mono ?_
          rintro e w3 ⟨rfl, hb3⟩
          have hB3 : Below w.heap.size w w3 := hB2.trans (hb3.mono (by omega))
          clear hb3 hX2
          go_wp2_with fail
        · exact ⟨⟨k + 1, by omega, by go_num, HS.out (by rw [HO.out, HNm.out, HH.out, HK.out]; rfl), hB3⟩, by simp [intOf]; omega⟩
        · go_ret
          exact ⟨ret_bool (HN.out (by rw [HO.out, HNm.out, HH.out, HK.out]; rfl)).symm, hB3⟩
    · have HF : Hid (Gate.fieldsOk ss fs = true) := by
        have e : k = fs.length := by omega
        subst e; rw [HG.out]; exact hup
      clear hup hw
      go_wp2
      go_ret
      exact ⟨ret_bool HF.out.symm, hB⟩

end Go.Proofs.YthclaldbcfljfabGreatDoor
