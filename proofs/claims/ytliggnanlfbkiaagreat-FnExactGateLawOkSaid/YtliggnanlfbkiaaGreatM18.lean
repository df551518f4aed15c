import Derived.Test.YtliggnanlfbkiaaGreatM17
import Derived.Deep.QuietTactic
import Derived.BigQuiet
import Derived.Test.YtliggnanlfbkiaaGreatM15
namespace Go.Proofs.YtliggnanlfbkiaaGreat
open Go.RowKit

theorem place_ne {fs : List Fld} {k : Nat} (h : k < fs.length) (hh : Gate.hasName (fs.take k) fs[k].nm = true) : (Gate.fieldIx fs fs[k].nm != (k : Int)) = true := by
  obtain ⟨j, hj, e⟩ := Gate.hasName_first fs _ k h hh
  rw [e, bne_iff_ne]; omega

theorem place_eq {fs : List Fld} {k : Nat} (h : k < fs.length) (hh : Gate.hasName (fs.take k) fs[k].nm = false) : (Gate.fieldIx fs fs[k].nm != (k : Int)) = false := by
  rw [Gate.fieldIx_at fs _ k h hh rfl]; simp

set_option maxHeartbeats 2000000 in
theorem fieldsOk_any (r : Nat) (a0 : Option Addr) (cap0 : Nat) (ss : List Shp) (a : Option Addr) (cap : Nat) (fs : List Fld) (w : World) (hr : w.heap[r]? = some (.map kindEs 4)) (hss : ShpsAt w a0 ss) (hw : FldsAt w a fs) :
    Calls Tryz.prog 58 #[.map (some r), .slice a0 ss.length cap0, .slice a fs.length cap] w fun e w' => e = .returned (.bool (Gate.fieldsOk ss fs)) ∧ Below w.heap.size w w' := by
  have hl := hw.len
  unfold maxLen at hl
  have hrlt := (Array.getElem?_eq_some_iff.1 hr).1
  by_cases h6 : fs.length ≤ 6
  rotate_left
  · have HF : Hid (Gate.fieldsOk ss fs = false) := by simp [Hid, Gate.fieldsOk, h6]
    clear hw hr hss
    go_enter Tryz.func58, Tryz.ntmps58
    go_wp2
    go_ret
    exact ⟨ret_bool HF.out.symm, Below.refl _ _⟩
  have HG : Hid (Gate.fieldsOk ss fs = Gate.up (Gate.okAt ss fs) fs.length) := by simp [Hid, Gate.fieldsOk, h6]
  have h6I : (fs.length : Int) ≤ 6 := by omega
  go_enter Tryz.func58, Tryz.ntmps58
  go_wp2
  go_loopw [14] (fun i wr => ∃ k : Nat, k ≤ fs.length ∧ i = .int .i64 k ∧ Gate.up (Gate.okAt ss fs) k = true ∧ Below w.heap.size w wr) (fun i _ => fs.length - (intOf i).toNat)
  case atStart => exact ⟨0, Nat.zero_le _, rfl, rfl, Below.refl _ _⟩
  case round =>
    obtain ⟨k, hk, rfl, hup, hB⟩ := hrel
    have hsz := hB.size
    by_cases hlt : k < fs.length
    · obtain ⟨b, off, rfl, hb, hrw⟩ := hw.rows (by rintro rfl; simp at hlt)
      obtain ⟨wa, wcap, hf⟩ := hrw k hlt
      obtain ⟨c0, c1, c2, c3, c4, c5, c6, c7, c8, c9, c10⟩ := (hf.mono hb hB).load
      have hsm := hf.small
      have hst := hf.strs.mono hB
      have hfa := hw.mono hB
      have hsa := hss.mono hB
      have hra := (hB.block r hrlt).trans hr
      have HO := hid (Gate.okAt_eq ss fs k hlt)
      have HS : Hid (Gate.okAt ss fs k = true → Gate.up (Gate.okAt ss fs) (k + 1) = true) := fun h => by rw [Gate.up_succ, hup, h]; rfl
      have HN : Hid (Gate.okAt ss fs k = false → Gate.fieldsOk ss fs = false) := fun h => by rw [HG.out]; exact Gate.up_not hlt h
      clear hw hrw hf hup hss hr
      by_cases hn : Gate.nameOk fs[k].nm = true
      rotate_left
      · have HNm : Hid (Gate.nameOk fs[k].nm = false) := by simpa [Hid] using hn
        clear hn
        go_wp2_with fail
        refine (as_bool HNm.out (isName_any _ _ hsm.nm)).mono ?_
        rintro e w1 ⟨rfl, rfl⟩
        go_wp2_with fail
        go_ret
        exact ⟨ret_bool (HN.out (by rw [HO.out, HNm.out]; rfl)).symm, hB.alloc hsz _⟩
      have HNm := hid hn
      clear hn
      by_cases hh : Gate.hasName (fs.take k) fs[k].nm = true
      · have HH := hid hh
        have hpl := place_ne hlt hh
        clear hh
        go_wp2_with fail
        refine (as_bool HNm.out (isName_any _ _ hsm.nm)).mono ?_
        rintro e w1 ⟨rfl, rfl⟩
        go_wp2_with fail
        refine (fieldPlace_any _ _ _ _ _ (hfa.mono ((Below.refl _ _).alloc (Nat.le_refl _) _))).mono ?_
        rintro e w2 ⟨rfl, hb2⟩
        have hB2 : Below w.heap.size w w2 := (hB.alloc hsz _).trans (hb2.mono (by simp; omega))
        clear hb2
        go_wp2_with fail
        go_ret
        exact ⟨ret_bool (HN.out (by rw [HO.out, HNm.out, HH.out]; rfl)).symm, hB2⟩
      · have HH : Hid (Gate.hasName (fs.take k) fs[k].nm = false) := by simpa [Hid] using hh
        have hpl := place_eq hlt HH.out
        clear hh
        by_cases hok : Gate.fieldOk ss fs[k] = true
        all_goals
          first
            | (have HK : Hid (Gate.fieldOk ss fs[k] = true) := hok)
            | (have HK : Hid (Gate.fieldOk ss fs[k] = false) := by simpa [Hid] using hok)
          clear hok
          go_wp2_with fail
          refine (as_bool HNm.out (isName_any _ _ hsm.nm)).mono ?_
          rintro e w1 ⟨rfl, rfl⟩
          go_wp2_with fail
          refine (fieldPlace_any _ _ _ _ _ (hfa.mono ((Below.refl _ _).alloc (Nat.le_refl _) _))).mono ?_
          rintro e w2 ⟨rfl, hb2⟩
          have hX2 := box_later (box_new wr _ _) (by simp) hb2
          have hz2 : wr.heap.size < w2.heap.size := by have := hb2.size; simp at this; omega
          have hbr2 : Below wr.heap.size wr w2 := ((Below.refl _ _).alloc (Nat.le_refl _) _).trans (hb2.mono (by simp))
          have hB2 := hB.trans (hbr2.mono hsz)
          have hra2 : w2.heap[r]? = some (.map kindEs 4) := (hbr2.block r (by omega)).trans hra
          clear hb2
          go_wp2_with fail
          refine (as_bool HK.out (fieldOk_any _ _ _ _ _ _ _ _ _ _ _ _ _ _ _ _ _ _ hra2 hsm.df hsm.wg (hst.mono hbr2) (hsa.mono hbr2))).mono ?_
          rintro e w3 ⟨rfl, hb3⟩
          have hB3 : Below w.heap.size w w3 := hB2.trans (hb3.mono (by omega))
          clear hb3 hX2
          go_wp2_with fail
        · exact ⟨⟨k + 1, by omega, by go_num, HS.out (by rw [HO.out, HNm.out, HH.out, HK.out]; rfl), hB3⟩, by simp [intOf]; omega⟩
        · go_ret
          exact ⟨ret_bool (HN.out (by rw [HO.out, HNm.out, HH.out, HK.out]; rfl)).symm, hB3⟩
    · have HF : Hid (Gate.fieldsOk ss fs = true) := by
        have e : k = fs.length := by omega
        subst e; rw [HG.out]; exact hup
      clear hup hw
      go_wp2
      go_ret
      exact ⟨ret_bool HF.out.symm, hB⟩

end Go.Proofs.YtliggnanlfbkiaaGreat

namespace Go.Proofs.YtliggnanlfbkiaaGreat
open Go.RowKit

theorem fldsAt_of {w : World} {b off : Nat} {s : Shp} {fa : Option Addr} {fcap : Nat} (h : ShpIn w b off s fa fcap) : FldsAt w fa s.fs := h.flds

set_option maxHeartbeats 2000000 in
theorem implShapesOk_any (a : Option Addr) (cap : Nat) (ss : List Shp) (w : World) (hw : ShpsAt w a ss) :
    Calls Tryz.prog 34 #[.slice a ss.length cap] w fun e w' => e = .returned (.bool (Gate.shapesOk ss)) ∧ Below w.heap.size w w' := by
  have hl := hw.len
  unfold maxLen at hl
  by_cases h6 : ss.length ≤ 6
  rotate_left
  · have HF : Hid (Gate.shapesOk ss = false) := by simp [Hid, Gate.shapesOk, h6]
    clear hw
    go_enter Tryz.func34, Tryz.ntmps34
    go_wp2
    go_ret
    exact ⟨ret_bool HF.out.symm, Below.refl _ _⟩
  have HG : Hid (Gate.shapesOk ss = Gate.up (Gate.shapeAt ss) ss.length) := by simp [Hid, Gate.shapesOk, h6]
  have h6I : (ss.length : Int) ≤ 6 := by omega
  go_enter Tryz.func34, Tryz.ntmps34
  go_wp2_with fail
  refine (fieldKinds_any _).mono ?_
  rintro e w0 ⟨rfl, hw0⟩
  have hB00 : Below w.heap.size w w0 := by rw [hw0]; exact (Below.refl _ _).alloc (Nat.le_refl _) _
  have hr0 : w0.heap[w.heap.size]? = some (.map kindEs 4) := by rw [hw0]; exact alloc_at _ _
  have hz0 : w.heap.size < w0.heap.size := by rw [hw0]; simp
  clear hw0
  go_wp2_with fail
  go_loopw [12] (fun i wr => ∃ k : Nat, k ≤ ss.length ∧ i = .int .i64 k ∧ Gate.up (Gate.shapeAt ss) k = true ∧ Below w0.heap.size w0 wr) (fun i _ => ss.length - (intOf i).toNat)
  case atStart => exact ⟨0, Nat.zero_le _, rfl, rfl, Below.refl _ _⟩
  case round =>
    obtain ⟨k, hk, rfl, hup, hB⟩ := hrel
    have hsz := hB.size
    by_cases hlt : k < ss.length
    · obtain ⟨b, off, rfl, hb, hrw⟩ := hw.rows (by rintro rfl; simp at hlt)
      have hb0 : b < w0.heap.size := by omega
      have hall : ShpsAt wr (some ⟨b, off, none⟩) ss := (hw.mono hB00).mono hB
      obtain ⟨fa, fcap, hs⟩ := hrw k hlt
      have hs' := (hs.mono hb hB00).mono hb0 hB
      have hck := hs'.kind
      have hcl := hs'.list
      have hfl := hs'.flds
      have hsm := hs.small
      have hra : wr.heap[w.heap.size]? = some (.map kindEs 4) := (hB.block _ hz0).trans hr0
      have HS : Hid (Gate.shapeAt ss k = true → Gate.up (Gate.shapeAt ss) (k + 1) = true) := fun h => by rw [Gate.up_succ, hup, h]; rfl
      have HN : Hid (Gate.shapeAt ss k = false → Gate.shapesOk ss = false) := fun h => by rw [HG.out]; exact Gate.up_not hlt h
      have hltI : (k : Int) < (ss.length : Int) := by omega
      by_cases hn : Gate.nameOk ss[k].kd = true
      rotate_left
      · have HNm : Hid (Gate.nameOk ss[k].kd = false) := by simpa [Hid] using hn
        have HF : Hid (Gate.shapeAt ss k = false) := by
          unfold Hid Gate.shapeAt; rw [Gate.getD_at ss k _ hlt, HNm.out]; rfl
        clear hn hup hw hrw hs hs' hr0 hra
        go_wp2_with fail
        go_quiet ((go_at_call 39; exact Calls.quiet_of_same (as_bool HNm.out (isName_any _ _ hsm))))
        go_wp2_with fail
        go_ret
        exact ⟨ret_bool (HN.out HF.out).symm, hB00.trans ((below_drewN (hB.alloc hsz _) _).mono (by omega))⟩
      have HNm : Hid (Gate.nameOk ss[k].kd = true) := hn
      clear hn
      by_cases hk0 : k = 0
      · have HA : Hid (Gate.shapeAt ss k = Gate.fieldsOk ss ss[k].fs) := by subst hk0; unfold Hid; rw [Gate.shapeAt_first ss hlt, HNm.out]; rfl
        have hg : decide (0 < k) = false := by simp; omega
        clear hup hw hrw hs hs' hr0 hk0
        by_cases hok : Gate.fieldsOk ss ss[k].fs = true
        · have HK : Hid (Gate.fieldsOk ss ss[k].fs = true) := hok
          clear hok
          go_wp2_with fail
          go_quiet ((go_at_call 39; exact Calls.quiet_of_same (as_bool HNm.out (isName_any _ _ hsm))))
          go_wp2_with fail
          have hbr2 : Below wr.heap.size wr ((wr.alloc (.cells #[.string ss[k].kd, .slice fa ss[k].fs.length fcap] 65)).drewN nq) := below_drewN ((Below.refl _ _).alloc (Nat.le_refl _) _) _
          refine (as_bool HK.out (fieldsOk_any _ _ _ _ _ _ _ _ ((hbr2.block _ (by omega)).trans hra) (hall.mono hbr2) (hfl.mono hbr2))).mono ?_
          rintro e w3 ⟨rfl, hb3⟩
          have hB3 : Below w0.heap.size w0 w3 := (hB.trans (hbr2.mono hsz)).trans (hb3.mono (by simp; omega))
          clear hb3 hbr2
          go_wp2_with fail
          exact ⟨⟨k + 1, by omega, by go_num, HS.out (by rw [HA.out, HK.out]), hB3⟩, by simp [intOf]; omega⟩
        · have HK : Hid (Gate.fieldsOk ss ss[k].fs = false) := by simpa [Hid] using hok
          clear hok
          go_wp2_with fail
          go_quiet ((go_at_call 39; exact Calls.quiet_of_same (as_bool HNm.out (isName_any _ _ hsm))))
          go_wp2_with fail
          have hbr2 : Below wr.heap.size wr ((wr.alloc (.cells #[.string ss[k].kd, .slice fa ss[k].fs.length fcap] 65)).drewN nq) := below_drewN ((Below.refl _ _).alloc (Nat.le_refl _) _) _
          refine (as_bool HK.out (fieldsOk_any _ _ _ _ _ _ _ _ ((hbr2.block _ (by omega)).trans hra) (hall.mono hbr2) (hfl.mono hbr2))).mono ?_
          rintro e w3 ⟨rfl, hb3⟩
          have hB3 : Below w0.heap.size w0 w3 := (hB.trans (hbr2.mono hsz)).trans (hb3.mono (by simp; omega))
          clear hb3 hbr2
          go_wp2_with fail
          go_ret
          exact ⟨ret_bool (HN.out (by rw [HA.out, HK.out])).symm, hB00.trans (hB3.mono (by omega))⟩
      · obtain ⟨m, rfl⟩ : ∃ m, k = m + 1 := ⟨k - 1, by omega⟩
        obtain ⟨fam, fcapm, hsm0⟩ := hrw m (by omega)
        have hcm := ((hsm0.mono hb hB00).mono hb0 hB).kind
        have HA : Hid (Gate.shapeAt ss (m + 1) = (Gate.less ss[m].kd ss[m + 1].kd && Gate.fieldsOk ss ss[m + 1].fs)) := by unfold Hid; rw [Gate.shapeAt_more ss m hlt, HNm.out]; rfl
        have hmI : (m : Int) < 6 := by omega
        have hm0 : (0 : Int) ≤ (m : Int) := by omega
        have hbr : b < wr.heap.size := by omega
        have hml : (m : Int) < (ss.length : Int) := by omega
        have hmw : IntKind.i64.wrap (m : Int) = m := by rw [IntKind.wrap_i64]; omega
        clear hup hw hrw hs hs' hr0 hk0 hsm0
        by_cases hls : Gate.less ss[m].kd ss[m + 1].kd = true
        rotate_left
        · have hls' : Op.bytesLess ss[m].kd.toList ss[m + 1].kd.toList = false := by simpa [Gate.less] using hls
          have HLS : Hid (Gate.less ss[m].kd ss[m + 1].kd = false) := hls'
          clear hls
          go_wp2_with fail
          go_quiet ((go_at_call 39; exact Calls.quiet_of_same (as_bool HNm.out (isName_any _ _ hsm))))
          go_wp2_with fail
          go_ret
          exact ⟨ret_bool (HN.out (by rw [HA.out, HLS.out]; rfl)).symm, hB00.trans ((below_drewN (hB.alloc hsz _) _).mono (by omega))⟩
        have hls' : Op.bytesLess ss[m].kd.toList ss[m + 1].kd.toList = true := hls
        have HLS : Hid (Gate.less ss[m].kd ss[m + 1].kd = true) := hls
        clear hls
        by_cases hok : Gate.fieldsOk ss ss[m + 1].fs = true
        · have HK : Hid (Gate.fieldsOk ss ss[m + 1].fs = true) := hok
          clear hok
          go_wp2_with fail
          go_quiet ((go_at_call 39; exact Calls.quiet_of_same (as_bool HNm.out (isName_any _ _ hsm))))
          go_wp2_with fail
          have hbr2 : Below wr.heap.size wr ((wr.alloc (.cells #[.string ss[m + 1].kd, .slice fa ss[m + 1].fs.length fcap] 65)).drewN nq) := below_drewN ((Below.refl _ _).alloc (Nat.le_refl _) _) _
          refine (as_bool HK.out (fieldsOk_any _ _ _ _ _ _ _ _ ((hbr2.block _ (by omega)).trans hra) (hall.mono hbr2) (hfl.mono hbr2))).mono ?_
          rintro e w3 ⟨rfl, hb3⟩
          have hB3 : Below w0.heap.size w0 w3 := (hB.trans (hbr2.mono hsz)).trans (hb3.mono (by simp; omega))
          clear hb3 hbr2
          go_wp2_with fail
          exact ⟨⟨m + 1 + 1, by omega, by go_num, HS.out (by rw [HA.out, HLS.out, HK.out]; rfl), hB3⟩, by simp [intOf]; omega⟩
        · have HK : Hid (Gate.fieldsOk ss ss[m + 1].fs = false) := by simpa [Hid] using hok
          clear hok
          go_wp2_with fail
          go_quiet ((go_at_call 39; exact Calls.quiet_of_same (as_bool HNm.out (isName_any _ _ hsm))))
          go_wp2_with fail
          have hbr2 : Below wr.heap.size wr ((wr.alloc (.cells #[.string ss[m + 1].kd, .slice fa ss[m + 1].fs.length fcap] 65)).drewN nq) := below_drewN ((Below.refl _ _).alloc (Nat.le_refl _) _) _
          refine (as_bool HK.out (fieldsOk_any _ _ _ _ _ _ _ _ ((hbr2.block _ (by omega)).trans hra) (hall.mono hbr2) (hfl.mono hbr2))).mono ?_
          rintro e w3 ⟨rfl, hb3⟩
          have hB3 : Below w0.heap.size w0 w3 := (hB.trans (hbr2.mono hsz)).trans (hb3.mono (by simp; omega))
          clear hb3 hbr2
          go_wp2_with fail
          go_ret
          exact ⟨ret_bool (HN.out (by rw [HA.out, HLS.out, HK.out]; rfl)).symm, hB00.trans (hB3.mono (by omega))⟩
    · have HF : Hid (Gate.shapesOk ss = true) := by
        have e : k = ss.length := by omega
        subst e; rw [HG.out]; exact hup
      clear hup hw
      go_wp2
      go_ret
      exact ⟨ret_bool HF.out.symm, hB00.trans (hB.mono (by omega))⟩

end Go.Proofs.YtliggnanlfbkiaaGreat

namespace Go.Proofs.YtliggnanlfbkiaaGreat
open Go.RowKit

namespace Gate
theorem field_cases (fs : List Fld) (v : ByteArray) : (fieldIx fs v = -1 ∧ fs.find? (fun f => decide (f.nm = v)) = none) ∨ ∃ i, ∃ h : i < fs.length, fieldIx fs v = (i : Int) ∧ fs[i].nm = v ∧ fs.find? (fun f => decide (f.nm = v)) = some fs[i] := by
  cases hf : fs.findIdx? (fun f => decide (f.nm = v)) with
  | none =>
    left
    refine ⟨by unfold fieldIx; rw [hf], ?_⟩
    rw [List.findIdx?_eq_none_iff] at hf
    rw [List.find?_eq_none]
    intro x hx
    have := hf x hx
    simpa using this
  | some i =>
    right
    rw [List.findIdx?_eq_some_iff_getElem] at hf
    obtain ⟨hi, h1, h2⟩ := hf
    refine ⟨i, hi, ?_, by simpa using h1, ?_⟩
    · unfold fieldIx
      have : fs.findIdx? (fun f => decide (f.nm = v)) = some i := by rw [List.findIdx?_eq_some_iff_getElem]; exact ⟨hi, h1, h2⟩
      rw [this]
    · rw [List.find?_eq_some_iff_append]
      refine ⟨h1, fs.take i, fs.drop (i + 1), ?_, ?_⟩
      · conv => lhs; rw [← List.take_append_drop i fs, List.drop_eq_getElem_cons hi]
      · intro a ha
        obtain ⟨k, hk, rfl⟩ := List.mem_iff_getElem.1 ha
        have hk' : k < i := by simp at hk; omega
        have := h2 k hk'
        simpa using this

/-- A name is that of a field that is no link. -/
def plain (fs : List Fld) (v : ByteArray) : Bool := match fs.find? (fun f => decide (f.nm = v)) with | some f => decide (f.kd ≠ 4) | none => false
def fieldOf (fs : List Fld) (v : ByteArray) : Fld := (fs.find? fun f => decide (f.nm = v)).getD noField
theorem plain_none {fs : List Fld} {v : ByteArray} (h : fs.find? (fun f => decide (f.nm = v)) = none) : plain fs v = false := by unfold plain; rw [h]
theorem plain_some {fs : List Fld} {v : ByteArray} {f : Fld} (h : fs.find? (fun f => decide (f.nm = v)) = some f) : plain fs v = decide (f.kd ≠ 4) := by unfold plain; rw [h]
end Gate

theorem kd_ne (k : Int) : Ending.returned (.bool (k != 4)) = Ending.returned (.bool (decide (k ≠ 4))) := by
  by_cases h : k = 4
  · subst h; rfl
  · have h1 : (k != 4) = true := by rw [bne_iff_ne]; exact h
    rw [h1, decide_eq_true h]

set_option maxHeartbeats 1000000 in
theorem isMendable_any (a : Option Addr) (cap : Nat) (fs : List Fld) (v : ByteArray) (w : World) (hw : FldsAt w a fs) :
    Calls Tryz.prog 63 #[.slice a fs.length cap, .string v] w fun e w' => e = .returned (.bool (Gate.plain fs v)) ∧ Below w.heap.size w w' := by
  have hl := hw.len
  unfold maxLen at hl
  rcases Gate.field_cases fs v with ⟨h1, h2⟩ | ⟨i, hi, h1, h2, h3⟩
  · have HP : Hid (Gate.plain fs v = false) := Gate.plain_none h2
    go_enter Tryz.func63, Tryz.ntmps63
    go_wp2_with fail
    have h := fieldPlace_any a cap fs v w hw
    rw [h1] at h
    refine h.mono ?_
    rintro e w1 ⟨rfl, hb1⟩
    clear h
    go_wp2_with fail
    go_ret
    exact ⟨by rw [HP.out]; rfl, hb1⟩
  · have HP : Hid (Gate.plain fs v = decide (fs[i].kd ≠ 4)) := Gate.plain_some h3
    obtain ⟨b, off, rfl, hb, hr⟩ := hw.rows (by rintro rfl; simp at hi)
    obtain ⟨wa, wcap, hf0⟩ := hr i hi
    go_enter Tryz.func63, Tryz.ntmps63
    go_wp2_with fail
    have h := fieldPlace_any (some ⟨b, off, none⟩) cap fs v w hw
    rw [h1] at h
    refine h.mono ?_
    rintro e w1 ⟨rfl, hb1⟩
    obtain ⟨c0, c1, c2, c3, c4, c5, c6, c7, c8, c9, c10⟩ := (hf0.mono hb hb1).load
    have hiI : (i : Int) < (fs.length : Int) := by omega
    have hge : decide ((i : Int) ≥ 0) = true := by simp
    have hb1w : b < w1.heap.size := Nat.lt_of_lt_of_le hb hb1.size
    clear h hw hr hf0 h3 h2 h1
    go_wp2_with fail
    go_ret
    exact ⟨by rw [HP.out]; exact kd_ne fs[i].kd, hb1⟩

end Go.Proofs.YtliggnanlfbkiaaGreat
