import Derived.Test.YtpmlngcljbkchaaGreatM24
import Derived.Test.YtpmlngcljbkchaaGreatM23
namespace Go.Proofs.YtpmlngcljbkchaaGreat
open Go.RowKit

namespace Gate
def readsI (s : Shp) (ms : List Mnd) (p : Nat) : List Int := ms.flatMap fun m => if turns m s p = true then (readNames m).map (fieldIx s.fs) else []
theorem readsI_snoc (s : Shp) (ms : List Mnd) (p k : Nat) (h : k < ms.length) : readsI s (ms.take (k + 1)) p = readsI s (ms.take k) p ++ if turns ms[k] s p = true then (readNames ms[k]).map (fieldIx s.fs) else [] := by
  unfold readsI
  rw [List.take_succ_eq_append_getElem h, List.flatMap_append]
  simp
theorem readNames_le (m : Mnd) : (readNames m).length ≤ 2 := List.length_filter_le _ _
theorem readsI_le (s : Shp) (p : Nat) : ∀ ms : List Mnd, (readsI s ms p).length ≤ ms.length * 2
  | [] => Nat.le_refl _
  | m :: ms => by
    have h1 := readsI_le s p ms
    have h2 := readNames_le m
    unfold readsI at h1 ⊢
    rw [List.flatMap_cons, List.length_append, List.length_cons]
    by_cases h : turns m s p = true
    · rw [if_pos h, List.length_map]; omega
    · rw [if_neg h, List.length_nil]; omega
end Gate

theorem rows_apart {w : World} {lo lo' : Nat} {e e' : TypeId} {v v' : Value} {n n' : Nat} {xs xs' : List Value} (h : w.ownsRow lo e 1 v n xs) (h' : w.ownsRow lo' e' 1 v' n' xs') (he : e ≠ e') : ∀ g, v.ownBlock = some g → ∀ g', v'.ownBlock = some g' → g ≠ g' := by
  intro g hg g' hg' hgg
  subst hgg
  obtain ⟨_, ⟨rfl, _⟩ | ⟨b, cap, cur, rfl, _, hh, _⟩⟩ := h
  · cases hg
  · obtain ⟨_, ⟨rfl, _⟩ | ⟨b', cap', cur', rfl, _, hh', _⟩⟩ := h'
    · cases hg'
    · have e1 : b = g := Option.some.inj hg
      have e2 : b' = g := Option.some.inj hg'
      rw [e1] at hh
      rw [e2, hh] at hh'
      simp only [Option.some.injEq, Obj.cells.injEq] at hh'
      exact he hh'.2.1

def ints (l : List Int) : List Value := l.map (Value.int .i64)

set_option maxRecDepth 20000 in
set_option maxHeartbeats 4000000 in
theorem readsOf_any (s : Shp) (ms : List Mnd) (p bm bs : Nat) (ma fa : Option Addr) (mcap fcap : Nat) (w : World) (hm : MndsAt w ma ms) (hf : FldsAt w fa s.fs) (hp : p < s.fs.length) (hl : ms.length ≤ 1048576)
    (hbs : bs < w.heap.size) (hcm : w.cell? ⟨bm, 0, none⟩ = some (.slice ma ms.length mcap)) (hcs : ∀ j, w.cell? ⟨bs, j, none⟩ = (#[.string s.kd, .slice fa s.fs.length fcap] : Array Value)[j]?) :
    Calls Tryz.prog 95 #[.int .i64 p, .pointer (some ⟨bm, 0, none⟩), .pointer (some ⟨bs, 0, none⟩)] w fun e w' => ∃ v, e = .returned v ∧ w'.ownsRow w.heap.size 3 1 v (Gate.readsI s ms p).length (ints (Gate.readsI s ms p)) ∧ Below w.heap.size w w' := by
  obtain ⟨i0, hi, hz0, hz1', hz2⟩ := info_parts Tryz.infoInt
  have HM : Hid (MndsAt w ma ms) := hm
  have HF : Hid (FldsAt w fa s.fs) := hf
  clear hm hf
  go_enter Tryz.func95, Tryz.ntmps95
  go_wp2_with fail
  go_loopw [5, 12] (fun v0 iv wr => ∃ (k : Nat) (v : Value), v = v0 ∧ k ≤ ms.length ∧ iv = .int .i64 k ∧ wr.ownsRow w.heap.size 3 1 v (Gate.readsI s (ms.take k) p).length (ints (Gate.readsI s (ms.take k) p)) ∧ Below w.heap.size w wr) (fun _ iv _ => ms.length - (intOf iv).toNat)
  case atStart => exact ⟨0, _, rfl, Nat.zero_le _, rfl, World.ownsRow_nil _ _ _ _, Below.refl _ _⟩
  case round =>
    obtain ⟨k, v, hv, hk, rfl, hown, hB⟩ := hrel
    subst hv
    by_cases hlt : k < ms.length
    · obtain ⟨b, off, rfl, hb, c0, c1, c2, c3, c4, c5⟩ := HM.out.load hB k hlt
      have hltI : (k : Int) < (ms.length : Int) := by omega
      have hbw : b < wr.heap.size := Nat.lt_of_lt_of_le hb hB.size
      have hcsr := box_later hcs hbs hB
      have hbsr : bs < wr.heap.size := Nat.lt_of_lt_of_le hbs hB.size
      have HW : Hid (wr.ownsRow w.heap.size 3 1 v (Gate.readsI s (ms.take k) p).length (ints (Gate.readsI s (ms.take k) p))) := hown
      have HB : Hid (Below w.heap.size w wr) := hB
      clear hown hB
      go_wp2_with fail
      have hba := (Below.refl wr.heap.size wr).alloc (Nat.le_refl _) (.cells #[.string ms[k].kd, .string ms[k].fd, .string ms[k].wh, .string ms[k].wi, .string ms[k].pt, .string ms[k].fr] 90)
      have ht := turns_any ms[k] s fa fcap p (wr.alloc (.cells #[.string ms[k].kd, .string ms[k].fd, .string ms[k].wh, .string ms[k].wi, .string ms[k].pt, .string ms[k].fr] 90)) (HF.out.mono (HB.out.trans (hba.mono HB.out.size))) hp
      by_cases htt : Gate.turns ms[k] s p = true
      · have HS : Hid (Gate.readsI s (ms.take (k + 1)) p = Gate.readsI s (ms.take k) p ++ (Gate.readNames ms[k]).map (Gate.fieldIx s.fs)) := by unfold Hid; rw [Gate.readsI_snoc s ms p k hlt, if_pos htt]
        rw [htt] at ht
        refine ht.mono ?_
        rintro e w1 ⟨rfl, hb1⟩
        have hX1 := box_later (box_new wr _ _) (by simp) hb1
        have HB1 : Hid (Below wr.heap.size wr w1) := hba.trans (hb1.mono hba.size)
        have hz1 : wr.heap.size < w1.heap.size := by have := hb1.size; simp at this; omega
        have hcs1 := box_later hcsr hbsr HB1.out
        clear ht hba hb1 c0 c1 c2 c3 c4 c5
        go_wp2_with fail
        refine (readNames_any ms[k] w1).mono ?_
        rintro e w2 ⟨nv, rfl, hn, hb2⟩
        obtain ⟨na, ncap, rfl⟩ := ownsRow_slice hn
        have HN2 : Hid (w2.ownsRow w1.heap.size 9 1 (.slice na (Gate.readNames ms[k]).length ncap) (Gate.readNames ms[k]).length ((Gate.readNames ms[k]).map Value.string)) := hn
        have HB2 : Hid (Below wr.heap.size wr w2) := HB1.out.trans (hb2.mono HB1.out.size)
        have HW2 : Hid (w2.ownsRow w.heap.size 3 1 v (Gate.readsI s (ms.take k) p).length (ints (Gate.readsI s (ms.take k) p))) := ownsRow_later HW.out HB2.out
        have HNL : Hid ((Gate.readNames ms[k]).length ≤ 2) := Gate.readNames_le _
        have HRL : Hid ((Gate.readsI s (ms.take k) p).length ≤ 2097152) := by have h1 := Gate.readsI_le s p (ms.take k); rw [List.length_take] at h1; show _ ≤ _; omega
        have hcs2 := box_later hcs1 (Nat.lt_trans hbsr hz1) hb2
        clear hn hb2 hX1 hcs1 hcsr
        revert HS HN2 HNL
        generalize Gate.readNames ms[k] = names
        intro HS HN2 HNL
        go_wp2_with fail
        have hszw : wr.heap.size ≤ w2.heap.size := HB2.out.size
        go_loopw [5, 24] (fun v0 iv wq => ∃ (j : Nat) (v1 : Value), v1 = v0 ∧ j ≤ names.length ∧ iv = .int .i64 j ∧ wq.ownsRow w.heap.size 3 1 v1 ((Gate.readsI s (ms.take k) p) ++ (names.take j).map (Gate.fieldIx s.fs)).length (ints ((Gate.readsI s (ms.take k) p) ++ (names.take j).map (Gate.fieldIx s.fs))) ∧ wq.ownsRow w1.heap.size 9 1 (.slice na names.length ncap) names.length (names.map Value.string) ∧ Below w.heap.size w wq) (fun _ iv _ => names.length - (intOf iv).toNat)
        case atStart => exact ⟨0, _, rfl, Nat.zero_le _, rfl, by simpa using HW2.out, HN2.out, HB.out.trans (HB2.out.mono HB.out.size)⟩
        case round =>
          obtain ⟨j, v1, hv1, hj, rfl, hown, hnames, hB⟩ := hrel
          subst hv1
          by_cases hjl : j < names.length
          · obtain ⟨g, rfl, hcell⟩ : ∃ g, na = some ⟨g, 0, none⟩ ∧ wr.cell? ⟨g, j, none⟩ = some (.string names[j]) := by
              obtain ⟨_, ⟨h0, h1⟩ | ⟨g, cap, cur, h0, h1⟩⟩ := id hnames
              · rw [h1] at hjl; exact absurd hjl (by omega)
              · cases h0
                refine ⟨g, rfl, ?_⟩
                rw [hnames.cellAt j (by omega)]
                simp [hjl]
            have hjI : (j : Int) < (names.length : Int) := by omega
            have hcsr := box_later hcs hbs hB
            have hbsr' : bs < wr.heap.size := Nat.lt_of_lt_of_le hbs hB.size
            have HX : Hid (wr.ownsRow w.heap.size 3 1 v1 ((Gate.readsI s (ms.take k) p) ++ (names.take j).map (Gate.fieldIx s.fs)).length (ints ((Gate.readsI s (ms.take k) p) ++ (names.take j).map (Gate.fieldIx s.fs))) ∧ wr.ownsRow w1.heap.size 9 1 (.slice (some ⟨g, 0, none⟩) names.length ncap) names.length (names.map Value.string) ∧ Below w.heap.size w wr) := ⟨hown, hnames, hB⟩
            have HTK : Hid ((names.take (j + 1)).map (Gate.fieldIx s.fs) = (names.take j).map (Gate.fieldIx s.fs) ++ [Gate.fieldIx s.fs names[j]]) := by unfold Hid; rw [List.take_succ_eq_append_getElem hjl, List.map_append]; rfl
            have HLL : Hid (((Gate.readsI s (ms.take k) p) ++ (names.take j).map (Gate.fieldIx s.fs)).length ≤ 2097156) := by have h1 := HRL.out; have h2 := HNL.out; show _ ≤ _; rw [List.length_append, List.length_map, List.length_take]; omega
            clear hown hnames hB
            go_wp2_with fail
            refine (fieldPlace_any fa fcap s.fs names[j] wr (HF.out.mono HX.out.2.2)).mono ?_
            rintro e w3 ⟨rfl, hb3⟩
            have HB3 : Hid (Below wr.heap.size wr w3) := hb3
            have HX3 : Hid (w3.ownsRow w.heap.size 3 1 v1 ((Gate.readsI s (ms.take k) p) ++ (names.take j).map (Gate.fieldIx s.fs)).length (ints ((Gate.readsI s (ms.take k) p) ++ (names.take j).map (Gate.fieldIx s.fs))) ∧ w3.ownsRow w1.heap.size 9 1 (.slice (some ⟨g, 0, none⟩) names.length ncap) names.length (names.map Value.string) ∧ Below w.heap.size w w3) := ⟨ownsRow_later HX.out.1 hb3, ownsRow_later HX.out.2.1 hb3, HX.out.2.2.trans (hb3.mono HX.out.2.2.size)⟩
            clear hb3 hcell hcsr
            go_wp2_with (at_builtin; refine wpList_append_own _ rfl (.tmp 28) (.tmp 33) 28 rfl w.heap.size 3 i0 (.int .i64 0) 1 8 Tryz.underlying28 hi hz0 hz1' hz2 rfl (by decide) _ _ _ rfl (HX3.out.1.alloc _) ⟨w3.heap.size, 0, none⟩ 1 1 [.int .i64 (Gate.fieldIx s.fs names[j])] rfl rfl (one_news _ _ _) (by intro u hu; simp at hu; subst hu; rfl) (by have := HLL.out; unfold maxLen; omega) (by have := HLL.out; omega) (by have := HX3.out.2.2.size; simp; omega) ?_; intro v' w4 hown' hgr _)
            have hgb : ∀ g', v1.ownBlock = some g' → w.heap.size ≤ g' := fun g' hg' => (HX3.out.1.lt g' hg').1
            have hap := rows_apart HX3.out.1 HX3.out.2.1 (by decide)
            refine ⟨⟨j + 1, _, rfl, by omega, by rw [wrap_one (by have := HNL.out; omega)], ?_, ?_, grown_below HX3.out.2.2 HX3.out.2.2.size hgr hgb⟩, step_less hjl (by have := HNL.out; omega)⟩
            · rw [HTK.out, ← List.append_assoc, List.length_append]
              have e1 : ints ((Gate.readsI s (ms.take k) p ++ (names.take j).map (Gate.fieldIx s.fs)) ++ [Gate.fieldIx s.fs names[j]]) = ints (Gate.readsI s (ms.take k) p ++ (names.take j).map (Gate.fieldIx s.fs)) ++ [.int .i64 (Gate.fieldIx s.fs names[j])] := by simp [ints]
              rw [e1]
              exact hown'
            · refine ownsRow_same HX3.out.2.1 (fun g' hg' => ?_)
              rw [grown_block hgr (by have := (HX3.out.2.1.lt g' hg').2; simp; omega) (fun q hq => fun e => hap q hq g' hg' e.symm), Below.heap_alloc _ _ _ (HX3.out.2.1.lt g' hg').2]
          · have e : j = names.length := by omega
            subst e
            rw [List.take_of_length_le (Nat.le_refl _), ← HS.out] at hown
            have HX : Hid (wr.ownsRow w.heap.size 3 1 v1 (Gate.readsI s (ms.take (k + 1)) p).length (ints (Gate.readsI s (ms.take (k + 1)) p)) ∧ Below w.heap.size w wr) := ⟨hown, hB⟩
            clear hown hnames hB
            go_wp2_with fail
            exact ⟨⟨k + 1, _, rfl, by omega, by go_num, HX.out.1, HX.out.2⟩, step_less' hlt⟩
      · have htf : Gate.turns ms[k] s p = false := by simpa using htt
        have HS : Hid (Gate.readsI s (ms.take (k + 1)) p = Gate.readsI s (ms.take k) p) := by unfold Hid; rw [Gate.readsI_snoc s ms p k hlt, if_neg htt]; simp
        rw [htf] at ht
        refine ht.mono ?_
        rintro e w1 ⟨rfl, hb1⟩
        have HB1 : Hid (Below wr.heap.size wr w1) := hba.trans (hb1.mono hba.size)
        clear ht hba hb1
        go_wp2_with fail
        exact ⟨⟨k + 1, _, rfl, by omega, by go_num, by rw [HS.out]; exact ownsRow_later HW.out HB1.out, HB.out.trans (HB1.out.mono HB.out.size)⟩, step_less' hlt⟩
    · have e : k = ms.length := by omega
      subst e
      rw [List.take_of_length_le (Nat.le_refl _)] at hown
      have HW : Hid (wr.ownsRow w.heap.size 3 1 v (Gate.readsI s ms p).length (ints (Gate.readsI s ms p)) ∧ Below w.heap.size w wr) := ⟨hown, hB⟩
      clear hown hB
      go_wp2_with fail
      go_ret
      exact ⟨v, rfl, HW.out⟩

end Go.Proofs.YtpmlngcljbkchaaGreat

namespace Go.Proofs.YtpmlngcljbkchaaGreat
open Go.RowKit

theorem place_ne {fs : List Fld} {k : Nat} (h : k < fs.length) (hh : Gate.hasName (fs.take k) fs[k].nm = true) : (Gate.fieldIx fs fs[k].nm != (k : Int)) = true := by
  obtain ⟨j, hj, e⟩ := Gate.hasName_first fs _ k h hh
  rw [e, bne_iff_ne]; omega

theorem place_eq {fs : List Fld} {k : Nat} (h : k < fs.length) (hh : Gate.hasName (fs.take k) fs[k].nm = false) : (Gate.fieldIx fs fs[k].nm != (k : Int)) = false := by
  rw [Gate.fieldIx_at fs _ k h hh rfl]; simp

set_option maxHeartbeats 2000000 in
theorem fieldsOk_any (r : Nat) (a0 : Option Addr) (cap0 : Nat) (ss : List Shp) (a : Option Addr) (cap : Nat) (fs : List Fld) (w : World) (hr : w.heap[r]? = some (.map kindEs 4)) (hss : ShpsAt w a0 ss) (hw : FldsAt w a fs) :
    Calls Tryz.prog 85 #[.map (some r), .slice a0 ss.length cap0, .slice a fs.length cap] w fun e w' => e = .returned (.bool (Gate.fieldsOk ss fs)) ∧ Below w.heap.size w w' := by
  have hl := hw.len
  unfold maxLen at hl
  have hrlt : r < w.heap.size := (Array.getElem?_eq_some_iff.1 hr).1
  by_cases h6 : fs.length ≤ 6
  rotate_left
  · have HF : Hid (Gate.fieldsOk ss fs = false) := by simp [Hid, Gate.fieldsOk, h6]
    clear hw hr hss
    go_enter Tryz.func85, Tryz.ntmps85
    go_wp2
    go_ret
    exact ⟨ret_bool HF.out.symm, Below.refl _ _⟩
  have HG : Hid (Gate.fieldsOk ss fs = Gate.up (Gate.okAt ss fs) fs.length) := by simp [Hid, Gate.fieldsOk, h6]
  have h6I : (fs.length : Int) ≤ 6 := by omega
  go_enter Tryz.func85, Tryz.ntmps85
  go_wp2
  go_loopw [14] (fun i wr => ∃ k : Nat, k ≤ fs.length ∧ i = .int .i64 k ∧ Gate.up (Gate.okAt ss fs) k = true ∧ Below w.heap.size w wr) (fun i _ => fs.length - (intOf i).toNat)
  case atStart => exact ⟨0, Nat.zero_le _, rfl, rfl, Below.refl _ _⟩
  case round =>
    obtain ⟨k, hk, rfl, hup, hB⟩ := hrel
    have hsz := hB.size
    by_cases hlt : k < fs.length
    · obtain ⟨b, off, rfl, hb, hrw⟩ := hw.rows (by rintro rfl; simp at hlt)
      obtain ⟨wa, wcap, hf⟩ := hrw k hlt
      obtain ⟨c0, c1, c2, c3, c4, c5, c6, c7, c8, c9, c10⟩ := (hf.mono hb hB).load
      have hsm := hf.small
      have hst := hf.strs.mono hB
      have hfa : FldsAt wr (some ⟨b, off, none⟩) fs := hw.mono hB
      have hsa : ShpsAt wr a0 ss := hss.mono hB
      have hra : wr.heap[r]? = some (.map kindEs 4) := (hB.block r hrlt).trans hr
      have HO : Hid (Gate.okAt ss fs k = (Gate.nameOk fs[k].nm && !Gate.hasName (fs.take k) fs[k].nm && Gate.fieldOk ss fs[k])) := Gate.okAt_eq ss fs k hlt
      have HS : Hid (Gate.okAt ss fs k = true → Gate.up (Gate.okAt ss fs) (k + 1) = true) := fun h => by rw [Gate.up_succ, hup, h]; rfl
      have HN : Hid (Gate.okAt ss fs k = false → Gate.fieldsOk ss fs = false) := fun h => by rw [HG.out]; exact Gate.up_not hlt h
      clear hw hrw hf hup hss hr
      by_cases hn : Gate.nameOk fs[k].nm = true
      rotate_left
      · have HNm : Hid (Gate.nameOk fs[k].nm = false) := by simpa [Hid] using hn
        clear hn
        go_wp2_with fail
        refine (as_bool HNm.out (isName_any _ _ hsm.nm)).mono ?_
        rintro e w1 ⟨rfl, rfl⟩
        go_wp2_with fail
        go_ret
        exact ⟨ret_bool (HN.out (by rw [HO.out, HNm.out]; rfl)).symm, hB.alloc hsz _⟩
      have HNm : Hid (Gate.nameOk fs[k].nm = true) := hn
      clear hn
      by_cases hh : Gate.hasName (fs.take k) fs[k].nm = true
      · have HH : Hid (Gate.hasName (fs.take k) fs[k].nm = true) := hh
        have hpl := place_ne hlt hh
        clear hh
        go_wp2_with fail
        refine (as_bool HNm.out (isName_any _ _ hsm.nm)).mono ?_
        rintro e w1 ⟨rfl, rfl⟩
        go_wp2_with fail
        refine (fieldPlace_any _ _ _ _ _ (hfa.mono ((Below.refl _ _).alloc (Nat.le_refl _) _))).mono ?_
        rintro e w2 ⟨rfl, hb2⟩
        have hB2 : Below w.heap.size w w2 := (hB.alloc hsz _).trans (hb2.mono (by simp; omega))
        clear hb2
        go_wp2_with fail
        go_ret
        exact ⟨ret_bool (HN.out (by rw [HO.out, HNm.out, HH.out]; rfl)).symm, hB2⟩
      · have HH : Hid (Gate.hasName (fs.take k) fs[k].nm = false) := by simpa [Hid] using hh
        have hpl := place_eq hlt HH.out
        clear hh
        by_cases hok : Gate.fieldOk ss fs[k] = true
        all_goals
          first
            | (have HK : Hid (Gate.fieldOk ss fs[k] = true) := hok)
            | (have HK : Hid (Gate.fieldOk ss fs[k] = false) := by simpa [Hid] using hok)
          clear hok
          go_wp2_with fail
          refine (as_bool HNm.out (isName_any _ _ hsm.nm)).mono ?_
          rintro e w1 ⟨rfl, rfl⟩
          go_wp2_with fail
          refine (fieldPlace_any _ _ _ _ _ (hfa.mono ((Below.refl _ _).alloc (Nat.le_refl _) _))).mono ?_
          rintro e w2 ⟨rfl, hb2⟩
          have hX2 := box_later (box_new wr _ _) (by simp) hb2
          have hz2 : wr.heap.size < w2.heap.size := by have := hb2.size; simp at this; omega
          have hbr2 : Below wr.heap.size wr w2 := ((Below.refl _ _).alloc (Nat.le_refl _) _).trans (hb2.mono (by simp))
          have hB2 : Below w.heap.size w w2 := hB.trans (hbr2.mono hsz)
          have hra2 : w2.heap[r]? = some (.map kindEs 4) := (hbr2.block r (by omega)).trans hra
          clear hb2
          go_wp2_with fail
          refine (as_bool HK.out (fieldOk_any _ _ _ _ _ _ _ _ _ _ _ _ _ _ _ _ _ _ hra2 hsm.df hsm.wg (hst.mono hbr2) (hsa.mono hbr2))).mono ?_
          rintro e w3 ⟨rfl, hb3⟩
          have hB3 : Below w.heap.size w w3 := hB2.trans (hb3.mono (by omega))
          clear hb3 hX2
          go_wp2_with fail
        · exact ⟨⟨k + 1, by omega, by go_num, HS.out (by rw [HO.out, HNm.out, HH.out, HK.out]; rfl), hB3⟩, by simp [intOf]; omega⟩
        · go_ret
          exact ⟨ret_bool (HN.out (by rw [HO.out, HNm.out, HH.out, HK.out]; rfl)).symm, hB3⟩
    · have HF : Hid (Gate.fieldsOk ss fs = true) := by
        have e : k = fs.length := by omega
        subst e; rw [HG.out]; exact hup
      clear hup hw
      go_wp2
      go_ret
      exact ⟨ret_bool HF.out.symm, hB⟩

end Go.Proofs.YtpmlngcljbkchaaGreat

namespace Go.Proofs.YtpmlngcljbkchaaGreat
open Go.RowKit

set_option maxHeartbeats 2000000 in
theorem specField_other (a0 : Option Addr) (cap0 : Nat) (ss : List Shp) (nm : ByteArray) (kd ls ms : Int) (a : Option Addr) (cap : Nat) (ws : List ByteArray) (to : ByteArray) (rl : Int) (mu fx : Bool) (df wg : ByteArray) (w : World) (hnm : nm.size ≤ maxLen) (hdf : df.size ≤ maxLen) (hws : StrsAt w a ws) (h1 : kd ≠ 1) (h2 : kd ≠ 2) (h3 : kd ≠ 3) (h4 : kd ≠ 4) :
    Calls Tryz.prog 78 #[.slice a0 ss.length cap0, .agg #[.string nm, .int .i64 kd, .int .i64 ls, .int .i64 ms, .slice a ws.length cap, .string to, .int .i64 rl, .bool mu, .bool fx, .string df, .string wg]] w
      fun e w' => e = .returned (.bool (Gate.nameOk nm && Gate.fieldOk ss ⟨nm, kd, ls, ms, ws, to, rl, mu, fx, df, wg⟩)) ∧ Below w.heap.size w w' := by
  have HO : Hid ((Gate.nameOk nm && Gate.fieldOk ss ⟨nm, kd, ls, ms, ws, to, rl, mu, fx, df, wg⟩) = false) := by simp [Hid, Gate.fieldOk, Gate.bare, Gate.bareOf, h1, h2, h3, h4]
  generalize (Gate.nameOk nm && Gate.fieldOk ss ⟨nm, kd, ls, ms, ws, to, rl, mu, fx, df, wg⟩) = res at HO
  have HFit : Hid (Gate.fits kd ls ms ws df = false) := Gate.fits_other kd ls ms ws df h1 h2 h3 h4
  have HH : Hid (kd ≠ 1 ∧ kd ≠ 2 ∧ kd ≠ 3 ∧ kd ≠ 4) := ⟨h1, h2, h3, h4⟩
  have e1 : (kd == 1) = false := by simpa using h1
  have e2 : (kd == 2) = false := by simpa using h2
  have e3 : (kd == 3) = false := by simpa using h3
  have e4 : (kd == 4) = false := by simpa using h4
  clear h1 h2 h3 h4
  by_cases hn : Gate.nameOk nm = true
  rotate_left
  · have HNm : Hid (Gate.nameOk nm = false) := by simpa [Hid] using hn
    clear hn
    go_enter Tryz.func78, Tryz.ntmps78
    go_wp2_with fail
    refine (as_bool HNm.out (l1NameOk_any _ _ hnm)).mono ?_
    rintro e w1 ⟨rfl, rfl⟩
    go_wp2_with fail
    go_ret
    exact ⟨ret_bool HO.out.symm, (Below.refl _ _).alloc (Nat.le_refl _) _⟩
  have HNm : Hid (Gate.nameOk nm = true) := hn
  clear hn
  by_cases hd : df.toList.isEmpty = true
  all_goals
    first
      | (have hd1 : df.toList.isEmpty = true := hd)
      | (have hd1 : df.toList.isEmpty = false := by simpa using hd)
    clear hd
    go_enter Tryz.func78, Tryz.ntmps78
    go_wp2_with fail
    refine (as_bool HNm.out (l1NameOk_any _ _ hnm)).mono ?_
    rintro e w1 ⟨rfl, rfl⟩
    go_wp2_with fail
    refine (specBare_other _ _ _ _ _ _ _ _ _ _ _ _ _ _ HH.out.1 HH.out.2.1 HH.out.2.2.1 HH.out.2.2.2).mono ?_
    rintro e w2 ⟨bb, rfl, hb2⟩
    have hX2 := box_later (box_new w _ _) (by simp) hb2
    have hz2 : w.heap.size < w2.heap.size := by have := hb2.size; simp at this; omega
    have hB2 : Below w.heap.size w w2 := ((Below.refl _ _).alloc (Nat.le_refl _) _).trans (hb2.mono (by simp))
    clear hb2
    cases bb
    · go_wp2_with fail
      go_ret
      exact ⟨ret_bool HO.out.symm, hB2⟩
  · go_wp2_with fail
    go_ret
    exact ⟨ret_bool HO.out.symm, hB2⟩
  · go_wp2_with fail
    refine (as_bool HFit.out (specFits_any _ _ _ _ _ _ _ _ _ _ _ _ _ _ _ hdf (hws.mono hB2))).mono ?_
    rintro e w3 ⟨rfl, hb3⟩
    have hB3 : Below w.heap.size w w3 := hB2.trans (hb3.mono (by omega))
    go_wp2_with fail
    go_ret
    exact ⟨ret_bool HO.out.symm, hB3⟩

theorem specField_any (a0 : Option Addr) (cap0 : Nat) (ss : List Shp) (nm : ByteArray) (kd ls ms : Int) (a : Option Addr) (cap : Nat) (ws : List ByteArray) (to : ByteArray) (rl : Int) (mu fx : Bool) (df wg : ByteArray) (w : World) (hnm : nm.size ≤ maxLen) (hdf : df.size ≤ maxLen) (hwg : wg.size ≤ maxLen) (hws : StrsAt w a ws) (hss : ShpsAt w a0 ss) :
    Calls Tryz.prog 78 #[.slice a0 ss.length cap0, .agg #[.string nm, .int .i64 kd, .int .i64 ls, .int .i64 ms, .slice a ws.length cap, .string to, .int .i64 rl, .bool mu, .bool fx, .string df, .string wg]] w
      fun e w' => e = .returned (.bool (Gate.nameOk nm && Gate.fieldOk ss ⟨nm, kd, ls, ms, ws, to, rl, mu, fx, df, wg⟩)) ∧ Below w.heap.size w w' := by
  by_cases h1 : kd = 1
  · subst h1; exact specField_1 a0 cap0 ss nm ls ms a cap ws to rl mu fx df wg w hnm hdf hwg hws
  by_cases h2 : kd = 2
  · subst h2; exact specField_2 a0 cap0 ss nm ls ms a cap ws to rl mu fx df wg w hnm hdf hws
  by_cases h3 : kd = 3
  · subst h3; exact specField_3 a0 cap0 ss nm ls ms a cap ws to rl mu fx df wg w hnm hdf hws
  by_cases h4 : kd = 4
  · subst h4; exact specField_4 a0 cap0 ss nm ls ms a cap ws to rl mu fx df wg w hnm hdf hws hss
  exact specField_other a0 cap0 ss nm kd ls ms a cap ws to rl mu fx df wg w hnm hdf hws h1 h2 h3 h4

end Go.Proofs.YtpmlngcljbkchaaGreat
