import Derived.Test.YtmfgjafdnopfbaaGreatM15
namespace Go.Proofs.YtmfgjafdnopfbaaGreat
open Go.RowKit
set_option maxHeartbeats 2000000 in
theorem zgA (a0 : Option Addr) (cap0 : Nat) (ss : List Shp) (nm : ByteArray) (ls ms : Int) (a : Option Addr) (cap : Nat) (ws : List ByteArray) (to : ByteArray) (rl : Int) (mu fx : Bool) (df wg : ByteArray) (w : World) (hnm : nm.size <= maxLen) (hdf : df.size <= maxLen) (hws : zZ w a ws) (hss : yG w a0 ss) :
    Calls Tryz.prog 64 #[.slice a0 ss.length cap0, .agg #[.string nm, .int .i64 4, .int .i64 ls, .int .i64 ms, .slice a ws.length cap, .string to, .int .i64 rl, .bool mu, .bool fx, .string df, .string wg]] w
      fun e w' => e = .returned (.bool (Gate.zL nm && Gate.yA ss ⟨nm, 4, ls, ms, ws, to, rl, mu, fx, df, wg⟩)) /\ Below w.heap.size w w' := by
  have HO : Hid ((Gate.zL nm && Gate.yA ss ⟨nm, 4, ls, ms, ws, to, rl, mu, fx, df, wg⟩) = (Gate.zL nm && (Gate.yP 4 ls ms ws.length to rl wg && Gate.zV ss ⟨nm, 4, ls, ms, ws, to, rl, mu, fx, df, wg⟩ && (df.toList.isEmpty || Gate.fits 4 ls ms ws df)))) := rfl
  generalize (Gate.zL nm && Gate.yA ss ⟨nm, 4, ls, ms, ws, to, rl, mu, fx, df, wg⟩) = res at HO
  by_cases hn : Gate.zL nm = true
  rotate_left
  · have HNm : Hid (Gate.zL nm = false) := by simpa [Hid] using hn
    clear hn
    go_enter Tryz.func64, Tryz.ntmps64
    go_wp2_with fail
    refine (zl HNm.out (zw _ _ hnm)).mono ?_
    rintro e w1 ⟨rfl, rfl⟩
    go_wp2_with fail
    go_ret
    exact ⟨zh (by rw [HO.out, HNm.out]; rfl), (Below.refl _ _).alloc (Nat.le_refl _) _⟩
  have HNm := hid hn
  clear hn
  by_cases hbare : Gate.yP 4 ls ms ws.length to rl wg = true
  rotate_left
  · have HBare : Hid (Gate.yP 4 ls ms ws.length to rl wg = false) := by simpa [Hid] using hbare
    clear hbare
    go_enter Tryz.func64, Tryz.ntmps64
    go_wp2_with fail
    refine (zl HNm.out (zw _ _ hnm)).mono ?_
    rintro e w1 ⟨rfl, rfl⟩
    go_wp2_with fail
    refine (zl HBare.out (jR _ _ _ _ _ _ _ _ _ _ _ _ _)).mono ?_
    rintro e w2 ⟨rfl, hb2⟩
    have hX2 := ze (zo w _ _) (by simp) hb2
    have hz2 : w.heap.size < w2.heap.size := by have := hb2.size; simp at this; omega
    have hB2 : Below w.heap.size w w2 := ((Below.refl _ _).alloc (Nat.le_refl _) _).trans (hb2.mono (by simp))
    clear hb2
    go_wp2_with fail
    go_ret
    exact ⟨zh (by rw [HO.out, HNm.out, HBare.out]; rfl), hB2⟩
  have HBare := hid hbare
  clear hbare
  by_cases hd : df.toList.isEmpty = true
  · have HD := hid hd
    have HR : Hid (res = Gate.zV ss ⟨nm, 4, ls, ms, ws, to, rl, mu, fx, df, wg⟩) := by unfold Hid; rw [HO.out, HNm.out, HBare.out, hd]; simp
    clear HO
    have HSn : Hid (Gate.zV ss ⟨nm, 4, ls, ms, ws, to, rl, mu, fx, df, wg⟩ = (Gate.zy ss to && (decide (1 <= rl) && decide (rl <= 3)) && df.toList.isEmpty && (decide (rl ≠ 2) || !mu))) := by simp [Gate.zV, Hid]
    by_cases hk : Gate.zy ss to = true
    rotate_left
    · have HK : Hid (Gate.zy ss to = false) := by simpa [Hid] using hk
      clear hk
      go_enter Tryz.func64, Tryz.ntmps64
      go_wp2_with fail
      refine (zl HNm.out (zw _ _ hnm)).mono ?_
      rintro e w1 ⟨rfl, rfl⟩
      go_wp2_with fail
      refine (zl HBare.out (jR _ _ _ _ _ _ _ _ _ _ _ _ _)).mono ?_
      rintro e w2 ⟨rfl, hb2⟩
      have hX2 := ze (zo w _ _) (by simp) hb2
      have hz2 : w.heap.size < w2.heap.size := by have := hb2.size; simp at this; omega
      have hB2 : Below w.heap.size w w2 := ((Below.refl _ _).alloc (Nat.le_refl _) _).trans (hb2.mono (by simp))
      clear hb2
      go_wp2_with fail
      refine (zbY _ _ _ _ _ (hss.mono hB2) HK.out).mono ?_
      rintro e w5 ⟨rfl, rfl⟩
      go_wp2_with fail
      go_ret
      exact ⟨zh (by rw [HR.out, HSn.out, HK.out]; rfl), hB2⟩
    have HK := hid hk
    clear hk
    by_cases h13 : 1 <= rl /\ rl <= 3
    rotate_left
    · have HT : Hid ((decide (1 <= rl) && decide (rl <= 3)) = false) := by unfold Hid; rw [Bool.eq_false_iff]; simp; omega
      have H13 := hid h13
      clear h13
      go_enter Tryz.func64, Tryz.ntmps64
      go_wp2_with fail
      refine (zl HNm.out (zw _ _ hnm)).mono ?_
      rintro e w1 ⟨rfl, rfl⟩
      go_wp2_with fail
      refine (zl HBare.out (jR _ _ _ _ _ _ _ _ _ _ _ _ _)).mono ?_
      rintro e w2 ⟨rfl, hb2⟩
      have hX2 := ze (zo w _ _) (by simp) hb2
      have hz2 : w.heap.size < w2.heap.size := by have := hb2.size; simp at this; omega
      have hB2 : Below w.heap.size w w2 := ((Below.refl _ _).alloc (Nat.le_refl _) _).trans (hb2.mono (by simp))
      clear hb2
      go_wp2_with fail
      refine (jr _ _ _ _ _ (hss.mono hB2) HK.out).mono ?_
      rintro e w5 ⟨ix, hix, rfl, _, rfl⟩
      have hix0 : (0 : Int) <= (ix : Int) := by omega
      go_wp2_with fail
      refine (zbT _ _ _ _ H13.out).mono ?_
      rintro e w6 ⟨rfl, rfl⟩
      go_wp2_with fail
      go_ret
      exact ⟨zh (by rw [HR.out, HSn.out, HK.out, HT.out]; simp), hB2⟩
    obtain ⟨h1, h3⟩ := h13
    have HT : Hid ((decide (1 <= rl) && decide (rl <= 3)) = true) := by unfold Hid; simp; omega
    by_cases h2 : rl = 2
    focus
      have e2 : (rl != 2) = false := by simp [h2]
      have H2 : Hid (decide (rl ≠ 2) = false) := by unfold Hid; simp [h2]
    rotate_left
    focus
      have e2 : (rl != 2) = true := by simp [h2]
      have H2 : Hid (decide (rl ≠ 2) = true) := by unfold Hid; simp [h2]
    all_goals
      clear h2
      go_enter Tryz.func64, Tryz.ntmps64
      go_wp2_with fail
      refine (zl HNm.out (zw _ _ hnm)).mono ?_
      rintro e w1 ⟨rfl, rfl⟩
      go_wp2_with fail
      refine (zl HBare.out (jR _ _ _ _ _ _ _ _ _ _ _ _ _)).mono ?_
      rintro e w2 ⟨rfl, hb2⟩
      have hX2 := ze (zo w _ _) (by simp) hb2
      have hz2 : w.heap.size < w2.heap.size := by have := hb2.size; simp at this; omega
      have hB2 : Below w.heap.size w w2 := ((Below.refl _ _).alloc (Nat.le_refl _) _).trans (hb2.mono (by simp))
      clear hb2
      go_wp2_with fail
      refine (jr _ _ _ _ _ (hss.mono hB2) HK.out).mono ?_
      rintro e w5 ⟨ix, hix, rfl, _, rfl⟩
      have hix0 : (0 : Int) <= (ix : Int) := by omega
      go_wp2_with fail
      refine (zaJ _ _ _ _ h1 h3).mono ?_
      rintro e w6 ⟨rfl, rfl⟩
      go_wp2_with fail
      go_ret
      exact ⟨zh (by rw [HR.out, HSn.out, HK.out, HT.out, HD.out, H2.out]; simp), hB2⟩
  have hd' : df.toList.isEmpty = false := by simpa using hd
  have HD := hid hd'
  clear hd
  by_cases hfit : Gate.fits 4 ls ms ws df = true
  rotate_left
  · have HFit : Hid (Gate.fits 4 ls ms ws df = false) := by simpa [Hid] using hfit
    clear hfit
    go_enter Tryz.func64, Tryz.ntmps64
    go_wp2_with fail
    refine (zl HNm.out (zw _ _ hnm)).mono ?_
    rintro e w1 ⟨rfl, rfl⟩
    go_wp2_with fail
    refine (zl HBare.out (jR _ _ _ _ _ _ _ _ _ _ _ _ _)).mono ?_
    rintro e w2 ⟨rfl, hb2⟩
    have hX2 := ze (zo w _ _) (by simp) hb2
    have hz2 : w.heap.size < w2.heap.size := by have := hb2.size; simp at this; omega
    have hB2 : Below w.heap.size w w2 := ((Below.refl _ _).alloc (Nat.le_refl _) _).trans (hb2.mono (by simp))
    clear hb2
    go_wp2_with fail
    refine (zl HFit.out (qc _ _ _ _ _ _ _ _ _ _ _ _ _ _ _ hdf (hws.mono hB2))).mono ?_
    rintro e w3 ⟨rfl, hb3⟩
    have hX3 := ze hX2 hz2 hb3
    have hz3 : w.heap.size < w3.heap.size := by have := hb3.size; omega
    have hB3 : Below w.heap.size w w3 := hB2.trans (hb3.mono (by omega))
    clear hb3 hX2 hz2 hB2
    go_wp2_with fail
    go_ret
    exact ⟨zh (by rw [HO.out, HNm.out, HBare.out, HD.out, HFit.out]; simp), hB3⟩
  · have HFit := hid hfit
    have HR : Hid (res = Gate.zV ss ⟨nm, 4, ls, ms, ws, to, rl, mu, fx, df, wg⟩) := by unfold Hid; rw [HO.out, HNm.out, HBare.out, HD.out, hfit]; simp
    clear hfit HO
    have HSn : Hid (Gate.zV ss ⟨nm, 4, ls, ms, ws, to, rl, mu, fx, df, wg⟩ = (Gate.zy ss to && (decide (1 <= rl) && decide (rl <= 3)) && df.toList.isEmpty && (decide (rl ≠ 2) || !mu))) := by simp [Gate.zV, Hid]
    by_cases hk : Gate.zy ss to = true
    rotate_left
    · have HK : Hid (Gate.zy ss to = false) := by simpa [Hid] using hk
      clear hk
      go_enter Tryz.func64, Tryz.ntmps64
      go_wp2_with fail
      refine (zl HNm.out (zw _ _ hnm)).mono ?_
      rintro e w1 ⟨rfl, rfl⟩
      go_wp2_with fail
      refine (zl HBare.out (jR _ _ _ _ _ _ _ _ _ _ _ _ _)).mono ?_
      rintro e w2 ⟨rfl, hb2⟩
      have hX2 := ze (zo w _ _) (by simp) hb2
      have hz2 : w.heap.size < w2.heap.size := by have := hb2.size; simp at this; omega
      have hB2 : Below w.heap.size w w2 := ((Below.refl _ _).alloc (Nat.le_refl _) _).trans (hb2.mono (by simp))
      clear hb2
      go_wp2_with fail
      refine (zl HFit.out (qc _ _ _ _ _ _ _ _ _ _ _ _ _ _ _ hdf (hws.mono hB2))).mono ?_
      rintro e w3 ⟨rfl, hb3⟩
      have hX3 := ze hX2 hz2 hb3
      have hz3 : w.heap.size < w3.heap.size := by have := hb3.size; omega
      have hB3 : Below w.heap.size w w3 := hB2.trans (hb3.mono (by omega))
      clear hb3 hX2 hz2 hB2
      go_wp2_with fail
      refine (zbY _ _ _ _ _ (hss.mono hB3) HK.out).mono ?_
      rintro e w5 ⟨rfl, rfl⟩
      go_wp2_with fail
      go_ret
      exact ⟨zh (by rw [HR.out, HSn.out, HK.out]; rfl), hB3⟩
    have HK := hid hk
    clear hk
    by_cases h13 : 1 <= rl /\ rl <= 3
    · obtain ⟨h1, h3⟩ := h13
      go_enter Tryz.func64, Tryz.ntmps64
      go_wp2_with fail
      refine (zl HNm.out (zw _ _ hnm)).mono ?_
      rintro e w1 ⟨rfl, rfl⟩
      go_wp2_with fail
      refine (zl HBare.out (jR _ _ _ _ _ _ _ _ _ _ _ _ _)).mono ?_
      rintro e w2 ⟨rfl, hb2⟩
      have hX2 := ze (zo w _ _) (by simp) hb2
      have hz2 : w.heap.size < w2.heap.size := by have := hb2.size; simp at this; omega
      have hB2 : Below w.heap.size w w2 := ((Below.refl _ _).alloc (Nat.le_refl _) _).trans (hb2.mono (by simp))
      clear hb2
      go_wp2_with fail
      refine (zl HFit.out (qc _ _ _ _ _ _ _ _ _ _ _ _ _ _ _ hdf (hws.mono hB2))).mono ?_
      rintro e w3 ⟨rfl, hb3⟩
      have hX3 := ze hX2 hz2 hb3
      have hz3 : w.heap.size < w3.heap.size := by have := hb3.size; omega
      have hB3 : Below w.heap.size w w3 := hB2.trans (hb3.mono (by omega))
      clear hb3 hX2 hz2 hB2
      go_wp2_with fail
      refine (jr _ _ _ _ _ (hss.mono hB3) HK.out).mono ?_
      rintro e w5 ⟨ix, hix, rfl, _, rfl⟩
      have hix0 : (0 : Int) <= (ix : Int) := by omega
      go_wp2_with fail
      refine (zaJ _ _ _ _ h1 h3).mono ?_
      rintro e w6 ⟨rfl, rfl⟩
      go_wp2_with fail
      go_ret
      exact ⟨zh (by rw [HR.out, HSn.out, HD.out]; simp), hB3⟩
    · have H13 := hid h13
      clear h13
      go_enter Tryz.func64, Tryz.ntmps64
      go_wp2_with fail
      refine (zl HNm.out (zw _ _ hnm)).mono ?_
      rintro e w1 ⟨rfl, rfl⟩
      go_wp2_with fail
      refine (zl HBare.out (jR _ _ _ _ _ _ _ _ _ _ _ _ _)).mono ?_
      rintro e w2 ⟨rfl, hb2⟩
      have hX2 := ze (zo w _ _) (by simp) hb2
      have hz2 : w.heap.size < w2.heap.size := by have := hb2.size; simp at this; omega
      have hB2 : Below w.heap.size w w2 := ((Below.refl _ _).alloc (Nat.le_refl _) _).trans (hb2.mono (by simp))
      clear hb2
      go_wp2_with fail
      refine (zl HFit.out (qc _ _ _ _ _ _ _ _ _ _ _ _ _ _ _ hdf (hws.mono hB2))).mono ?_
      rintro e w3 ⟨rfl, hb3⟩
      have hX3 := ze hX2 hz2 hb3
      have hz3 : w.heap.size < w3.heap.size := by have := hb3.size; omega
      have hB3 : Below w.heap.size w w3 := hB2.trans (hb3.mono (by omega))
      clear hb3 hX2 hz2 hB2
      go_wp2_with fail
      refine (jr _ _ _ _ _ (hss.mono hB3) HK.out).mono ?_
      rintro e w5 ⟨ix, hix, rfl, _, rfl⟩
      have hix0 : (0 : Int) <= (ix : Int) := by omega
      go_wp2_with fail
      refine (zbT _ _ _ _ H13.out).mono ?_
      rintro e w6 ⟨rfl, rfl⟩
      go_wp2_with fail
      go_ret
      exact ⟨zh (by rw [HR.out, HSn.out, HD.out]; simp), hB3⟩
end Go.Proofs.YtmfgjafdnopfbaaGreat
