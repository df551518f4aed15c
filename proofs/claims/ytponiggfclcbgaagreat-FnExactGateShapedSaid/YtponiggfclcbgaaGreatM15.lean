import Derived.Test.YtponiggfclcbgaaGreatM14
namespace Go.Proofs.YtponiggfclcbgaaGreat
open Go.RowKit

set_option maxHeartbeats 2000000 in
theorem specField_2 (a0 : Option Addr) (cap0 : Nat) (ss : List Shp) (nm : ByteArray) (ls ms : Int) (a : Option Addr) (cap : Nat) (ws : List ByteArray) (to : ByteArray) (rl : Int) (mu fx : Bool) (df wg : ByteArray) (w : World) (hnm : nm.size ≤ maxLen) (hdf : df.size ≤ maxLen) (hws : StrsAt w a ws) :
    Calls Tryz.prog 91 #[.slice a0 ss.length cap0, .agg #[.string nm, .int .i64 2, .int .i64 ls, .int .i64 ms, .slice a ws.length cap, .string to, .int .i64 rl, .bool mu, .bool fx, .string df, .string wg]] w
      fun e w' => e = .returned (.bool (Gate.nameOk nm && Gate.fieldOk ss ⟨nm, 2, ls, ms, ws, to, rl, mu, fx, df, wg⟩)) ∧ Below w.heap.size w w' := by
  have HO : Hid ((Gate.nameOk nm && Gate.fieldOk ss ⟨nm, 2, ls, ms, ws, to, rl, mu, fx, df, wg⟩) = (Gate.nameOk nm && (Gate.bareOf 2 ls ms ws.length to rl wg && Gate.soundOf ss ⟨nm, 2, ls, ms, ws, to, rl, mu, fx, df, wg⟩ && (df.toList.isEmpty || Gate.fits 2 ls ms ws df)))) := rfl
  generalize (Gate.nameOk nm && Gate.fieldOk ss ⟨nm, 2, ls, ms, ws, to, rl, mu, fx, df, wg⟩) = res at HO
  by_cases hn : Gate.nameOk nm = true
  rotate_left
  · have HNm : Hid (Gate.nameOk nm = false) := by simpa [Hid] using hn
    clear hn
    go_enter Tryz.func91, Tryz.ntmps91
    go_wp2_with fail
    refine (as_bool HNm.out (l1NameOk_any _ _ hnm)).mono ?_
    rintro e w1 ⟨rfl, rfl⟩
    go_wp2_with fail
    go_ret
    exact ⟨ret_bool (by rw [HO.out, HNm.out]; rfl), (Below.refl _ _).alloc (Nat.le_refl _) _⟩
  have HNm : Hid (Gate.nameOk nm = true) := hn
  clear hn
  by_cases hbare : Gate.bareOf 2 ls ms ws.length to rl wg = true
  rotate_left
  · have HBare : Hid (Gate.bareOf 2 ls ms ws.length to rl wg = false) := by simpa [Hid] using hbare
    clear hbare
    go_enter Tryz.func91, Tryz.ntmps91
    go_wp2_with fail
    refine (as_bool HNm.out (l1NameOk_any _ _ hnm)).mono ?_
    rintro e w1 ⟨rfl, rfl⟩
    go_wp2_with fail
    refine (as_bool HBare.out (specBare_2 _ _ _ _ _ _ _ _ _ _ _ _ _)).mono ?_
    rintro e w2 ⟨rfl, hb2⟩
    have hX2 := box_later (box_new w _ _) (by simp) hb2
    have hz2 : w.heap.size < w2.heap.size := by have := hb2.size; simp at this; omega
    have hB2 : Below w.heap.size w w2 := ((Below.refl _ _).alloc (Nat.le_refl _) _).trans (hb2.mono (by simp))
    clear hb2
    go_wp2_with fail
    go_ret
    exact ⟨ret_bool (by rw [HO.out, HNm.out, HBare.out]; rfl), hB2⟩
  have HBare : Hid (Gate.bareOf 2 ls ms ws.length to rl wg = true) := hbare
  clear hbare
  by_cases hd : df.toList.isEmpty = true
  · have HD : Hid (df.toList.isEmpty = true) := hd
    have HR : Hid (res = Gate.soundOf ss ⟨nm, 2, ls, ms, ws, to, rl, mu, fx, df, wg⟩) := by unfold Hid; rw [HO.out, HNm.out, HBare.out, hd]; simp
    clear HO
    have HSn : Hid (Gate.soundOf ss ⟨nm, 2, ls, ms, ws, to, rl, mu, fx, df, wg⟩ = (decide (1 ≤ ws.length) && decide (ws.length ≤ 6) && Gate.asc ws)) := by simp [Gate.soundOf, Hid]
    have hl := hws.len
    unfold maxLen at hl
    by_cases h16 : 1 ≤ ws.length ∧ ws.length ≤ 6
    · obtain ⟨h1, h6⟩ := h16
      go_enter Tryz.func91, Tryz.ntmps91
      go_wp2_with fail
      refine (as_bool HNm.out (l1NameOk_any _ _ hnm)).mono ?_
      rintro e w1 ⟨rfl, rfl⟩
      go_wp2_with fail
      refine (as_bool HBare.out (specBare_2 _ _ _ _ _ _ _ _ _ _ _ _ _)).mono ?_
      rintro e w2 ⟨rfl, hb2⟩
      have hX2 := box_later (box_new w _ _) (by simp) hb2
      have hz2 : w.heap.size < w2.heap.size := by have := hb2.size; simp at this; omega
      have hB2 : Below w.heap.size w w2 := ((Below.refl _ _).alloc (Nat.le_refl _) _).trans (hb2.mono (by simp))
      clear hb2
      go_wp2_with fail
      refine (l1In_yes _ _ _ _ (by omega) (by omega)).mono ?_
      rintro e w5 ⟨rfl, rfl⟩
      go_wp2_with fail
      refine (l1Ascending_any _ _ _ _ (hws.mono hB2)).mono ?_
      rintro e w6 ⟨rfl, nd, rfl⟩
      go_wp2_with fail
      go_ret
      exact ⟨ret_bool (by rw [HR.out, HSn.out, decide_eq_true h1, decide_eq_true h6]; rfl), below_drewN hB2 _⟩
    · have HS0 : Hid (Gate.soundOf ss ⟨nm, 2, ls, ms, ws, to, rl, mu, fx, df, wg⟩ = false) := by
        rw [HSn.out]; unfold Hid
        by_cases h1 : 1 ≤ ws.length
        · rw [decide_eq_false (show ¬ ws.length ≤ 6 by omega)]; simp
        · rw [decide_eq_false h1]; rfl
      go_enter Tryz.func91, Tryz.ntmps91
      go_wp2_with fail
      refine (as_bool HNm.out (l1NameOk_any _ _ hnm)).mono ?_
      rintro e w1 ⟨rfl, rfl⟩
      go_wp2_with fail
      refine (as_bool HBare.out (specBare_2 _ _ _ _ _ _ _ _ _ _ _ _ _)).mono ?_
      rintro e w2 ⟨rfl, hb2⟩
      have hX2 := box_later (box_new w _ _) (by simp) hb2
      have hz2 : w.heap.size < w2.heap.size := by have := hb2.size; simp at this; omega
      have hB2 : Below w.heap.size w w2 := ((Below.refl _ _).alloc (Nat.le_refl _) _).trans (hb2.mono (by simp))
      clear hb2
      go_wp2_with fail
      refine (l1In_no _ _ _ _ (by omega)).mono ?_
      rintro e w5 ⟨rfl, rfl⟩
      go_wp2_with fail
      go_ret
      exact ⟨ret_bool (by rw [HR.out, HS0.out]), hB2⟩
  have hd' : df.toList.isEmpty = false := by simpa using hd
  have HD : Hid (df.toList.isEmpty = false) := hd'
  clear hd
  by_cases hfit : Gate.fits 2 ls ms ws df = true
  rotate_left
  · have HFit : Hid (Gate.fits 2 ls ms ws df = false) := by simpa [Hid] using hfit
    clear hfit
    go_enter Tryz.func91, Tryz.ntmps91
    go_wp2_with fail
    refine (as_bool HNm.out (l1NameOk_any _ _ hnm)).mono ?_
    rintro e w1 ⟨rfl, rfl⟩
    go_wp2_with fail
    refine (as_bool HBare.out (specBare_2 _ _ _ _ _ _ _ _ _ _ _ _ _)).mono ?_
    rintro e w2 ⟨rfl, hb2⟩
    have hX2 := box_later (box_new w _ _) (by simp) hb2
    have hz2 : w.heap.size < w2.heap.size := by have := hb2.size; simp at this; omega
    have hB2 : Below w.heap.size w w2 := ((Below.refl _ _).alloc (Nat.le_refl _) _).trans (hb2.mono (by simp))
    clear hb2
    go_wp2_with fail
    refine (as_bool HFit.out (specFits_any _ _ _ _ _ _ _ _ _ _ _ _ _ _ _ hdf (hws.mono hB2))).mono ?_
    rintro e w3 ⟨rfl, hb3⟩
    have hX3 := box_later hX2 hz2 hb3
    have hz3 : w.heap.size < w3.heap.size := by have := hb3.size; omega
    have hB3 : Below w.heap.size w w3 := hB2.trans (hb3.mono (by omega))
    clear hb3 hX2 hz2 hB2
    go_wp2_with fail
    go_ret
    exact ⟨ret_bool (by rw [HO.out, HNm.out, HBare.out, HD.out, HFit.out]; simp), hB3⟩
  · have HFit : Hid (Gate.fits 2 ls ms ws df = true) := hfit
    have HR : Hid (res = Gate.soundOf ss ⟨nm, 2, ls, ms, ws, to, rl, mu, fx, df, wg⟩) := by unfold Hid; rw [HO.out, HNm.out, HBare.out, HD.out, hfit]; simp
    clear hfit HO
    have HSn : Hid (Gate.soundOf ss ⟨nm, 2, ls, ms, ws, to, rl, mu, fx, df, wg⟩ = (decide (1 ≤ ws.length) && decide (ws.length ≤ 6) && Gate.asc ws)) := by simp [Gate.soundOf, Hid]
    have hl := hws.len
    unfold maxLen at hl
    by_cases h16 : 1 ≤ ws.length ∧ ws.length ≤ 6
    · obtain ⟨h1, h6⟩ := h16
      go_enter Tryz.func91, Tryz.ntmps91
      go_wp2_with fail
      refine (as_bool HNm.out (l1NameOk_any _ _ hnm)).mono ?_
      rintro e w1 ⟨rfl, rfl⟩
      go_wp2_with fail
      refine (as_bool HBare.out (specBare_2 _ _ _ _ _ _ _ _ _ _ _ _ _)).mono ?_
      rintro e w2 ⟨rfl, hb2⟩
      have hX2 := box_later (box_new w _ _) (by simp) hb2
      have hz2 : w.heap.size < w2.heap.size := by have := hb2.size; simp at this; omega
      have hB2 : Below w.heap.size w w2 := ((Below.refl _ _).alloc (Nat.le_refl _) _).trans (hb2.mono (by simp))
      clear hb2
      go_wp2_with fail
      refine (as_bool HFit.out (specFits_any _ _ _ _ _ _ _ _ _ _ _ _ _ _ _ hdf (hws.mono hB2))).mono ?_
      rintro e w3 ⟨rfl, hb3⟩
      have hX3 := box_later hX2 hz2 hb3
      have hz3 : w.heap.size < w3.heap.size := by have := hb3.size; omega
      have hB3 : Below w.heap.size w w3 := hB2.trans (hb3.mono (by omega))
      clear hb3 hX2 hz2 hB2
      go_wp2_with fail
      refine (l1In_yes _ _ _ _ (by omega) (by omega)).mono ?_
      rintro e w5 ⟨rfl, rfl⟩
      go_wp2_with fail
      refine (l1Ascending_any _ _ _ _ (hws.mono hB3)).mono ?_
      rintro e w6 ⟨rfl, nd, rfl⟩
      go_wp2_with fail
      go_ret
      exact ⟨ret_bool (by rw [HR.out, HSn.out, decide_eq_true h1, decide_eq_true h6]; rfl), below_drewN hB3 _⟩
    · have HS0 : Hid (Gate.soundOf ss ⟨nm, 2, ls, ms, ws, to, rl, mu, fx, df, wg⟩ = false) := by
        rw [HSn.out]; unfold Hid
        by_cases h1 : 1 ≤ ws.length
        · rw [decide_eq_false (show ¬ ws.length ≤ 6 by omega)]; simp
        · rw [decide_eq_false h1]; rfl
      go_enter Tryz.func91, Tryz.ntmps91
      go_wp2_with fail
      refine (as_bool HNm.out (l1NameOk_any _ _ hnm)).mono ?_
      rintro e w1 ⟨rfl, rfl⟩
      go_wp2_with fail
      refine (as_bool HBare.out (specBare_2 _ _ _ _ _ _ _ _ _ _ _ _ _)).mono ?_
      rintro e w2 ⟨rfl, hb2⟩
      have hX2 := box_later (box_new w _ _) (by simp) hb2
      have hz2 : w.heap.size < w2.heap.size := by have := hb2.size; simp at this; omega
      have hB2 : Below w.heap.size w w2 := ((Below.refl _ _).alloc (Nat.le_refl _) _).trans (hb2.mono (by simp))
      clear hb2
      go_wp2_with fail
      refine (as_bool HFit.out (specFits_any _ _ _ _ _ _ _ _ _ _ _ _ _ _ _ hdf (hws.mono hB2))).mono ?_
      rintro e w3 ⟨rfl, hb3⟩
      have hX3 := box_later hX2 hz2 hb3
      have hz3 : w.heap.size < w3.heap.size := by have := hb3.size; omega
      have hB3 : Below w.heap.size w w3 := hB2.trans (hb3.mono (by omega))
      clear hb3 hX2 hz2 hB2
      go_wp2_with fail
      refine (l1In_no _ _ _ _ (by omega)).mono ?_
      rintro e w5 ⟨rfl, rfl⟩
      go_wp2_with fail
      go_ret
      exact ⟨ret_bool (by rw [HR.out, HS0.out]), hB3⟩

end Go.Proofs.YtponiggfclcbgaaGreat

namespace Go.Proofs.YtponiggfclcbgaaGreat
open Go.RowKit

set_option maxHeartbeats 2000000 in
theorem specField_3 (a0 : Option Addr) (cap0 : Nat) (ss : List Shp) (nm : ByteArray) (ls ms : Int) (a : Option Addr) (cap : Nat) (ws : List ByteArray) (to : ByteArray) (rl : Int) (mu fx : Bool) (df wg : ByteArray) (w : World) (hnm : nm.size ≤ maxLen) (hdf : df.size ≤ maxLen) (hws : StrsAt w a ws) :
    Calls Tryz.prog 91 #[.slice a0 ss.length cap0, .agg #[.string nm, .int .i64 3, .int .i64 ls, .int .i64 ms, .slice a ws.length cap, .string to, .int .i64 rl, .bool mu, .bool fx, .string df, .string wg]] w
      fun e w' => e = .returned (.bool (Gate.nameOk nm && Gate.fieldOk ss ⟨nm, 3, ls, ms, ws, to, rl, mu, fx, df, wg⟩)) ∧ Below w.heap.size w w' := by
  have HO : Hid ((Gate.nameOk nm && Gate.fieldOk ss ⟨nm, 3, ls, ms, ws, to, rl, mu, fx, df, wg⟩) = (Gate.nameOk nm && (Gate.bareOf 3 ls ms ws.length to rl wg && Gate.soundOf ss ⟨nm, 3, ls, ms, ws, to, rl, mu, fx, df, wg⟩ && (df.toList.isEmpty || Gate.fits 3 ls ms ws df)))) := rfl
  generalize (Gate.nameOk nm && Gate.fieldOk ss ⟨nm, 3, ls, ms, ws, to, rl, mu, fx, df, wg⟩) = res at HO
  by_cases hn : Gate.nameOk nm = true
  rotate_left
  · have HNm : Hid (Gate.nameOk nm = false) := by simpa [Hid] using hn
    clear hn
    go_enter Tryz.func91, Tryz.ntmps91
    go_wp2_with fail
    refine (as_bool HNm.out (l1NameOk_any _ _ hnm)).mono ?_
    rintro e w1 ⟨rfl, rfl⟩
    go_wp2_with fail
    go_ret
    exact ⟨ret_bool (by rw [HO.out, HNm.out]; rfl), (Below.refl _ _).alloc (Nat.le_refl _) _⟩
  have HNm : Hid (Gate.nameOk nm = true) := hn
  clear hn
  by_cases hbare : Gate.bareOf 3 ls ms ws.length to rl wg = true
  rotate_left
  · have HBare : Hid (Gate.bareOf 3 ls ms ws.length to rl wg = false) := by simpa [Hid] using hbare
    clear hbare
    go_enter Tryz.func91, Tryz.ntmps91
    go_wp2_with fail
    refine (as_bool HNm.out (l1NameOk_any _ _ hnm)).mono ?_
    rintro e w1 ⟨rfl, rfl⟩
    go_wp2_with fail
    refine (as_bool HBare.out (specBare_3 _ _ _ _ _ _ _ _ _ _ _ _ _)).mono ?_
    rintro e w2 ⟨rfl, hb2⟩
    have hX2 := box_later (box_new w _ _) (by simp) hb2
    have hz2 : w.heap.size < w2.heap.size := by have := hb2.size; simp at this; omega
    have hB2 : Below w.heap.size w w2 := ((Below.refl _ _).alloc (Nat.le_refl _) _).trans (hb2.mono (by simp))
    clear hb2
    go_wp2_with fail
    go_ret
    exact ⟨ret_bool (by rw [HO.out, HNm.out, HBare.out]; rfl), hB2⟩
  have HBare : Hid (Gate.bareOf 3 ls ms ws.length to rl wg = true) := hbare
  clear hbare
  by_cases hd : df.toList.isEmpty = true
  · have HD : Hid (df.toList.isEmpty = true) := hd
    have HR : Hid (res = Gate.soundOf ss ⟨nm, 3, ls, ms, ws, to, rl, mu, fx, df, wg⟩) := by unfold Hid; rw [HO.out, HNm.out, HBare.out, hd]; simp
    clear HO
    go_enter Tryz.func91, Tryz.ntmps91
    go_wp2_with fail
    refine (as_bool HNm.out (l1NameOk_any _ _ hnm)).mono ?_
    rintro e w1 ⟨rfl, rfl⟩
    go_wp2_with fail
    refine (as_bool HBare.out (specBare_3 _ _ _ _ _ _ _ _ _ _ _ _ _)).mono ?_
    rintro e w2 ⟨rfl, hb2⟩
    have hX2 := box_later (box_new w _ _) (by simp) hb2
    have hz2 : w.heap.size < w2.heap.size := by have := hb2.size; simp at this; omega
    have hB2 : Below w.heap.size w w2 := ((Below.refl _ _).alloc (Nat.le_refl _) _).trans (hb2.mono (by simp))
    clear hb2
    go_wp2_with fail
    all_goals
      go_ret
      refine ⟨ret_bool ?_, hB2⟩
      rw [HR.out]
      simp_all [Gate.soundOf, Gate.rangeOk]
      try omega
  have hd' : df.toList.isEmpty = false := by simpa using hd
  have HD : Hid (df.toList.isEmpty = false) := hd'
  clear hd
  by_cases hfit : Gate.fits 3 ls ms ws df = true
  rotate_left
  · have HFit : Hid (Gate.fits 3 ls ms ws df = false) := by simpa [Hid] using hfit
    clear hfit
    go_enter Tryz.func91, Tryz.ntmps91
    go_wp2_with fail
    refine (as_bool HNm.out (l1NameOk_any _ _ hnm)).mono ?_
    rintro e w1 ⟨rfl, rfl⟩
    go_wp2_with fail
    refine (as_bool HBare.out (specBare_3 _ _ _ _ _ _ _ _ _ _ _ _ _)).mono ?_
    rintro e w2 ⟨rfl, hb2⟩
    have hX2 := box_later (box_new w _ _) (by simp) hb2
    have hz2 : w.heap.size < w2.heap.size := by have := hb2.size; simp at this; omega
    have hB2 : Below w.heap.size w w2 := ((Below.refl _ _).alloc (Nat.le_refl _) _).trans (hb2.mono (by simp))
    clear hb2
    go_wp2_with fail
    refine (as_bool HFit.out (specFits_any _ _ _ _ _ _ _ _ _ _ _ _ _ _ _ hdf (hws.mono hB2))).mono ?_
    rintro e w3 ⟨rfl, hb3⟩
    have hX3 := box_later hX2 hz2 hb3
    have hz3 : w.heap.size < w3.heap.size := by have := hb3.size; omega
    have hB3 : Below w.heap.size w w3 := hB2.trans (hb3.mono (by omega))
    clear hb3 hX2 hz2 hB2
    go_wp2_with fail
    go_ret
    exact ⟨ret_bool (by rw [HO.out, HNm.out, HBare.out, HD.out, HFit.out]; simp), hB3⟩
  · have HFit : Hid (Gate.fits 3 ls ms ws df = true) := hfit
    have HR : Hid (res = Gate.soundOf ss ⟨nm, 3, ls, ms, ws, to, rl, mu, fx, df, wg⟩) := by unfold Hid; rw [HO.out, HNm.out, HBare.out, HD.out, hfit]; simp
    clear hfit HO
    go_enter Tryz.func91, Tryz.ntmps91
    go_wp2_with fail
    refine (as_bool HNm.out (l1NameOk_any _ _ hnm)).mono ?_
    rintro e w1 ⟨rfl, rfl⟩
    go_wp2_with fail
    refine (as_bool HBare.out (specBare_3 _ _ _ _ _ _ _ _ _ _ _ _ _)).mono ?_
    rintro e w2 ⟨rfl, hb2⟩
    have hX2 := box_later (box_new w _ _) (by simp) hb2
    have hz2 : w.heap.size < w2.heap.size := by have := hb2.size; simp at this; omega
    have hB2 : Below w.heap.size w w2 := ((Below.refl _ _).alloc (Nat.le_refl _) _).trans (hb2.mono (by simp))
    clear hb2
    go_wp2_with fail
    refine (as_bool HFit.out (specFits_any _ _ _ _ _ _ _ _ _ _ _ _ _ _ _ hdf (hws.mono hB2))).mono ?_
    rintro e w3 ⟨rfl, hb3⟩
    have hX3 := box_later hX2 hz2 hb3
    have hz3 : w.heap.size < w3.heap.size := by have := hb3.size; omega
    have hB3 : Below w.heap.size w w3 := hB2.trans (hb3.mono (by omega))
    clear hb3 hX2 hz2 hB2
    go_wp2_with fail
    all_goals
      go_ret
      refine ⟨ret_bool ?_, hB3⟩
      rw [HR.out]
      simp_all [Gate.soundOf, Gate.rangeOk]
      try omega

end Go.Proofs.YtponiggfclcbgaaGreat

namespace Go.Proofs.YtponiggfclcbgaaGreat
open Go.RowKit

set_option maxHeartbeats 2000000 in
theorem specField_4 (a0 : Option Addr) (cap0 : Nat) (ss : List Shp) (nm : ByteArray) (ls ms : Int) (a : Option Addr) (cap : Nat) (ws : List ByteArray) (to : ByteArray) (rl : Int) (mu fx : Bool) (df wg : ByteArray) (w : World) (hnm : nm.size ≤ maxLen) (hdf : df.size ≤ maxLen) (hws : StrsAt w a ws) (hss : ShpsAt w a0 ss) :
    Calls Tryz.prog 91 #[.slice a0 ss.length cap0, .agg #[.string nm, .int .i64 4, .int .i64 ls, .int .i64 ms, .slice a ws.length cap, .string to, .int .i64 rl, .bool mu, .bool fx, .string df, .string wg]] w
      fun e w' => e = .returned (.bool (Gate.nameOk nm && Gate.fieldOk ss ⟨nm, 4, ls, ms, ws, to, rl, mu, fx, df, wg⟩)) ∧ Below w.heap.size w w' := by
  have HO : Hid ((Gate.nameOk nm && Gate.fieldOk ss ⟨nm, 4, ls, ms, ws, to, rl, mu, fx, df, wg⟩) = (Gate.nameOk nm && (Gate.bareOf 4 ls ms ws.length to rl wg && Gate.soundOf ss ⟨nm, 4, ls, ms, ws, to, rl, mu, fx, df, wg⟩ && (df.toList.isEmpty || Gate.fits 4 ls ms ws df)))) := rfl
  generalize (Gate.nameOk nm && Gate.fieldOk ss ⟨nm, 4, ls, ms, ws, to, rl, mu, fx, df, wg⟩) = res at HO
  by_cases hn : Gate.nameOk nm = true
  rotate_left
  · have HNm : Hid (Gate.nameOk nm = false) := by simpa [Hid] using hn
    clear hn
    go_enter Tryz.func91, Tryz.ntmps91
    go_wp2_with fail
    refine (as_bool HNm.out (l1NameOk_any _ _ hnm)).mono ?_
    rintro e w1 ⟨rfl, rfl⟩
    go_wp2_with fail
    go_ret
    exact ⟨ret_bool (by rw [HO.out, HNm.out]; rfl), (Below.refl _ _).alloc (Nat.le_refl _) _⟩
  have HNm : Hid (Gate.nameOk nm = true) := hn
  clear hn
  by_cases hbare : Gate.bareOf 4 ls ms ws.length to rl wg = true
  rotate_left
  · have HBare : Hid (Gate.bareOf 4 ls ms ws.length to rl wg = false) := by simpa [Hid] using hbare
    clear hbare
    go_enter Tryz.func91, Tryz.ntmps91
    go_wp2_with fail
    refine (as_bool HNm.out (l1NameOk_any _ _ hnm)).mono ?_
    rintro e w1 ⟨rfl, rfl⟩
    go_wp2_with fail
    refine (as_bool HBare.out (specBare_4 _ _ _ _ _ _ _ _ _ _ _ _ _)).mono ?_
    rintro e w2 ⟨rfl, hb2⟩
    have hX2 := box_later (box_new w _ _) (by simp) hb2
    have hz2 : w.heap.size < w2.heap.size := by have := hb2.size; simp at this; omega
    have hB2 : Below w.heap.size w w2 := ((Below.refl _ _).alloc (Nat.le_refl _) _).trans (hb2.mono (by simp))
    clear hb2
    go_wp2_with fail
    go_ret
    exact ⟨ret_bool (by rw [HO.out, HNm.out, HBare.out]; rfl), hB2⟩
  have HBare : Hid (Gate.bareOf 4 ls ms ws.length to rl wg = true) := hbare
  clear hbare
  by_cases hd : df.toList.isEmpty = true
  · have HD : Hid (df.toList.isEmpty = true) := hd
    have HR : Hid (res = Gate.soundOf ss ⟨nm, 4, ls, ms, ws, to, rl, mu, fx, df, wg⟩) := by unfold Hid; rw [HO.out, HNm.out, HBare.out, hd]; simp
    clear HO
    have HSn : Hid (Gate.soundOf ss ⟨nm, 4, ls, ms, ws, to, rl, mu, fx, df, wg⟩ = (Gate.hasKind ss to && (decide (1 ≤ rl) && decide (rl ≤ 3)) && df.toList.isEmpty && (decide (rl ≠ 2) || !mu))) := by simp [Gate.soundOf, Hid]
    by_cases hk : Gate.hasKind ss to = true
    rotate_left
    · have HK : Hid (Gate.hasKind ss to = false) := by simpa [Hid] using hk
      clear hk
      go_enter Tryz.func91, Tryz.ntmps91
      go_wp2_with fail
      refine (as_bool HNm.out (l1NameOk_any _ _ hnm)).mono ?_
      rintro e w1 ⟨rfl, rfl⟩
      go_wp2_with fail
      refine (as_bool HBare.out (specBare_4 _ _ _ _ _ _ _ _ _ _ _ _ _)).mono ?_
      rintro e w2 ⟨rfl, hb2⟩
      have hX2 := box_later (box_new w _ _) (by simp) hb2
      have hz2 : w.heap.size < w2.heap.size := by have := hb2.size; simp at this; omega
      have hB2 : Below w.heap.size w w2 := ((Below.refl _ _).alloc (Nat.le_refl _) _).trans (hb2.mono (by simp))
      clear hb2
      go_wp2_with fail
      refine (l1Shape_no _ _ _ _ _ (hss.mono hB2) HK.out).mono ?_
      rintro e w5 ⟨rfl, rfl⟩
      go_wp2_with fail
      go_ret
      exact ⟨ret_bool (by rw [HR.out, HSn.out, HK.out]; rfl), hB2⟩
    have HK : Hid (Gate.hasKind ss to = true) := hk
    clear hk
    by_cases h13 : 1 ≤ rl ∧ rl ≤ 3
    rotate_left
    · have HT : Hid ((decide (1 ≤ rl) && decide (rl ≤ 3)) = false) := by unfold Hid; rw [Bool.eq_false_iff]; simp; omega
      have H13 : Hid (¬ (1 ≤ rl ∧ rl ≤ 3)) := h13
      clear h13
      go_enter Tryz.func91, Tryz.ntmps91
      go_wp2_with fail
      refine (as_bool HNm.out (l1NameOk_any _ _ hnm)).mono ?_
      rintro e w1 ⟨rfl, rfl⟩
      go_wp2_with fail
      refine (as_bool HBare.out (specBare_4 _ _ _ _ _ _ _ _ _ _ _ _ _)).mono ?_
      rintro e w2 ⟨rfl, hb2⟩
      have hX2 := box_later (box_new w _ _) (by simp) hb2
      have hz2 : w.heap.size < w2.heap.size := by have := hb2.size; simp at this; omega
      have hB2 : Below w.heap.size w w2 := ((Below.refl _ _).alloc (Nat.le_refl _) _).trans (hb2.mono (by simp))
      clear hb2
      go_wp2_with fail
      refine (l1Shape_yes _ _ _ _ _ (hss.mono hB2) HK.out).mono ?_
      rintro e w5 ⟨ix, hix, rfl, _, rfl⟩
      have hix0 : (0 : Int) ≤ (ix : Int) := by omega
      go_wp2_with fail
      refine (l1In_no _ _ _ _ H13.out).mono ?_
      rintro e w6 ⟨rfl, rfl⟩
      go_wp2_with fail
      go_ret
      exact ⟨ret_bool (by rw [HR.out, HSn.out, HK.out, HT.out]; simp), hB2⟩
    obtain ⟨h1, h3⟩ := h13
    have HT : Hid ((decide (1 ≤ rl) && decide (rl ≤ 3)) = true) := by unfold Hid; simp; omega
    by_cases h2 : rl = 2
    · have e2 : (rl != 2) = false := by simp [h2]
      have H2 : Hid (decide (rl ≠ 2) = false) := by unfold Hid; simp [h2]
      clear h2
      go_enter Tryz.func91, Tryz.ntmps91
      go_wp2_with fail
      refine (as_bool HNm.out (l1NameOk_any _ _ hnm)).mono ?_
      rintro e w1 ⟨rfl, rfl⟩
      go_wp2_with fail
      refine (as_bool HBare.out (specBare_4 _ _ _ _ _ _ _ _ _ _ _ _ _)).mono ?_
      rintro e w2 ⟨rfl, hb2⟩
      have hX2 := box_later (box_new w _ _) (by simp) hb2
      have hz2 : w.heap.size < w2.heap.size := by have := hb2.size; simp at this; omega
      have hB2 : Below w.heap.size w w2 := ((Below.refl _ _).alloc (Nat.le_refl _) _).trans (hb2.mono (by simp))
      clear hb2
      go_wp2_with fail
      refine (l1Shape_yes _ _ _ _ _ (hss.mono hB2) HK.out).mono ?_
      rintro e w5 ⟨ix, hix, rfl, _, rfl⟩
      have hix0 : (0 : Int) ≤ (ix : Int) := by omega
      go_wp2_with fail
      refine (l1In_yes _ _ _ _ h1 h3).mono ?_
      rintro e w6 ⟨rfl, rfl⟩
      go_wp2_with fail
      go_ret
      exact ⟨ret_bool (by rw [HR.out, HSn.out, HK.out, HT.out, HD.out, H2.out]; simp), hB2⟩
    · have e2 : (rl != 2) = true := by simp [h2]
      have H2 : Hid (decide (rl ≠ 2) = true) := by unfold Hid; simp [h2]
      clear h2
      go_enter Tryz.func91, Tryz.ntmps91
      go_wp2_with fail
      refine (as_bool HNm.out (l1NameOk_any _ _ hnm)).mono ?_
      rintro e w1 ⟨rfl, rfl⟩
      go_wp2_with fail
      refine (as_bool HBare.out (specBare_4 _ _ _ _ _ _ _ _ _ _ _ _ _)).mono ?_
      rintro e w2 ⟨rfl, hb2⟩
      have hX2 := box_later (box_new w _ _) (by simp) hb2
      have hz2 : w.heap.size < w2.heap.size := by have := hb2.size; simp at this; omega
      have hB2 : Below w.heap.size w w2 := ((Below.refl _ _).alloc (Nat.le_refl _) _).trans (hb2.mono (by simp))
      clear hb2
      go_wp2_with fail
      refine (l1Shape_yes _ _ _ _ _ (hss.mono hB2) HK.out).mono ?_
      rintro e w5 ⟨ix, hix, rfl, _, rfl⟩
      have hix0 : (0 : Int) ≤ (ix : Int) := by omega
      go_wp2_with fail
      refine (l1In_yes _ _ _ _ h1 h3).mono ?_
      rintro e w6 ⟨rfl, rfl⟩
      go_wp2_with fail
      go_ret
      exact ⟨ret_bool (by rw [HR.out, HSn.out, HK.out, HT.out, HD.out, H2.out]; simp), hB2⟩
  have hd' : df.toList.isEmpty = false := by simpa using hd
  have HD : Hid (df.toList.isEmpty = false) := hd'
  clear hd
  by_cases hfit : Gate.fits 4 ls ms ws df = true
  rotate_left
  · have HFit : Hid (Gate.fits 4 ls ms ws df = false) := by simpa [Hid] using hfit
    clear hfit
    go_enter Tryz.func91, Tryz.ntmps91
    go_wp2_with fail
    refine (as_bool HNm.out (l1NameOk_any _ _ hnm)).mono ?_
    rintro e w1 ⟨rfl, rfl⟩
    go_wp2_with fail
    refine (as_bool HBare.out (specBare_4 _ _ _ _ _ _ _ _ _ _ _ _ _)).mono ?_
    rintro e w2 ⟨rfl, hb2⟩
    have hX2 := box_later (box_new w _ _) (by simp) hb2
    have hz2 : w.heap.size < w2.heap.size := by have := hb2.size; simp at this; omega
    have hB2 : Below w.heap.size w w2 := ((Below.refl _ _).alloc (Nat.le_refl _) _).trans (hb2.mono (by simp))
    clear hb2
    go_wp2_with fail
    refine (as_bool HFit.out (specFits_any _ _ _ _ _ _ _ _ _ _ _ _ _ _ _ hdf (hws.mono hB2))).mono ?_
    rintro e w3 ⟨rfl, hb3⟩
    have hX3 := box_later hX2 hz2 hb3
    have hz3 : w.heap.size < w3.heap.size := by have := hb3.size; omega
    have hB3 : Below w.heap.size w w3 := hB2.trans (hb3.mono (by omega))
    clear hb3 hX2 hz2 hB2
    go_wp2_with fail
    go_ret
    exact ⟨ret_bool (by rw [HO.out, HNm.out, HBare.out, HD.out, HFit.out]; simp), hB3⟩
  · have HFit : Hid (Gate.fits 4 ls ms ws df = true) := hfit
    have HR : Hid (res = Gate.soundOf ss ⟨nm, 4, ls, ms, ws, to, rl, mu, fx, df, wg⟩) := by unfold Hid; rw [HO.out, HNm.out, HBare.out, HD.out, hfit]; simp
    clear hfit HO
    have HSn : Hid (Gate.soundOf ss ⟨nm, 4, ls, ms, ws, to, rl, mu, fx, df, wg⟩ = (Gate.hasKind ss to && (decide (1 ≤ rl) && decide (rl ≤ 3)) && df.toList.isEmpty && (decide (rl ≠ 2) || !mu))) := by simp [Gate.soundOf, Hid]
    by_cases hk : Gate.hasKind ss to = true
    rotate_left
    · have HK : Hid (Gate.hasKind ss to = false) := by simpa [Hid] using hk
      clear hk
      go_enter Tryz.func91, Tryz.ntmps91
      go_wp2_with fail
      refine (as_bool HNm.out (l1NameOk_any _ _ hnm)).mono ?_
      rintro e w1 ⟨rfl, rfl⟩
      go_wp2_with fail
      refine (as_bool HBare.out (specBare_4 _ _ _ _ _ _ _ _ _ _ _ _ _)).mono ?_
      rintro e w2 ⟨rfl, hb2⟩
      have hX2 := box_later (box_new w _ _) (by simp) hb2
      have hz2 : w.heap.size < w2.heap.size := by have := hb2.size; simp at this; omega
      have hB2 : Below w.heap.size w w2 := ((Below.refl _ _).alloc (Nat.le_refl _) _).trans (hb2.mono (by simp))
      clear hb2
      go_wp2_with fail
      refine (as_bool HFit.out (specFits_any _ _ _ _ _ _ _ _ _ _ _ _ _ _ _ hdf (hws.mono hB2))).mono ?_
      rintro e w3 ⟨rfl, hb3⟩
      have hX3 := box_later hX2 hz2 hb3
      have hz3 : w.heap.size < w3.heap.size := by have := hb3.size; omega
      have hB3 : Below w.heap.size w w3 := hB2.trans (hb3.mono (by omega))
      clear hb3 hX2 hz2 hB2
      go_wp2_with fail
      refine (l1Shape_no _ _ _ _ _ (hss.mono hB3) HK.out).mono ?_
      rintro e w5 ⟨rfl, rfl⟩
      go_wp2_with fail
      go_ret
      exact ⟨ret_bool (by rw [HR.out, HSn.out, HK.out]; rfl), hB3⟩
    have HK : Hid (Gate.hasKind ss to = true) := hk
    clear hk
    by_cases h13 : 1 ≤ rl ∧ rl ≤ 3
    · obtain ⟨h1, h3⟩ := h13
      go_enter Tryz.func91, Tryz.ntmps91
      go_wp2_with fail
      refine (as_bool HNm.out (l1NameOk_any _ _ hnm)).mono ?_
      rintro e w1 ⟨rfl, rfl⟩
      go_wp2_with fail
      refine (as_bool HBare.out (specBare_4 _ _ _ _ _ _ _ _ _ _ _ _ _)).mono ?_
      rintro e w2 ⟨rfl, hb2⟩
      have hX2 := box_later (box_new w _ _) (by simp) hb2
      have hz2 : w.heap.size < w2.heap.size := by have := hb2.size; simp at this; omega
      have hB2 : Below w.heap.size w w2 := ((Below.refl _ _).alloc (Nat.le_refl _) _).trans (hb2.mono (by simp))
      clear hb2
      go_wp2_with fail
      refine (as_bool HFit.out (specFits_any _ _ _ _ _ _ _ _ _ _ _ _ _ _ _ hdf (hws.mono hB2))).mono ?_
      rintro e w3 ⟨rfl, hb3⟩
      have hX3 := box_later hX2 hz2 hb3
      have hz3 : w.heap.size < w3.heap.size := by have := hb3.size; omega
      have hB3 : Below w.heap.size w w3 := hB2.trans (hb3.mono (by omega))
      clear hb3 hX2 hz2 hB2
      go_wp2_with fail
      refine (l1Shape_yes _ _ _ _ _ (hss.mono hB3) HK.out).mono ?_
      rintro e w5 ⟨ix, hix, rfl, _, rfl⟩
      have hix0 : (0 : Int) ≤ (ix : Int) := by omega
      go_wp2_with fail
      refine (l1In_yes _ _ _ _ h1 h3).mono ?_
      rintro e w6 ⟨rfl, rfl⟩
      go_wp2_with fail
      go_ret
      exact ⟨ret_bool (by rw [HR.out, HSn.out, HD.out]; simp), hB3⟩
    · have H13 : Hid (¬ (1 ≤ rl ∧ rl ≤ 3)) := h13
      clear h13
      go_enter Tryz.func91, Tryz.ntmps91
      go_wp2_with fail
      refine (as_bool HNm.out (l1NameOk_any _ _ hnm)).mono ?_
      rintro e w1 ⟨rfl, rfl⟩
      go_wp2_with fail
      refine (as_bool HBare.out (specBare_4 _ _ _ _ _ _ _ _ _ _ _ _ _)).mono ?_
      rintro e w2 ⟨rfl, hb2⟩
      have hX2 := box_later (box_new w _ _) (by simp) hb2
      have hz2 : w.heap.size < w2.heap.size := by have := hb2.size; simp at this; omega
      have hB2 : Below w.heap.size w w2 := ((Below.refl _ _).alloc (Nat.le_refl _) _).trans (hb2.mono (by simp))
      clear hb2
      go_wp2_with fail
      refine (as_bool HFit.out (specFits_any _ _ _ _ _ _ _ _ _ _ _ _ _ _ _ hdf (hws.mono hB2))).mono ?_
      rintro e w3 ⟨rfl, hb3⟩
      have hX3 := box_later hX2 hz2 hb3
      have hz3 : w.heap.size < w3.heap.size := by have := hb3.size; omega
      have hB3 : Below w.heap.size w w3 := hB2.trans (hb3.mono (by omega))
      clear hb3 hX2 hz2 hB2
      go_wp2_with fail
      refine (l1Shape_yes _ _ _ _ _ (hss.mono hB3) HK.out).mono ?_
      rintro e w5 ⟨ix, hix, rfl, _, rfl⟩
      have hix0 : (0 : Int) ≤ (ix : Int) := by omega
      go_wp2_with fail
      refine (l1In_no _ _ _ _ H13.out).mono ?_
      rintro e w6 ⟨rfl, rfl⟩
      go_wp2_with fail
      go_ret
      exact ⟨ret_bool (by rw [HR.out, HSn.out, HD.out]; simp), hB3⟩

end Go.Proofs.YtponiggfclcbgaaGreat
