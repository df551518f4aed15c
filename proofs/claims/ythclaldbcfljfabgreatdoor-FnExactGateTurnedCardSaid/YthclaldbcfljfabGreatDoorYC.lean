import Derived.Test.YthclaldbcfljfabGreatDoorYB1
import Derived.Test.YthclaldbcfljfabGreatDoorYB2
import Derived.Test.YthclaldbcfljfabGreatDoorYB3
import Derived.Test.YthclaldbcfljfabGreatDoorYB4
namespace Go.Proofs.YthclaldbcfljfabGreatDoor
open Go.RowKit

set_option maxHeartbeats 2000000 in
theorem specField_other (a0 : Option Addr) (cap0 : Nat) (ss : List Shp) (nm : ByteArray) (kd ls ms : Int) (a : Option Addr) (cap : Nat) (ws : List ByteArray) (to : ByteArray) (rl : Int) (mu fx : Bool) (df wg : ByteArray) (w : World) (hnm : nm.size ≤ maxLen) (hdf : df.size ≤ maxLen) (hws : StrsAt w a ws) (h1 : kd ≠ 1) (h2 : kd ≠ 2) (h3 : kd ≠ 3) (h4 : kd ≠ 4) :
    Calls Tryz.prog 39 #[.slice a0 ss.length cap0, .agg #[.string nm, .int .i64 kd, .int .i64 ls, .int .i64 ms, .slice a ws.length cap, .string to, .int .i64 rl, .bool mu, .bool fx, .string df, .string wg]] w
      fun e w' => e = .returned (.bool (Gate.nameOk nm && Gate.fieldOk ss ⟨nm, kd, ls, ms, ws, to, rl, mu, fx, df, wg⟩)) ∧ Below w.heap.size w w' := by
  have HO : Hid ((Gate.nameOk nm && Gate.fieldOk ss ⟨nm, kd, ls, ms, ws, to, rl, mu, fx, df, wg⟩) = false) := by simp [Hid, Gate.fieldOk, Gate.bare, Gate.bareOf, h1, h2, h3, h4]
  generalize (Gate.nameOk nm && Gate.fieldOk ss ⟨nm, kd, ls, ms, ws, to, rl, mu, fx, df, wg⟩) = res at HO
  have HFit : Hid (Gate.fits kd ls ms ws df = false) := Gate.fits_other kd ls ms ws df h1 h2 h3 h4
  have HH : Hid (kd ≠ 1 ∧ kd ≠ 2 ∧ kd ≠ 3 ∧ kd ≠ 4) := ⟨h1, h2, h3, h4⟩
  have e1 : (kd == 1) = false := by simpa using h1
  have e2 : (kd == 2) = false := by simpa using h2
  have e3 : (kd == 3) = false := by simpa using h3
  have e4 : (kd == 4) = false := by simpa using h4
  clear h1 h2 h3 h4
  by_cases hn : Gate.nameOk nm = true
  rotate_left
  · have HNm : Hid (Gate.nameOk nm = false) := by simpa [Hid] using hn
    clear hn
    go_enter Tryz.func39, Tryz.ntmps39
    go_wp2_with fail
    refine (as_bool HNm.out (l1NameOk_any _ _ hnm)).mono ?_
    rintro e w1 ⟨rfl, rfl⟩
    go_wp2_with fail
    go_ret
    exact ⟨ret_bool HO.out.symm, (Below.refl _ _).alloc (Nat.le_refl _) _⟩
  have HNm : Hid (Gate.nameOk nm = true) := hn
  clear hn
  by_cases hd : df.toList.isEmpty = true
  all_goals
    first
      | (have hd1 : df.toList.isEmpty = true := hd)
      | (have hd1 : df.toList.isEmpty = false := by simpa using hd)
    clear hd
    go_enter Tryz.func39, Tryz.ntmps39
    go_wp2_with fail
    refine (as_bool HNm.out (l1NameOk_any _ _ hnm)).mono ?_
    rintro e w1 ⟨rfl, rfl⟩
    go_wp2_with fail
    refine (specBare_other _ _ _ _ _ _ _ _ _ _ _ _ _ _ HH.out.1 HH.out.2.1 HH.out.2.2.1 HH.out.2.2.2).mono ?_
    rintro e w2 ⟨bb, rfl, hb2⟩
    have hX2 := box_later (box_new w _ _) (by simp) hb2
    have hz2 : w.heap.size < w2.heap.size := by have := hb2.size; simp at this; omega
    have hB2 : Below w.heap.size w w2 := ((Below.refl _ _).alloc (Nat.le_refl _) _).trans (hb2.mono (by simp))
    clear hb2
    cases bb
    · go_wp2_with fail
      go_ret
      exact ⟨ret_bool HO.out.symm, hB2⟩
  · go_wp2_with fail
    go_ret
    exact ⟨ret_bool HO.out.symm, hB2⟩
  · go_wp2_with fail
    refine (as_bool HFit.out (specFits_any _ _ _ _ _ _ _ _ _ _ _ _ _ _ _ hdf (hws.mono hB2))).mono ?_
    rintro e w3 ⟨rfl, hb3⟩
    have hB3 : Below w.heap.size w w3 := hB2.trans (hb3.mono (by omega))
    go_wp2_with fail
    go_ret
    exact ⟨ret_bool HO.out.symm, hB3⟩

theorem specField_any (a0 : Option Addr) (cap0 : Nat) (ss : List Shp) (nm : ByteArray) (kd ls ms : Int) (a : Option Addr) (cap : Nat) (ws : List ByteArray) (to : ByteArray) (rl : Int) (mu fx : Bool) (df wg : ByteArray) (w : World) (hnm : nm.size ≤ maxLen) (hdf : df.size ≤ maxLen) (hwg : wg.size ≤ maxLen) (hws : StrsAt w a ws) (hss : ShpsAt w a0 ss) :
    Calls Tryz.prog 39 #[.slice a0 ss.length cap0, .agg #[.string nm, .int .i64 kd, .int .i64 ls, .int .i64 ms, .slice a ws.length cap, .string to, .int .i64 rl, .bool mu, .bool fx, .string df, .string wg]] w
      fun e w' => e = .returned (.bool (Gate.nameOk nm && Gate.fieldOk ss ⟨nm, kd, ls, ms, ws, to, rl, mu, fx, df, wg⟩)) ∧ Below w.heap.size w w' := by
  by_cases h1 : kd = 1
  · subst h1; exact specField_1 a0 cap0 ss nm ls ms a cap ws to rl mu fx df wg w hnm hdf hwg hws
  by_cases h2 : kd = 2
  · subst h2; exact specField_2 a0 cap0 ss nm ls ms a cap ws to rl mu fx df wg w hnm hdf hws
  by_cases h3 : kd = 3
  · subst h3; exact specField_3 a0 cap0 ss nm ls ms a cap ws to rl mu fx df wg w hnm hdf hws
  by_cases h4 : kd = 4
  · subst h4; exact specField_4 a0 cap0 ss nm ls ms a cap ws to rl mu fx df wg w hnm hdf hws hss
  exact specField_other a0 cap0 ss nm kd ls ms a cap ws to rl mu fx df wg w hnm hdf hws h1 h2 h3 h4

end Go.Proofs.YthclaldbcfljfabGreatDoor
