import Derived.Test.YtpmlngcljbkchaaGreatM04
import Derived.Test.YtpmlngcljbkchaaGreatM12
import Derived.Test.YtpmlngcljbkchaaGreatM09
import Derived.Test.YtpmlngcljbkchaaGreatM02
import Derived.Deep.QuietTactic
import Derived.BigQuiet
import Derived.Test.YtpmlngcljbkchaaGreatM19
namespace Go.Proofs.YtpmlngcljbkchaaGreat
open Go.RowKit

namespace Gate
def isSet (s : ByteArray) : Bool := !s.toList.isEmpty
/-- The names of the fields that a mend looks at. -/
def readNames (m : Mnd) : List ByteArray := [m.wh, m.fr].filter isSet
def turns (m : Mnd) (s : Shp) (p : Nat) : Bool := decide (m.kd = s.kd) && decide (m.fd = (s.fs.getD p noField).nm)
end Gate


set_option maxRecDepth 20000 in
set_option maxHeartbeats 2000000 in
theorem readNames_any (m : Mnd) (w : World) :
    Calls Tryz.prog 91 #[.agg m.cells] w fun e w' => ∃ v, e = .returned v ∧ w'.ownsRow w.heap.size 9 1 v (Gate.readNames m).length ((Gate.readNames m).map Value.string) ∧ Below w.heap.size w w' := by
  unfold Mnd.cells
  obtain ⟨i0, hi, hz0, hz1', hz2⟩ := info_parts Tryz.infoString
  go_enter Tryz.func91, Tryz.ntmps91
  go_wp2_with fail
  go_loopw [3, 12] (fun nv0 iv wr => ∃ (k : Nat) (nv : Value), nv = nv0 ∧ k ≤ 2 ∧ iv = .int .i64 k ∧ wr.ownsRow (w.heap.size + 2) 9 1 nv (([m.wh, m.fr].take k).filter Gate.isSet).length ((([m.wh, m.fr].take k).filter Gate.isSet).map Value.string) ∧ wr.heap[w.heap.size + 1]? = some (.cells #[.string m.wh, .string m.fr] 9) ∧ Below w.heap.size w wr) (fun _ iv _ => 2 - (intOf iv).toNat)
  case atStart => exact ⟨0, _, rfl, by omega, rfl, World.ownsRow_nil _ _ _ _, (two_blocks _ _ _).2, below2' _ _ _⟩
  case round =>
    obtain ⟨k, nv, hnv, hk, rfl, hown, hlit, hB⟩ := hrel
    subst hnv
    by_cases hlt : k < 2
    · have hltI : (k : Int) < 2 := by omega
      obtain ⟨x, hx, HT⟩ : ∃ x, (#[.string m.wh, .string m.fr] : Array Value)[k]? = some (.string x) ∧ Hid (([m.wh, m.fr].take (k + 1)).filter Gate.isSet = ([m.wh, m.fr].take k).filter Gate.isSet ++ if Gate.isSet x = true then [x] else []) := by
        rcases k with _ | _ | k
        · refine ⟨m.wh, rfl, ?_⟩
          by_cases h : Gate.isSet m.wh = true <;> simp [Hid, h]
        · refine ⟨m.fr, rfl, ?_⟩
          by_cases h : Gate.isSet m.fr = true <;> by_cases h' : Gate.isSet m.wh = true <;> simp [Hid, h, h']
        · omega
      have hcx : wr.cell? ⟨w.heap.size + 1, k, none⟩ = some (.string x) := by rw [cell_of_block hlit]; exact hx
      have hlen : (([m.wh, m.fr].take k).filter Gate.isSet).length ≤ 2 := Nat.le_trans (List.length_filter_le _ _) (by simp; omega)
      have HB : Hid (wr.heap[w.heap.size + 1]? = some (.cells #[.string m.wh, .string m.fr] 9) ∧ Below w.heap.size w wr ∧ w.heap.size + 1 < wr.heap.size) := ⟨hlit, hB, (Array.getElem?_eq_some_iff.1 hlit).1⟩
      have HW : Hid (wr.ownsRow (w.heap.size + 2) 9 1 nv (([m.wh, m.fr].take k).filter Gate.isSet).length ((([m.wh, m.fr].take k).filter Gate.isSet).map Value.string)) := hown
      clear hlit hB hx hown
      by_cases hs : x.toList.isEmpty = true
      · have HE : Hid (Gate.isSet x = false) := by unfold Hid Gate.isSet; rw [hs]; rfl
        go_wp2_with fail
        have HT' : ([m.wh, m.fr].take (k + 1)).filter Gate.isSet = ([m.wh, m.fr].take k).filter Gate.isSet := by rw [HT.out, HE.out]; simp
        exact ⟨⟨k + 1, _, rfl, by omega, by go_num, by rw [HT']; exact HW.out, HB.out.1, HB.out.2.1⟩, step_less' hlt⟩
      · have hs' : x.toList.isEmpty = false := by simpa using hs
        have HE : Hid (Gate.isSet x = true) := by unfold Hid Gate.isSet; rw [hs']; rfl
        clear hs
        go_wp2_with (at_builtin; refine wpList_append_own _ rfl (.tmp 18) (.tmp 20) 27 rfl (w.heap.size + 2) 9 i0 (.string ByteArray.empty) 1 16 Tryz.underlying27 hi hz0 hz1' hz2 rfl (by decide) _ _ _ rfl (HW.out.alloc _) ⟨wr.heap.size, 0, none⟩ 1 1 [.string x] rfl rfl (one_news _ _ _) (by intro u hu; simp at hu; subst hu; rfl) (by unfold maxLen; omega) (by omega) (by have := HB.out.2.2; simp; omega) ?_; intro v' w1 hown' hgr _)
        have HT' : ([m.wh, m.fr].take (k + 1)).filter Gate.isSet = ([m.wh, m.fr].take k).filter Gate.isSet ++ [x] := by rw [HT.out, HE.out]; simp
        have hgb : ∀ g, nv.ownBlock = some g → w.heap.size + 2 ≤ g := fun g hg => (HW.out.lt g hg).1
        refine ⟨⟨k + 1, _, rfl, by omega, by go_num, ?_, ?_, grown_below HB.out.2.1 HB.out.2.1.size hgr (fun g hg => by have := hgb g hg; omega)⟩, step_less' hlt⟩
        · rw [HT', List.length_append, List.map_append]; exact hown'
        · rw [grown_block hgr (by have := HB.out.2.2; simp; omega) (fun g hg => by have := hgb g hg; omega), Below.heap_alloc _ _ _ HB.out.2.2]; exact HB.out.1
    · have e : k = 2 := by omega
      subst e
      have HF : Hid (wr.ownsRow w.heap.size 9 1 nv (Gate.readNames m).length ((Gate.readNames m).map Value.string) ∧ Below w.heap.size w wr) := ⟨ownsRow_low hown (by omega), hB⟩
      clear hown hlit hB
      go_wp2_with fail
      go_ret
      exact ⟨nv, rfl, HF.out⟩

set_option maxHeartbeats 1000000 in
theorem turns_any (m : Mnd) (s : Shp) (fa : Option Addr) (fcap p : Nat) (w : World) (hf : FldsAt w fa s.fs) (hp : p < s.fs.length) :
    Calls Tryz.prog 96 #[.agg m.cells, .agg #[.string s.kd, .slice fa s.fs.length fcap], .int .i64 p] w fun e w' => e = .returned (.bool (Gate.turns m s p)) ∧ Below w.heap.size w w' := by
  unfold Mnd.cells
  have hB : ∀ o1 o2, Below w.heap.size w ((w.alloc o1).alloc o2) := fun o1 o2 => below2' w o1 o2
  have hl := hf.len
  unfold maxLen at hl
  obtain ⟨b, off, rfl, hb, hr⟩ := hf.rows (by intro e; rw [e] at hp; simp at hp)
  obtain ⟨wa, wcap, hf0⟩ := hr p hp
  obtain ⟨c0, c1, c2, c3, c4, c5, c6, c7, c8, c9, c10⟩ := hf0.load
  have hpI : (p : Int) < (s.fs.length : Int) := by omega
  have HD : Hid ((s.fs.getD p Gate.noField).nm = s.fs[p].nm) := by unfold Hid; rw [Gate.getD_at _ _ _ hp]
  clear hf hr hf0 c1 c2 c3 c4 c5 c6 c7 c8 c9 c10
  by_cases h1 : m.kd = s.kd
  · by_cases h2 : m.fd = s.fs[p].nm
    · have HR : Hid (Gate.turns m s p = true) := by unfold Hid Gate.turns; rw [HD.out]; simp [h1, h2]
      have hq : (m.kd.toList == s.kd.toList) = true := by rw [Gate.beq_toList]; simpa using h1
      have hr : (m.fd.toList == s.fs[p].nm.toList) = true := by rw [Gate.beq_toList]; simpa using h2
      clear h1 h2
      go_enter Tryz.func96, Tryz.ntmps96
      go_wp2_with fail
      go_quiet (fail)
      go_wp2_with fail
      go_ret
      exact ⟨by rw [HR.out]; rfl, below_drewN (hB _ _) _⟩
    · have HR : Hid (Gate.turns m s p = false) := by unfold Hid Gate.turns; rw [HD.out]; simp [h1, h2]
      have hq : (m.kd.toList == s.kd.toList) = true := by rw [Gate.beq_toList]; simpa using h1
      have hr : (m.fd.toList == s.fs[p].nm.toList) = false := by rw [Gate.beq_toList]; simpa using h2
      clear h1 h2
      go_enter Tryz.func96, Tryz.ntmps96
      go_wp2_with fail
      go_quiet (fail)
      go_wp2_with fail
      go_ret
      exact ⟨by rw [HR.out]; rfl, below_drewN (hB _ _) _⟩
  · have HR : Hid (Gate.turns m s p = false) := by unfold Hid Gate.turns; rw [HD.out]; simp [h1]
    have hq : (m.kd.toList == s.kd.toList) = false := by rw [Gate.beq_toList]; simpa using h1
    clear h1
    go_enter Tryz.func96, Tryz.ntmps96
    go_wp2_with fail
    go_quiet (fail)
    go_wp2_with fail
    go_ret
    exact ⟨by rw [HR.out]; rfl, below_drewN (hB _ _) _⟩

end Go.Proofs.YtpmlngcljbkchaaGreat

namespace Go.Proofs.YtpmlngcljbkchaaGreat
open Go.RowKit

set_option maxHeartbeats 2000000 in
theorem specField_1 (a0 : Option Addr) (cap0 : Nat) (ss : List Shp) (nm : ByteArray) (ls ms : Int) (a : Option Addr) (cap : Nat) (ws : List ByteArray) (to : ByteArray) (rl : Int) (mu fx : Bool) (df wg : ByteArray) (w : World) (hnm : nm.size ≤ maxLen) (hdf : df.size ≤ maxLen) (hwg : wg.size ≤ maxLen) (hws : StrsAt w a ws) :
    Calls Tryz.prog 78 #[.slice a0 ss.length cap0, .agg #[.string nm, .int .i64 1, .int .i64 ls, .int .i64 ms, .slice a ws.length cap, .string to, .int .i64 rl, .bool mu, .bool fx, .string df, .string wg]] w
      fun e w' => e = .returned (.bool (Gate.nameOk nm && Gate.fieldOk ss ⟨nm, 1, ls, ms, ws, to, rl, mu, fx, df, wg⟩)) ∧ Below w.heap.size w w' := by
  have HO : Hid ((Gate.nameOk nm && Gate.fieldOk ss ⟨nm, 1, ls, ms, ws, to, rl, mu, fx, df, wg⟩) = (Gate.nameOk nm && (Gate.bareOf 1 ls ms ws.length to rl wg && Gate.soundOf ss ⟨nm, 1, ls, ms, ws, to, rl, mu, fx, df, wg⟩ && (df.toList.isEmpty || Gate.fits 1 ls ms ws df)))) := rfl
  generalize (Gate.nameOk nm && Gate.fieldOk ss ⟨nm, 1, ls, ms, ws, to, rl, mu, fx, df, wg⟩) = res at HO
  by_cases hn : Gate.nameOk nm = true
  rotate_left
  · have HNm : Hid (Gate.nameOk nm = false) := by simpa [Hid] using hn
    clear hn
    go_enter Tryz.func78, Tryz.ntmps78
    go_wp2_with fail
    refine (as_bool HNm.out (l1NameOk_any _ _ hnm)).mono ?_
    rintro e w1 ⟨rfl, rfl⟩
    go_wp2_with fail
    go_ret
    exact ⟨ret_bool (by rw [HO.out, HNm.out]; rfl), (Below.refl _ _).alloc (Nat.le_refl _) _⟩
  have HNm : Hid (Gate.nameOk nm = true) := hn
  clear hn
  by_cases hbare : Gate.bareOf 1 ls ms ws.length to rl wg = true
  rotate_left
  · have HBare : Hid (Gate.bareOf 1 ls ms ws.length to rl wg = false) := by simpa [Hid] using hbare
    clear hbare
    go_enter Tryz.func78, Tryz.ntmps78
    go_wp2_with fail
    refine (as_bool HNm.out (l1NameOk_any _ _ hnm)).mono ?_
    rintro e w1 ⟨rfl, rfl⟩
    go_wp2_with fail
    refine (as_bool HBare.out (specBare_1 _ _ _ _ _ _ _ _ _ _ _ _ _)).mono ?_
    rintro e w2 ⟨rfl, hb2⟩
    have hX2 := box_later (box_new w _ _) (by simp) hb2
    have hz2 : w.heap.size < w2.heap.size := by have := hb2.size; simp at this; omega
    have hB2 : Below w.heap.size w w2 := ((Below.refl _ _).alloc (Nat.le_refl _) _).trans (hb2.mono (by simp))
    clear hb2
    go_wp2_with fail
    go_ret
    exact ⟨ret_bool (by rw [HO.out, HNm.out, HBare.out]; rfl), hB2⟩
  have HBare : Hid (Gate.bareOf 1 ls ms ws.length to rl wg = true) := hbare
  clear hbare
  by_cases hd : df.toList.isEmpty = true
  · have HD : Hid (df.toList.isEmpty = true) := hd
    have HR : Hid (res = Gate.soundOf ss ⟨nm, 1, ls, ms, ws, to, rl, mu, fx, df, wg⟩) := by unfold Hid; rw [HO.out, HNm.out, HBare.out, hd]; simp
    clear HO
    go_enter Tryz.func78, Tryz.ntmps78
    go_wp2_with fail
    refine (as_bool HNm.out (l1NameOk_any _ _ hnm)).mono ?_
    rintro e w1 ⟨rfl, rfl⟩
    go_wp2_with fail
    refine (as_bool HBare.out (specBare_1 _ _ _ _ _ _ _ _ _ _ _ _ _)).mono ?_
    rintro e w2 ⟨rfl, hb2⟩
    have hX2 := box_later (box_new w _ _) (by simp) hb2
    have hz2 : w.heap.size < w2.heap.size := by have := hb2.size; simp at this; omega
    have hB2 : Below w.heap.size w w2 := ((Below.refl _ _).alloc (Nat.le_refl _) _).trans (hb2.mono (by simp))
    clear hb2
    go_wp2_with (go_at_call 37; refine (l1NameOk_any _ _ hwg).mono ?_; rintro e w5 ⟨rfl, rfl⟩)
    all_goals
      go_ret
      refine ⟨ret_bool ?_, hB2⟩
      rw [HR.out]
      simp_all [Gate.soundOf, Gate.rangeOk]
      try omega
  have hd' : df.toList.isEmpty = false := by simpa using hd
  have HD : Hid (df.toList.isEmpty = false) := hd'
  clear hd
  by_cases hfit : Gate.fits 1 ls ms ws df = true
  rotate_left
  · have HFit : Hid (Gate.fits 1 ls ms ws df = false) := by simpa [Hid] using hfit
    clear hfit
    go_enter Tryz.func78, Tryz.ntmps78
    go_wp2_with fail
    refine (as_bool HNm.out (l1NameOk_any _ _ hnm)).mono ?_
    rintro e w1 ⟨rfl, rfl⟩
    go_wp2_with fail
    refine (as_bool HBare.out (specBare_1 _ _ _ _ _ _ _ _ _ _ _ _ _)).mono ?_
    rintro e w2 ⟨rfl, hb2⟩
    have hX2 := box_later (box_new w _ _) (by simp) hb2
    have hz2 : w.heap.size < w2.heap.size := by have := hb2.size; simp at this; omega
    have hB2 : Below w.heap.size w w2 := ((Below.refl _ _).alloc (Nat.le_refl _) _).trans (hb2.mono (by simp))
    clear hb2
    go_wp2_with fail
    refine (as_bool HFit.out (specFits_any _ _ _ _ _ _ _ _ _ _ _ _ _ _ _ hdf (hws.mono hB2))).mono ?_
    rintro e w3 ⟨rfl, hb3⟩
    have hX3 := box_later hX2 hz2 hb3
    have hz3 : w.heap.size < w3.heap.size := by have := hb3.size; omega
    have hB3 : Below w.heap.size w w3 := hB2.trans (hb3.mono (by omega))
    clear hb3 hX2 hz2 hB2
    go_wp2_with fail
    go_ret
    exact ⟨ret_bool (by rw [HO.out, HNm.out, HBare.out, HD.out, HFit.out]; simp), hB3⟩
  · have HFit : Hid (Gate.fits 1 ls ms ws df = true) := hfit
    have HR : Hid (res = Gate.soundOf ss ⟨nm, 1, ls, ms, ws, to, rl, mu, fx, df, wg⟩) := by unfold Hid; rw [HO.out, HNm.out, HBare.out, HD.out, hfit]; simp
    clear hfit HO
    go_enter Tryz.func78, Tryz.ntmps78
    go_wp2_with fail
    refine (as_bool HNm.out (l1NameOk_any _ _ hnm)).mono ?_
    rintro e w1 ⟨rfl, rfl⟩
    go_wp2_with fail
    refine (as_bool HBare.out (specBare_1 _ _ _ _ _ _ _ _ _ _ _ _ _)).mono ?_
    rintro e w2 ⟨rfl, hb2⟩
    have hX2 := box_later (box_new w _ _) (by simp) hb2
    have hz2 : w.heap.size < w2.heap.size := by have := hb2.size; simp at this; omega
    have hB2 : Below w.heap.size w w2 := ((Below.refl _ _).alloc (Nat.le_refl _) _).trans (hb2.mono (by simp))
    clear hb2
    go_wp2_with fail
    refine (as_bool HFit.out (specFits_any _ _ _ _ _ _ _ _ _ _ _ _ _ _ _ hdf (hws.mono hB2))).mono ?_
    rintro e w3 ⟨rfl, hb3⟩
    have hX3 := box_later hX2 hz2 hb3
    have hz3 : w.heap.size < w3.heap.size := by have := hb3.size; omega
    have hB3 : Below w.heap.size w w3 := hB2.trans (hb3.mono (by omega))
    clear hb3 hX2 hz2 hB2
    go_wp2_with (go_at_call 37; refine (l1NameOk_any _ _ hwg).mono ?_; rintro e w5 ⟨rfl, rfl⟩)
    all_goals
      go_ret
      refine ⟨ret_bool ?_, hB3⟩
      rw [HR.out]
      simp_all [Gate.soundOf, Gate.rangeOk]
      try omega

end Go.Proofs.YtpmlngcljbkchaaGreat

namespace Go.Proofs.YtpmlngcljbkchaaGreat
open Go.RowKit

set_option maxHeartbeats 2000000 in
theorem specField_2 (a0 : Option Addr) (cap0 : Nat) (ss : List Shp) (nm : ByteArray) (ls ms : Int) (a : Option Addr) (cap : Nat) (ws : List ByteArray) (to : ByteArray) (rl : Int) (mu fx : Bool) (df wg : ByteArray) (w : World) (hnm : nm.size ≤ maxLen) (hdf : df.size ≤ maxLen) (hws : StrsAt w a ws) :
    Calls Tryz.prog 78 #[.slice a0 ss.length cap0, .agg #[.string nm, .int .i64 2, .int .i64 ls, .int .i64 ms, .slice a ws.length cap, .string to, .int .i64 rl, .bool mu, .bool fx, .string df, .string wg]] w
      fun e w' => e = .returned (.bool (Gate.nameOk nm && Gate.fieldOk ss ⟨nm, 2, ls, ms, ws, to, rl, mu, fx, df, wg⟩)) ∧ Below w.heap.size w w' := by
  have HO : Hid ((Gate.nameOk nm && Gate.fieldOk ss ⟨nm, 2, ls, ms, ws, to, rl, mu, fx, df, wg⟩) = (Gate.nameOk nm && (Gate.bareOf 2 ls ms ws.length to rl wg && Gate.soundOf ss ⟨nm, 2, ls, ms, ws, to, rl, mu, fx, df, wg⟩ && (df.toList.isEmpty || Gate.fits 2 ls ms ws df)))) := rfl
  generalize (Gate.nameOk nm && Gate.fieldOk ss ⟨nm, 2, ls, ms, ws, to, rl, mu, fx, df, wg⟩) = res at HO
  by_cases hn : Gate.nameOk nm = true
  rotate_left
  · have HNm : Hid (Gate.nameOk nm = false) := by simpa [Hid] using hn
    clear hn
    go_enter Tryz.func78, Tryz.ntmps78
    go_wp2_with fail
    refine (as_bool HNm.out (l1NameOk_any _ _ hnm)).mono ?_
    rintro e w1 ⟨rfl, rfl⟩
    go_wp2_with fail
    go_ret
    exact ⟨ret_bool (by rw [HO.out, HNm.out]; rfl), (Below.refl _ _).alloc (Nat.le_refl _) _⟩
  have HNm : Hid (Gate.nameOk nm = true) := hn
  clear hn
  by_cases hbare : Gate.bareOf 2 ls ms ws.length to rl wg = true
  rotate_left
  · have HBare : Hid (Gate.bareOf 2 ls ms ws.length to rl wg = false) := by simpa [Hid] using hbare
    clear hbare
    go_enter Tryz.func78, Tryz.ntmps78
    go_wp2_with fail
    refine (as_bool HNm.out (l1NameOk_any _ _ hnm)).mono ?_
    rintro e w1 ⟨rfl, rfl⟩
    go_wp2_with fail
    refine (as_bool HBare.out (specBare_2 _ _ _ _ _ _ _ _ _ _ _ _ _)).mono ?_
    rintro e w2 ⟨rfl, hb2⟩
    have hX2 := box_later (box_new w _ _) (by simp) hb2
    have hz2 : w.heap.size < w2.heap.size := by have := hb2.size; simp at this; omega
    have hB2 : Below w.heap.size w w2 := ((Below.refl _ _).alloc (Nat.le_refl _) _).trans (hb2.mono (by simp))
    clear hb2
    go_wp2_with fail
    go_ret
    exact ⟨ret_bool (by rw [HO.out, HNm.out, HBare.out]; rfl), hB2⟩
  have HBare : Hid (Gate.bareOf 2 ls ms ws.length to rl wg = true) := hbare
  clear hbare
  by_cases hd : df.toList.isEmpty = true
  · have HD : Hid (df.toList.isEmpty = true) := hd
    have HR : Hid (res = Gate.soundOf ss ⟨nm, 2, ls, ms, ws, to, rl, mu, fx, df, wg⟩) := by unfold Hid; rw [HO.out, HNm.out, HBare.out, hd]; simp
    clear HO
    have HSn : Hid (Gate.soundOf ss ⟨nm, 2, ls, ms, ws, to, rl, mu, fx, df, wg⟩ = (decide (1 ≤ ws.length) && decide (ws.length ≤ 6) && Gate.asc ws)) := by simp [Gate.soundOf, Hid]
    have hl := hws.len
    unfold maxLen at hl
    by_cases h16 : 1 ≤ ws.length ∧ ws.length ≤ 6
    · obtain ⟨h1, h6⟩ := h16
      go_enter Tryz.func78, Tryz.ntmps78
      go_wp2_with fail
      refine (as_bool HNm.out (l1NameOk_any _ _ hnm)).mono ?_
      rintro e w1 ⟨rfl, rfl⟩
      go_wp2_with fail
      refine (as_bool HBare.out (specBare_2 _ _ _ _ _ _ _ _ _ _ _ _ _)).mono ?_
      rintro e w2 ⟨rfl, hb2⟩
      have hX2 := box_later (box_new w _ _) (by simp) hb2
      have hz2 : w.heap.size < w2.heap.size := by have := hb2.size; simp at this; omega
      have hB2 : Below w.heap.size w w2 := ((Below.refl _ _).alloc (Nat.le_refl _) _).trans (hb2.mono (by simp))
      clear hb2
      go_wp2_with fail
      refine (l1In_yes _ _ _ _ (by omega) (by omega)).mono ?_
      rintro e w5 ⟨rfl, rfl⟩
      go_wp2_with fail
      refine (l1Ascending_any _ _ _ _ (hws.mono hB2)).mono ?_
      rintro e w6 ⟨rfl, nd, rfl⟩
      go_wp2_with fail
      go_ret
      exact ⟨ret_bool (by rw [HR.out, HSn.out, decide_eq_true h1, decide_eq_true h6]; rfl), below_drewN hB2 _⟩
    · have HS0 : Hid (Gate.soundOf ss ⟨nm, 2, ls, ms, ws, to, rl, mu, fx, df, wg⟩ = false) := by
        rw [HSn.out]; unfold Hid
        by_cases h1 : 1 ≤ ws.length
        · rw [decide_eq_false (show ¬ ws.length ≤ 6 by omega)]; simp
        · rw [decide_eq_false h1]; rfl
      go_enter Tryz.func78, Tryz.ntmps78
      go_wp2_with fail
      refine (as_bool HNm.out (l1NameOk_any _ _ hnm)).mono ?_
      rintro e w1 ⟨rfl, rfl⟩
      go_wp2_with fail
      refine (as_bool HBare.out (specBare_2 _ _ _ _ _ _ _ _ _ _ _ _ _)).mono ?_
      rintro e w2 ⟨rfl, hb2⟩
      have hX2 := box_later (box_new w _ _) (by simp) hb2
      have hz2 : w.heap.size < w2.heap.size := by have := hb2.size; simp at this; omega
      have hB2 : Below w.heap.size w w2 := ((Below.refl _ _).alloc (Nat.le_refl _) _).trans (hb2.mono (by simp))
      clear hb2
      go_wp2_with fail
      refine (l1In_no _ _ _ _ (by omega)).mono ?_
      rintro e w5 ⟨rfl, rfl⟩
      go_wp2_with fail
      go_ret
      exact ⟨ret_bool (by rw [HR.out, HS0.out]), hB2⟩
  have hd' : df.toList.isEmpty = false := by simpa using hd
  have HD : Hid (df.toList.isEmpty = false) := hd'
  clear hd
  by_cases hfit : Gate.fits 2 ls ms ws df = true
  rotate_left
  · have HFit : Hid (Gate.fits 2 ls ms ws df = false) := by simpa [Hid] using hfit
    clear hfit
    go_enter Tryz.func78, Tryz.ntmps78
    go_wp2_with fail
    refine (as_bool HNm.out (l1NameOk_any _ _ hnm)).mono ?_
    rintro e w1 ⟨rfl, rfl⟩
    go_wp2_with fail
    refine (as_bool HBare.out (specBare_2 _ _ _ _ _ _ _ _ _ _ _ _ _)).mono ?_
    rintro e w2 ⟨rfl, hb2⟩
    have hX2 := box_later (box_new w _ _) (by simp) hb2
    have hz2 : w.heap.size < w2.heap.size := by have := hb2.size; simp at this; omega
    have hB2 : Below w.heap.size w w2 := ((Below.refl _ _).alloc (Nat.le_refl _) _).trans (hb2.mono (by simp))
    clear hb2
    go_wp2_with fail
    refine (as_bool HFit.out (specFits_any _ _ _ _ _ _ _ _ _ _ _ _ _ _ _ hdf (hws.mono hB2))).mono ?_
    rintro e w3 ⟨rfl, hb3⟩
    have hX3 := box_later hX2 hz2 hb3
    have hz3 : w.heap.size < w3.heap.size := by have := hb3.size; omega
    have hB3 : Below w.heap.size w w3 := hB2.trans (hb3.mono (by omega))
    clear hb3 hX2 hz2 hB2
    go_wp2_with fail
    go_ret
    exact ⟨ret_bool (by rw [HO.out, HNm.out, HBare.out, HD.out, HFit.out]; simp), hB3⟩
  · have HFit : Hid (Gate.fits 2 ls ms ws df = true) := hfit
    have HR : Hid (res = Gate.soundOf ss ⟨nm, 2, ls, ms, ws, to, rl, mu, fx, df, wg⟩) := by unfold Hid; rw [HO.out, HNm.out, HBare.out, HD.out, hfit]; simp
    clear hfit HO
    have HSn : Hid (Gate.soundOf ss ⟨nm, 2, ls, ms, ws, to, rl, mu, fx, df, wg⟩ = (decide (1 ≤ ws.length) && decide (ws.length ≤ 6) && Gate.asc ws)) := by simp [Gate.soundOf, Hid]
    have hl := hws.len
    unfold maxLen at hl
    by_cases h16 : 1 ≤ ws.length ∧ ws.length ≤ 6
    · obtain ⟨h1, h6⟩ := h16
      go_enter Tryz.func78, Tryz.ntmps78
      go_wp2_with fail
      refine (as_bool HNm.out (l1NameOk_any _ _ hnm)).mono ?_
      rintro e w1 ⟨rfl, rfl⟩
      go_wp2_with fail
      refine (as_bool HBare.out (specBare_2 _ _ _ _ _ _ _ _ _ _ _ _ _)).mono ?_
      rintro e w2 ⟨rfl, hb2⟩
      have hX2 := box_later (box_new w _ _) (by simp) hb2
      have hz2 : w.heap.size < w2.heap.size := by have := hb2.size; simp at this; omega
      have hB2 : Below w.heap.size w w2 := ((Below.refl _ _).alloc (Nat.le_refl _) _).trans (hb2.mono (by simp))
      clear hb2
      go_wp2_with fail
      refine (as_bool HFit.out (specFits_any _ _ _ _ _ _ _ _ _ _ _ _ _ _ _ hdf (hws.mono hB2))).mono ?_
      rintro e w3 ⟨rfl, hb3⟩
      have hX3 := box_later hX2 hz2 hb3
      have hz3 : w.heap.size < w3.heap.size := by have := hb3.size; omega
      have hB3 : Below w.heap.size w w3 := hB2.trans (hb3.mono (by omega))
      clear hb3 hX2 hz2 hB2
      go_wp2_with fail
      refine (l1In_yes _ _ _ _ (by omega) (by omega)).mono ?_
      rintro e w5 ⟨rfl, rfl⟩
      go_wp2_with fail
      refine (l1Ascending_any _ _ _ _ (hws.mono hB3)).mono ?_
      rintro e w6 ⟨rfl, nd, rfl⟩
      go_wp2_with fail
      go_ret
      exact ⟨ret_bool (by rw [HR.out, HSn.out, decide_eq_true h1, decide_eq_true h6]; rfl), below_drewN hB3 _⟩
    · have HS0 : Hid (Gate.soundOf ss ⟨nm, 2, ls, ms, ws, to, rl, mu, fx, df, wg⟩ = false) := by
        rw [HSn.out]; unfold Hid
        by_cases h1 : 1 ≤ ws.length
        · rw [decide_eq_false (show ¬ ws.length ≤ 6 by omega)]; simp
        · rw [decide_eq_false h1]; rfl
      go_enter Tryz.func78, Tryz.ntmps78
      go_wp2_with fail
      refine (as_bool HNm.out (l1NameOk_any _ _ hnm)).mono ?_
      rintro e w1 ⟨rfl, rfl⟩
      go_wp2_with fail
      refine (as_bool HBare.out (specBare_2 _ _ _ _ _ _ _ _ _ _ _ _ _)).mono ?_
      rintro e w2 ⟨rfl, hb2⟩
      have hX2 := box_later (box_new w _ _) (by simp) hb2
      have hz2 : w.heap.size < w2.heap.size := by have := hb2.size; simp at this; omega
      have hB2 : Below w.heap.size w w2 := ((Below.refl _ _).alloc (Nat.le_refl _) _).trans (hb2.mono (by simp))
      clear hb2
      go_wp2_with fail
      refine (as_bool HFit.out (specFits_any _ _ _ _ _ _ _ _ _ _ _ _ _ _ _ hdf (hws.mono hB2))).mono ?_
      rintro e w3 ⟨rfl, hb3⟩
      have hX3 := box_later hX2 hz2 hb3
      have hz3 : w.heap.size < w3.heap.size := by have := hb3.size; omega
      have hB3 : Below w.heap.size w w3 := hB2.trans (hb3.mono (by omega))
      clear hb3 hX2 hz2 hB2
      go_wp2_with fail
      refine (l1In_no _ _ _ _ (by omega)).mono ?_
      rintro e w5 ⟨rfl, rfl⟩
      go_wp2_with fail
      go_ret
      exact ⟨ret_bool (by rw [HR.out, HS0.out]), hB3⟩

end Go.Proofs.YtpmlngcljbkchaaGreat

namespace Go.Proofs.YtpmlngcljbkchaaGreat
open Go.RowKit

set_option maxHeartbeats 2000000 in
theorem specField_3 (a0 : Option Addr) (cap0 : Nat) (ss : List Shp) (nm : ByteArray) (ls ms : Int) (a : Option Addr) (cap : Nat) (ws : List ByteArray) (to : ByteArray) (rl : Int) (mu fx : Bool) (df wg : ByteArray) (w : World) (hnm : nm.size ≤ maxLen) (hdf : df.size ≤ maxLen) (hws : StrsAt w a ws) :
    Calls Tryz.prog 78 #[.slice a0 ss.length cap0, .agg #[.string nm, .int .i64 3, .int .i64 ls, .int .i64 ms, .slice a ws.length cap, .string to, .int .i64 rl, .bool mu, .bool fx, .string df, .string wg]] w
      fun e w' => e = .returned (.bool (Gate.nameOk nm && Gate.fieldOk ss ⟨nm, 3, ls, ms, ws, to, rl, mu, fx, df, wg⟩)) ∧ Below w.heap.size w w' := by
  have HO : Hid ((Gate.nameOk nm && Gate.fieldOk ss ⟨nm, 3, ls, ms, ws, to, rl, mu, fx, df, wg⟩) = (Gate.nameOk nm && (Gate.bareOf 3 ls ms ws.length to rl wg && Gate.soundOf ss ⟨nm, 3, ls, ms, ws, to, rl, mu, fx, df, wg⟩ && (df.toList.isEmpty || Gate.fits 3 ls ms ws df)))) := rfl
  generalize (Gate.nameOk nm && Gate.fieldOk ss ⟨nm, 3, ls, ms, ws, to, rl, mu, fx, df, wg⟩) = res at HO
  by_cases hn : Gate.nameOk nm = true
  rotate_left
  · have HNm : Hid (Gate.nameOk nm = false) := by simpa [Hid] using hn
    clear hn
    go_enter Tryz.func78, Tryz.ntmps78
    go_wp2_with fail
    refine (as_bool HNm.out (l1NameOk_any _ _ hnm)).mono ?_
    rintro e w1 ⟨rfl, rfl⟩
    go_wp2_with fail
    go_ret
    exact ⟨ret_bool (by rw [HO.out, HNm.out]; rfl), (Below.refl _ _).alloc (Nat.le_refl _) _⟩
  have HNm : Hid (Gate.nameOk nm = true) := hn
  clear hn
  by_cases hbare : Gate.bareOf 3 ls ms ws.length to rl wg = true
  rotate_left
  · have HBare : Hid (Gate.bareOf 3 ls ms ws.length to rl wg = false) := by simpa [Hid] using hbare
    clear hbare
    go_enter Tryz.func78, Tryz.ntmps78
    go_wp2_with fail
    refine (as_bool HNm.out (l1NameOk_any _ _ hnm)).mono ?_
    rintro e w1 ⟨rfl, rfl⟩
    go_wp2_with fail
    refine (as_bool HBare.out (specBare_3 _ _ _ _ _ _ _ _ _ _ _ _ _)).mono ?_
    rintro e w2 ⟨rfl, hb2⟩
    have hX2 := box_later (box_new w _ _) (by simp) hb2
    have hz2 : w.heap.size < w2.heap.size := by have := hb2.size; simp at this; omega
    have hB2 : Below w.heap.size w w2 := ((Below.refl _ _).alloc (Nat.le_refl _) _).trans (hb2.mono (by simp))
    clear hb2
    go_wp2_with fail
    go_ret
    exact ⟨ret_bool (by rw [HO.out, HNm.out, HBare.out]; rfl), hB2⟩
  have HBare : Hid (Gate.bareOf 3 ls ms ws.length to rl wg = true) := hbare
  clear hbare
  by_cases hd : df.toList.isEmpty = true
  · have HD : Hid (df.toList.isEmpty = true) := hd
    have HR : Hid (res = Gate.soundOf ss ⟨nm, 3, ls, ms, ws, to, rl, mu, fx, df, wg⟩) := by unfold Hid; rw [HO.out, HNm.out, HBare.out, hd]; simp
    clear HO
    go_enter Tryz.func78, Tryz.ntmps78
    go_wp2_with fail
    refine (as_bool HNm.out (l1NameOk_any _ _ hnm)).mono ?_
    rintro e w1 ⟨rfl, rfl⟩
    go_wp2_with fail
    refine (as_bool HBare.out (specBare_3 _ _ _ _ _ _ _ _ _ _ _ _ _)).mono ?_
    rintro e w2 ⟨rfl, hb2⟩
    have hX2 := box_later (box_new w _ _) (by simp) hb2
    have hz2 : w.heap.size < w2.heap.size := by have := hb2.size; simp at this; omega
    have hB2 : Below w.heap.size w w2 := ((Below.refl _ _).alloc (Nat.le_refl _) _).trans (hb2.mono (by simp))
    clear hb2
    go_wp2_with fail
    all_goals
      go_ret
      refine ⟨ret_bool ?_, hB2⟩
      rw [HR.out]
      simp_all [Gate.soundOf, Gate.rangeOk]
      try omega
  have hd' : df.toList.isEmpty = false := by simpa using hd
  have HD : Hid (df.toList.isEmpty = false) := hd'
  clear hd
  by_cases hfit : Gate.fits 3 ls ms ws df = true
  rotate_left
  · have HFit : Hid (Gate.fits 3 ls ms ws df = false) := by simpa [Hid] using hfit
    clear hfit
    go_enter Tryz.func78, Tryz.ntmps78
    go_wp2_with fail
    refine (as_bool HNm.out (l1NameOk_any _ _ hnm)).mono ?_
    rintro e w1 ⟨rfl, rfl⟩
    go_wp2_with fail
    refine (as_bool HBare.out (specBare_3 _ _ _ _ _ _ _ _ _ _ _ _ _)).mono ?_
    rintro e w2 ⟨rfl, hb2⟩
    have hX2 := box_later (box_new w _ _) (by simp) hb2
    have hz2 : w.heap.size < w2.heap.size := by have := hb2.size; simp at this; omega
    have hB2 : Below w.heap.size w w2 := ((Below.refl _ _).alloc (Nat.le_refl _) _).trans (hb2.mono (by simp))
    clear hb2
    go_wp2_with fail
    refine (as_bool HFit.out (specFits_any _ _ _ _ _ _ _ _ _ _ _ _ _ _ _ hdf (hws.mono hB2))).mono ?_
    rintro e w3 ⟨rfl, hb3⟩
    have hX3 := box_later hX2 hz2 hb3
    have hz3 : w.heap.size < w3.heap.size := by have := hb3.size; omega
    have hB3 : Below w.heap.size w w3 := hB2.trans (hb3.mono (by omega))
    clear hb3 hX2 hz2 hB2
    go_wp2_with fail
    go_ret
    exact ⟨ret_bool (by rw [HO.out, HNm.out, HBare.out, HD.out, HFit.out]; simp), hB3⟩
  · have HFit : Hid (Gate.fits 3 ls ms ws df = true) := hfit
    have HR : Hid (res = Gate.soundOf ss ⟨nm, 3, ls, ms, ws, to, rl, mu, fx, df, wg⟩) := by unfold Hid; rw [HO.out, HNm.out, HBare.out, HD.out, hfit]; simp
    clear hfit HO
    go_enter Tryz.func78, Tryz.ntmps78
    go_wp2_with fail
    refine (as_bool HNm.out (l1NameOk_any _ _ hnm)).mono ?_
    rintro e w1 ⟨rfl, rfl⟩
    go_wp2_with fail
    refine (as_bool HBare.out (specBare_3 _ _ _ _ _ _ _ _ _ _ _ _ _)).mono ?_
    rintro e w2 ⟨rfl, hb2⟩
    have hX2 := box_later (box_new w _ _) (by simp) hb2
    have hz2 : w.heap.size < w2.heap.size := by have := hb2.size; simp at this; omega
    have hB2 : Below w.heap.size w w2 := ((Below.refl _ _).alloc (Nat.le_refl _) _).trans (hb2.mono (by simp))
    clear hb2
    go_wp2_with fail
    refine (as_bool HFit.out (specFits_any _ _ _ _ _ _ _ _ _ _ _ _ _ _ _ hdf (hws.mono hB2))).mono ?_
    rintro e w3 ⟨rfl, hb3⟩
    have hX3 := box_later hX2 hz2 hb3
    have hz3 : w.heap.size < w3.heap.size := by have := hb3.size; omega
    have hB3 : Below w.heap.size w w3 := hB2.trans (hb3.mono (by omega))
    clear hb3 hX2 hz2 hB2
    go_wp2_with fail
    all_goals
      go_ret
      refine ⟨ret_bool ?_, hB3⟩
      rw [HR.out]
      simp_all [Gate.soundOf, Gate.rangeOk]
      try omega

end Go.Proofs.YtpmlngcljbkchaaGreat

namespace Go.Proofs.YtpmlngcljbkchaaGreat
open Go.RowKit

set_option maxHeartbeats 2000000 in
theorem specField_4 (a0 : Option Addr) (cap0 : Nat) (ss : List Shp) (nm : ByteArray) (ls ms : Int) (a : Option Addr) (cap : Nat) (ws : List ByteArray) (to : ByteArray) (rl : Int) (mu fx : Bool) (df wg : ByteArray) (w : World) (hnm : nm.size ≤ maxLen) (hdf : df.size ≤ maxLen) (hws : StrsAt w a ws) (hss : ShpsAt w a0 ss) :
    Calls Tryz.prog 78 #[.slice a0 ss.length cap0, .agg #[.string nm, .int .i64 4, .int .i64 ls, .int .i64 ms, .slice a ws.length cap, .string to, .int .i64 rl, .bool mu, .bool fx, .string df, .string wg]] w
      fun e w' => e = .returned (.bool (Gate.nameOk nm && Gate.fieldOk ss ⟨nm, 4, ls, ms, ws, to, rl, mu, fx, df, wg⟩)) ∧ Below w.heap.size w w' := by
  have HO : Hid ((Gate.nameOk nm && Gate.fieldOk ss ⟨nm, 4, ls, ms, ws, to, rl, mu, fx, df, wg⟩) = (Gate.nameOk nm && (Gate.bareOf 4 ls ms ws.length to rl wg && Gate.soundOf ss ⟨nm, 4, ls, ms, ws, to, rl, mu, fx, df, wg⟩ && (df.toList.isEmpty || Gate.fits 4 ls ms ws df)))) := rfl
  generalize (Gate.nameOk nm && Gate.fieldOk ss ⟨nm, 4, ls, ms, ws, to, rl, mu, fx, df, wg⟩) = res at HO
  by_cases hn : Gate.nameOk nm = true
  rotate_left
  · have HNm : Hid (Gate.nameOk nm = false) := by simpa [Hid] using hn
    clear hn
    go_enter Tryz.func78, Tryz.ntmps78
    go_wp2_with fail
    refine (as_bool HNm.out (l1NameOk_any _ _ hnm)).mono ?_
    rintro e w1 ⟨rfl, rfl⟩
    go_wp2_with fail
    go_ret
    exact ⟨ret_bool (by rw [HO.out, HNm.out]; rfl), (Below.refl _ _).alloc (Nat.le_refl _) _⟩
  have HNm : Hid (Gate.nameOk nm = true) := hn
  clear hn
  by_cases hbare : Gate.bareOf 4 ls ms ws.length to rl wg = true
  rotate_left
  · have HBare : Hid (Gate.bareOf 4 ls ms ws.length to rl wg = false) := by simpa [Hid] using hbare
    clear hbare
    go_enter Tryz.func78, Tryz.ntmps78
    go_wp2_with fail
    refine (as_bool HNm.out (l1NameOk_any _ _ hnm)).mono ?_
    rintro e w1 ⟨rfl, rfl⟩
    go_wp2_with fail
    refine (as_bool HBare.out (specBare_4 _ _ _ _ _ _ _ _ _ _ _ _ _)).mono ?_
    rintro e w2 ⟨rfl, hb2⟩
    have hX2 := box_later (box_new w _ _) (by simp) hb2
    have hz2 : w.heap.size < w2.heap.size := by have := hb2.size; simp at this; omega
    have hB2 : Below w.heap.size w w2 := ((Below.refl _ _).alloc (Nat.le_refl _) _).trans (hb2.mono (by simp))
    clear hb2
    go_wp2_with fail
    go_ret
    exact ⟨ret_bool (by rw [HO.out, HNm.out, HBare.out]; rfl), hB2⟩
  have HBare : Hid (Gate.bareOf 4 ls ms ws.length to rl wg = true) := hbare
  clear hbare
  by_cases hd : df.toList.isEmpty = true
  · have HD : Hid (df.toList.isEmpty = true) := hd
    have HR : Hid (res = Gate.soundOf ss ⟨nm, 4, ls, ms, ws, to, rl, mu, fx, df, wg⟩) := by unfold Hid; rw [HO.out, HNm.out, HBare.out, hd]; simp
    clear HO
    have HSn : Hid (Gate.soundOf ss ⟨nm, 4, ls, ms, ws, to, rl, mu, fx, df, wg⟩ = (Gate.hasKind ss to && (decide (1 ≤ rl) && decide (rl ≤ 3)) && df.toList.isEmpty && (decide (rl ≠ 2) || !mu))) := by simp [Gate.soundOf, Hid]
    by_cases hk : Gate.hasKind ss to = true
    rotate_left
    · have HK : Hid (Gate.hasKind ss to = false) := by simpa [Hid] using hk
      clear hk
      go_enter Tryz.func78, Tryz.ntmps78
      go_wp2_with fail
      refine (as_bool HNm.out (l1NameOk_any _ _ hnm)).mono ?_
      rintro e w1 ⟨rfl, rfl⟩
      go_wp2_with fail
      refine (as_bool HBare.out (specBare_4 _ _ _ _ _ _ _ _ _ _ _ _ _)).mono ?_
      rintro e w2 ⟨rfl, hb2⟩
      have hX2 := box_later (box_new w _ _) (by simp) hb2
      have hz2 : w.heap.size < w2.heap.size := by have := hb2.size; simp at this; omega
      have hB2 : Below w.heap.size w w2 := ((Below.refl _ _).alloc (Nat.le_refl _) _).trans (hb2.mono (by simp))
      clear hb2
      go_wp2_with fail
      refine (l1Shape_no _ _ _ _ _ (hss.mono hB2) HK.out).mono ?_
      rintro e w5 ⟨rfl, rfl⟩
      go_wp2_with fail
      go_ret
      exact ⟨ret_bool (by rw [HR.out, HSn.out, HK.out]; rfl), hB2⟩
    have HK : Hid (Gate.hasKind ss to = true) := hk
    clear hk
    by_cases h13 : 1 ≤ rl ∧ rl ≤ 3
    rotate_left
    · have HT : Hid ((decide (1 ≤ rl) && decide (rl ≤ 3)) = false) := by unfold Hid; rw [Bool.eq_false_iff]; simp; omega
      have H13 : Hid (¬ (1 ≤ rl ∧ rl ≤ 3)) := h13
      clear h13
      go_enter Tryz.func78, Tryz.ntmps78
      go_wp2_with fail
      refine (as_bool HNm.out (l1NameOk_any _ _ hnm)).mono ?_
      rintro e w1 ⟨rfl, rfl⟩
      go_wp2_with fail
      refine (as_bool HBare.out (specBare_4 _ _ _ _ _ _ _ _ _ _ _ _ _)).mono ?_
      rintro e w2 ⟨rfl, hb2⟩
      have hX2 := box_later (box_new w _ _) (by simp) hb2
      have hz2 : w.heap.size < w2.heap.size := by have := hb2.size; simp at this; omega
      have hB2 : Below w.heap.size w w2 := ((Below.refl _ _).alloc (Nat.le_refl _) _).trans (hb2.mono (by simp))
      clear hb2
      go_wp2_with fail
      refine (l1Shape_yes _ _ _ _ _ (hss.mono hB2) HK.out).mono ?_
      rintro e w5 ⟨ix, hix, rfl, _, rfl⟩
      have hix0 : (0 : Int) ≤ (ix : Int) := by omega
      go_wp2_with fail
      refine (l1In_no _ _ _ _ H13.out).mono ?_
      rintro e w6 ⟨rfl, rfl⟩
      go_wp2_with fail
      go_ret
      exact ⟨ret_bool (by rw [HR.out, HSn.out, HK.out, HT.out]; simp), hB2⟩
    obtain ⟨h1, h3⟩ := h13
    have HT : Hid ((decide (1 ≤ rl) && decide (rl ≤ 3)) = true) := by unfold Hid; simp; omega
    by_cases h2 : rl = 2
    · have e2 : (rl != 2) = false := by simp [h2]
      have H2 : Hid (decide (rl ≠ 2) = false) := by unfold Hid; simp [h2]
      clear h2
      go_enter Tryz.func78, Tryz.ntmps78
      go_wp2_with fail
      refine (as_bool HNm.out (l1NameOk_any _ _ hnm)).mono ?_
      rintro e w1 ⟨rfl, rfl⟩
      go_wp2_with fail
      refine (as_bool HBare.out (specBare_4 _ _ _ _ _ _ _ _ _ _ _ _ _)).mono ?_
      rintro e w2 ⟨rfl, hb2⟩
      have hX2 := box_later (box_new w _ _) (by simp) hb2
      have hz2 : w.heap.size < w2.heap.size := by have := hb2.size; simp at this; omega
      have hB2 : Below w.heap.size w w2 := ((Below.refl _ _).alloc (Nat.le_refl _) _).trans (hb2.mono (by simp))
      clear hb2
      go_wp2_with fail
      refine (l1Shape_yes _ _ _ _ _ (hss.mono hB2) HK.out).mono ?_
      rintro e w5 ⟨ix, hix, rfl, _, rfl⟩
      have hix0 : (0 : Int) ≤ (ix : Int) := by omega
      go_wp2_with fail
      refine (l1In_yes _ _ _ _ h1 h3).mono ?_
      rintro e w6 ⟨rfl, rfl⟩
      go_wp2_with fail
      go_ret
      exact ⟨ret_bool (by rw [HR.out, HSn.out, HK.out, HT.out, HD.out, H2.out]; simp), hB2⟩
    · have e2 : (rl != 2) = true := by simp [h2]
      have H2 : Hid (decide (rl ≠ 2) = true) := by unfold Hid; simp [h2]
      clear h2
      go_enter Tryz.func78, Tryz.ntmps78
      go_wp2_with fail
      refine (as_bool HNm.out (l1NameOk_any _ _ hnm)).mono ?_
      rintro e w1 ⟨rfl, rfl⟩
      go_wp2_with fail
      refine (as_bool HBare.out (specBare_4 _ _ _ _ _ _ _ _ _ _ _ _ _)).mono ?_
      rintro e w2 ⟨rfl, hb2⟩
      have hX2 := box_later (box_new w _ _) (by simp) hb2
      have hz2 : w.heap.size < w2.heap.size := by have := hb2.size; simp at this; omega
      have hB2 : Below w.heap.size w w2 := ((Below.refl _ _).alloc (Nat.le_refl _) _).trans (hb2.mono (by simp))
      clear hb2
      go_wp2_with fail
      refine (l1Shape_yes _ _ _ _ _ (hss.mono hB2) HK.out).mono ?_
      rintro e w5 ⟨ix, hix, rfl, _, rfl⟩
      have hix0 : (0 : Int) ≤ (ix : Int) := by omega
      go_wp2_with fail
      refine (l1In_yes _ _ _ _ h1 h3).mono ?_
      rintro e w6 ⟨rfl, rfl⟩
      go_wp2_with fail
      go_ret
      exact ⟨ret_bool (by rw [HR.out, HSn.out, HK.out, HT.out, HD.out, H2.out]; simp), hB2⟩
  have hd' : df.toList.isEmpty = false := by simpa using hd
  have HD : Hid (df.toList.isEmpty = false) := hd'
  clear hd
  by_cases hfit : Gate.fits 4 ls ms ws df = true
  rotate_left
  · have HFit : Hid (Gate.fits 4 ls ms ws df = false) := by simpa [Hid] using hfit
    clear hfit
    go_enter Tryz.func78, Tryz.ntmps78
    go_wp2_with fail
    refine (as_bool HNm.out (l1NameOk_any _ _ hnm)).mono ?_
    rintro e w1 ⟨rfl, rfl⟩
    go_wp2_with fail
    refine (as_bool HBare.out (specBare_4 _ _ _ _ _ _ _ _ _ _ _ _ _)).mono ?_
    rintro e w2 ⟨rfl, hb2⟩
    have hX2 := box_later (box_new w _ _) (by simp) hb2
    have hz2 : w.heap.size < w2.heap.size := by have := hb2.size; simp at this; omega
    have hB2 : Below w.heap.size w w2 := ((Below.refl _ _).alloc (Nat.le_refl _) _).trans (hb2.mono (by simp))
    clear hb2
    go_wp2_with fail
    refine (as_bool HFit.out (specFits_any _ _ _ _ _ _ _ _ _ _ _ _ _ _ _ hdf (hws.mono hB2))).mono ?_
    rintro e w3 ⟨rfl, hb3⟩
    have hX3 := box_later hX2 hz2 hb3
    have hz3 : w.heap.size < w3.heap.size := by have := hb3.size; omega
    have hB3 : Below w.heap.size w w3 := hB2.trans (hb3.mono (by omega))
    clear hb3 hX2 hz2 hB2
    go_wp2_with fail
    go_ret
    exact ⟨ret_bool (by rw [HO.out, HNm.out, HBare.out, HD.out, HFit.out]; simp), hB3⟩
  · have HFit : Hid (Gate.fits 4 ls ms ws df = true) := hfit
    have HR : Hid (res = Gate.soundOf ss ⟨nm, 4, ls, ms, ws, to, rl, mu, fx, df, wg⟩) := by unfold Hid; rw [HO.out, HNm.out, HBare.out, HD.out, hfit]; simp
    clear hfit HO
    have HSn : Hid (Gate.soundOf ss ⟨nm, 4, ls, ms, ws, to, rl, mu, fx, df, wg⟩ = (Gate.hasKind ss to && (decide (1 ≤ rl) && decide (rl ≤ 3)) && df.toList.isEmpty && (decide (rl ≠ 2) || !mu))) := by simp [Gate.soundOf, Hid]
    by_cases hk : Gate.hasKind ss to = true
    rotate_left
    · have HK : Hid (Gate.hasKind ss to = false) := by simpa [Hid] using hk
      clear hk
      go_enter Tryz.func78, Tryz.ntmps78
      go_wp2_with fail
      refine (as_bool HNm.out (l1NameOk_any _ _ hnm)).mono ?_
      rintro e w1 ⟨rfl, rfl⟩
      go_wp2_with fail
      refine (as_bool HBare.out (specBare_4 _ _ _ _ _ _ _ _ _ _ _ _ _)).mono ?_
      rintro e w2 ⟨rfl, hb2⟩
      have hX2 := box_later (box_new w _ _) (by simp) hb2
      have hz2 : w.heap.size < w2.heap.size := by have := hb2.size; simp at this; omega
      have hB2 : Below w.heap.size w w2 := ((Below.refl _ _).alloc (Nat.le_refl _) _).trans (hb2.mono (by simp))
      clear hb2
      go_wp2_with fail
      refine (as_bool HFit.out (specFits_any _ _ _ _ _ _ _ _ _ _ _ _ _ _ _ hdf (hws.mono hB2))).mono ?_
      rintro e w3 ⟨rfl, hb3⟩
      have hX3 := box_later hX2 hz2 hb3
      have hz3 : w.heap.size < w3.heap.size := by have := hb3.size; omega
      have hB3 : Below w.heap.size w w3 := hB2.trans (hb3.mono (by omega))
      clear hb3 hX2 hz2 hB2
      go_wp2_with fail
      refine (l1Shape_no _ _ _ _ _ (hss.mono hB3) HK.out).mono ?_
      rintro e w5 ⟨rfl, rfl⟩
      go_wp2_with fail
      go_ret
      exact ⟨ret_bool (by rw [HR.out, HSn.out, HK.out]; rfl), hB3⟩
    have HK : Hid (Gate.hasKind ss to = true) := hk
    clear hk
    by_cases h13 : 1 ≤ rl ∧ rl ≤ 3
    · obtain ⟨h1, h3⟩ := h13
      go_enter Tryz.func78, Tryz.ntmps78
      go_wp2_with fail
      refine (as_bool HNm.out (l1NameOk_any _ _ hnm)).mono ?_
      rintro e w1 ⟨rfl, rfl⟩
      go_wp2_with fail
      refine (as_bool HBare.out (specBare_4 _ _ _ _ _ _ _ _ _ _ _ _ _)).mono ?_
      rintro e w2 ⟨rfl, hb2⟩
      have hX2 := box_later (box_new w _ _) (by simp) hb2
      have hz2 : w.heap.size < w2.heap.size := by have := hb2.size; simp at this; omega
      have hB2 : Below w.heap.size w w2 := ((Below.refl _ _).alloc (Nat.le_refl _) _).trans (hb2.mono (by simp))
      clear hb2
      go_wp2_with fail
      refine (as_bool HFit.out (specFits_any _ _ _ _ _ _ _ _ _ _ _ _ _ _ _ hdf (hws.mono hB2))).mono ?_
      rintro e w3 ⟨rfl, hb3⟩
      have hX3 := box_later hX2 hz2 hb3
      have hz3 : w.heap.size < w3.heap.size := by have := hb3.size; omega
      have hB3 : Below w.heap.size w w3 := hB2.trans (hb3.mono (by omega))
      clear hb3 hX2 hz2 hB2
      go_wp2_with fail
      refine (l1Shape_yes _ _ _ _ _ (hss.mono hB3) HK.out).mono ?_
      rintro e w5 ⟨ix, hix, rfl, _, rfl⟩
      have hix0 : (0 : Int) ≤ (ix : Int) := by omega
      go_wp2_with fail
      refine (l1In_yes _ _ _ _ h1 h3).mono ?_
      rintro e w6 ⟨rfl, rfl⟩
      go_wp2_with fail
      go_ret
      exact ⟨ret_bool (by rw [HR.out, HSn.out, HD.out]; simp), hB3⟩
    · have H13 : Hid (¬ (1 ≤ rl ∧ rl ≤ 3)) := h13
      clear h13
      go_enter Tryz.func78, Tryz.ntmps78
      go_wp2_with fail
      refine (as_bool HNm.out (l1NameOk_any _ _ hnm)).mono ?_
      rintro e w1 ⟨rfl, rfl⟩
      go_wp2_with fail
      refine (as_bool HBare.out (specBare_4 _ _ _ _ _ _ _ _ _ _ _ _ _)).mono ?_
      rintro e w2 ⟨rfl, hb2⟩
      have hX2 := box_later (box_new w _ _) (by simp) hb2
      have hz2 : w.heap.size < w2.heap.size := by have := hb2.size; simp at this; omega
      have hB2 : Below w.heap.size w w2 := ((Below.refl _ _).alloc (Nat.le_refl _) _).trans (hb2.mono (by simp))
      clear hb2
      go_wp2_with fail
      refine (as_bool HFit.out (specFits_any _ _ _ _ _ _ _ _ _ _ _ _ _ _ _ hdf (hws.mono hB2))).mono ?_
      rintro e w3 ⟨rfl, hb3⟩
      have hX3 := box_later hX2 hz2 hb3
      have hz3 : w.heap.size < w3.heap.size := by have := hb3.size; omega
      have hB3 : Below w.heap.size w w3 := hB2.trans (hb3.mono (by omega))
      clear hb3 hX2 hz2 hB2
      go_wp2_with fail
      refine (l1Shape_yes _ _ _ _ _ (hss.mono hB3) HK.out).mono ?_
      rintro e w5 ⟨ix, hix, rfl, _, rfl⟩
      have hix0 : (0 : Int) ≤ (ix : Int) := by omega
      go_wp2_with fail
      refine (l1In_no _ _ _ _ H13.out).mono ?_
      rintro e w6 ⟨rfl, rfl⟩
      go_wp2_with fail
      go_ret
      exact ⟨ret_bool (by rw [HR.out, HSn.out, HD.out]; simp), hB3⟩

end Go.Proofs.YtpmlngcljbkchaaGreat
