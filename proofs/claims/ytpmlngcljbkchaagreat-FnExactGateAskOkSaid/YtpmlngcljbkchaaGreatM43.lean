import Derived.Test.YtpmlngcljbkchaaGreatM28
import Derived.Test.YtpmlngcljbkchaaGreatM29
import Derived.Test.YtpmlngcljbkchaaGreatM42
namespace Go.Proofs.YtpmlngcljbkchaaGreat
open Go.RowKit

set_option maxHeartbeats 2000000 in
theorem isAsk_any (l : Lw) (la lb lc : Option Addr) (lca lcb lcc : Nat) (x : Ak) (a0 a1 a2 : Option Addr) (c0 c1 c2 : Nat) (w : World) (hl : LwAt w l la lb lc) (hx : AkAt w x a0 a1 a2) :
    Calls Tryz.prog 25 #[.agg (l.cells la lb lc lca lcb lcc), .agg (x.cells a0 a1 a2 c0 c1 c2)] w fun e w' => e = .returned (.bool (Gate.isAsk l x)) ∧ Below w.heap.size w w' := by
  have HL : Hid (LwAt w l la lb lc) := hl
  have HX : Hid (AkAt w x a0 a1 a2) := hx
  clear hl hx
  by_cases hn : Gate.nameOk x.who = true
  rotate_left
  · have HN : Hid (Gate.nameOk x.who = false) := Bool.eq_false_iff.2 hn
    clear hn
    unfold Ak.cells Lw.cells
    go_enter Tryz.func25, Tryz.ntmps25
    go_wp2_with fail
    refine (as_bool HN.out (isName_any x.who _ HX.out.small.who)).mono ?_
    rintro e w1 ⟨rfl, rfl⟩
    go_wp2_with fail
    go_ret
    exact ⟨ret_bool (by unfold Gate.isAsk; rw [HN.out]; rfl), below2' _ _ _⟩
  by_cases hv : Gate.within x.vb 1 6 = true
  rotate_left
  · have HN : Hid (Gate.nameOk x.who = true) := hn
    have HV : Hid (Gate.within x.vb 1 6 = false) := Bool.eq_false_iff.2 hv
    clear hn hv
    unfold Ak.cells Lw.cells
    go_enter Tryz.func25, Tryz.ntmps25
    go_wp2_with fail
    refine (as_bool HN.out (isName_any x.who _ HX.out.small.who)).mono ?_
    rintro e w1 ⟨rfl, rfl⟩
    go_wp2_with fail
    refine (as_bool HV.out (isWithin_any x.vb 1 6 _)).mono ?_
    rintro e w1 ⟨rfl, rfl⟩
    go_wp2_with fail
    go_ret
    exact ⟨ret_bool (by unfold Gate.isAsk; rw [HN.out, HV.out]; rfl), below2' _ _ _⟩
  obtain ⟨who, vb, kd, nm, tm, vs, hs, sn, hd, to, r, no⟩ := x
  dsimp only at hn hv
  rcases verb_six hv with e | e | e | e | e | e <;> subst e
  · refine (isAsk_make l la lb lc lca lcb lcc who kd nm tm vs hs sn hd to r no a0 a1 a2 c0 c1 c2 w HL.out HX.out hn).mono ?_
    rintro e w1 ⟨rfl, hb⟩
    exact ⟨ret_bool (by unfold Gate.isAsk; dsimp only; rw [hn]; rfl), hb⟩
  · refine (isAsk_change l la lb lc lca lcb lcc who kd nm tm vs hs sn hd to r no a0 a1 a2 c0 c1 c2 w HL.out HX.out hn).mono ?_
    rintro e w1 ⟨rfl, hb⟩
    exact ⟨ret_bool (by unfold Gate.isAsk; dsimp only; rw [hn]; rfl), hb⟩
  · refine (isAsk_end l la lb lc lca lcb lcc who kd nm tm vs hs sn hd to r no a0 a1 a2 c0 c1 c2 w HL.out HX.out hn).mono ?_
    rintro e w1 ⟨rfl, hb⟩
    exact ⟨ret_bool (by unfold Gate.isAsk; dsimp only; rw [hn]; rfl), hb⟩
  · refine (isAsk_letGo l la lb lc lca lcb lcc who kd nm tm vs hs sn hd to r no a0 a1 a2 c0 c1 c2 w HL.out HX.out hn).mono ?_
    rintro e w1 ⟨rfl, hb⟩
    exact ⟨ret_bool (by unfold Gate.isAsk; dsimp only; rw [hn]; rfl), hb⟩
  · refine (isAsk_give l la lb lc lca lcb lcc who kd nm tm vs hs sn hd to r no a0 a1 a2 c0 c1 c2 w HL.out HX.out hn).mono ?_
    rintro e w1 ⟨rfl, hb⟩
    exact ⟨ret_bool (by unfold Gate.isAsk; dsimp only; rw [hn]; rfl), hb⟩
  · refine (isAsk_take l la lb lc lca lcb lcc who kd nm tm vs hs sn hd to r no a0 a1 a2 c0 c1 c2 w HL.out HX.out hn).mono ?_
    rintro e w1 ⟨rfl, hb⟩
    exact ⟨ret_bool (by unfold Gate.isAsk; dsimp only; rw [hn]; rfl), hb⟩

end Go.Proofs.YtpmlngcljbkchaaGreat
