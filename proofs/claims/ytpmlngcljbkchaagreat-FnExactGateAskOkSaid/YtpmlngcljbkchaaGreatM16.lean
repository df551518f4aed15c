import Derived.Test.YtpmlngcljbkchaaGreatM14
import Derived.Test.YtpmlngcljbkchaaGreatM06
import Derived.Deep.RegionHeld3
import Derived.Test.YtpmlngcljbkchaaGreatM08
namespace Go.Proofs.YtpmlngcljbkchaaGreat
open Go.RowKit

/-- What an ask holds. -/
structure Ak where
  who : ByteArray
  vb : Int
  kd : ByteArray
  nm : ByteArray
  tm : ByteArray
  vs : List ByteArray
  hs : List ByteArray
  sn : Int
  hd : ByteArray
  to : ByteArray
  r : Rl
  no : Int

def Ak.cells (x : Ak) (a0 a1 a2 : Option Addr) (c0 c1 c2 : Nat) : Array Value := #[.string x.who, .int .i64 x.vb, .string x.kd, .string x.nm, .string x.tm, .slice a0 x.vs.length c0, .slice a1 x.hs.length c1, .int .i64 x.sn, .string x.hd, .string x.to, .slice a2 x.r.vs.length c2, .string x.r.kd, .string x.r.tm, .string x.r.px, .int .i64 x.no]
structure Ak.Small (x : Ak) : Prop where
  who : x.who.size ≤ maxLen
  kd : x.kd.size ≤ maxLen
  nm : x.nm.size ≤ maxLen
  tm : x.tm.size ≤ maxLen
  hd : x.hd.size ≤ maxLen
  to : x.to.size ≤ maxLen
  r : x.r.Small
structure AkAt (w : World) (x : Ak) (a0 a1 a2 : Option Addr) : Prop where
  small : x.Small
  vs : StrsAt w a0 x.vs
  hs : StrsAt w a1 x.hs
  r : IntsAt w a2 x.r.vs
theorem AkAt.mono {w w' : World} {x : Ak} {a0 a1 a2 : Option Addr} (h : AkAt w x a0 a1 a2) (hb : Below w.heap.size w w') : AkAt w' x a0 a1 a2 := ⟨h.small, h.vs.mono hb, h.hs.mono hb, h.r.mono hb⟩
def Ak.sz (x : Ak) : Nat := x.who.size + x.kd.size + x.nm.size + x.tm.size + strsSz x.vs + strsSz x.hs + x.hd.size + x.to.size + x.r.sz
structure Ak.Few (x : Ak) : Prop where
  vs : x.vs.length ≤ 1048576
  hs : x.hs.length ≤ 1048576
  r : x.r.vs.length ≤ 1048576
theorem Ak.few {x : Ak} (h : (x.sz : Int) ≤ 1048576) : x.Few := by
  unfold Ak.sz Rl.sz strsSz at h
  exact ⟨by omega, by omega, by omega⟩

theorem two_boxesK (w : World) (X Y : Array Value) (s t : TypeId) : (∀ j, ((w.alloc (.cells X s)).alloc (.cells Y t)).cell? ⟨w.heap.size, j, none⟩ = X[j]?) ∧ ∀ j, ((w.alloc (.cells X s)).alloc (.cells Y t)).cell? ⟨w.heap.size + 1, j, none⟩ = Y[j]? := by
  refine ⟨box_later (box_new w X s) (by simp) ((Below.refl _ _).alloc (Nat.le_refl _) _), fun j => ?_⟩
  have h := box_new (w.alloc (.cells X s)) Y t j
  rw [World.size_alloc] at h
  exact h

set_option maxHeartbeats 4000000 in
theorem szGateAsk_any (x : Ak) (a0 a1 a2 : Option Addr) (c0 c1 c2 : Nat) (left : Int) (w : World) (ho : AkAt w x a0 a1 a2) (h0 : 0 ≤ left) (h1 : left ≤ 1048576) :
    Calls Tryz.prog 5 #[.agg (x.cells a0 a1 a2 c0 c1 c2), .int .i64 left] w fun e w' => e = .returned (.int .i64 (szRes x.sz left)) ∧ Below w.heap.size w w' := by
  have k1 := ho.small.who
  have k2 := ho.small.kd
  have k3 := ho.small.nm
  have k4 := ho.small.tm
  have k5 := ho.small.hd
  have k6 := ho.small.to
  have hv := ho.vs
  have hh := ho.hs
  have HM : Hid (x.r.Small ∧ x.r.vs.length ≤ maxLen) := ⟨ho.small.r, ho.r.len⟩
  clear ho
  unfold maxLen at k1 k2 k3 k4 k5 k6
  unfold Ak.cells
  have hB : ∀ ob, Below w.heap.size w (w.alloc ob) := fun ob => (Below.refl _ _).alloc (Nat.le_refl _) _
  by_cases c1 : (x.who.size : Int) ≤ left
  rotate_left
  · have HF : Hid (szRes x.sz left = -1) := szRes_no (by unfold Ak.sz; omega)
    go_enter Tryz.func5, Tryz.ntmps5
    go_wp2_with fail
    go_ret
    exact ⟨ret_int HF.out.symm, hB _⟩
  by_cases c2 : (x.kd.size : Int) ≤ left - x.who.size
  rotate_left
  · have HF : Hid (szRes x.sz left = -1) := szRes_no (by unfold Ak.sz; omega)
    go_enter Tryz.func5, Tryz.ntmps5
    go_wp2_with fail
    go_ret
    exact ⟨ret_int HF.out.symm, hB _⟩
  by_cases c3 : (x.nm.size : Int) ≤ left - x.who.size - x.kd.size
  rotate_left
  · have HF : Hid (szRes x.sz left = -1) := szRes_no (by unfold Ak.sz; omega)
    go_enter Tryz.func5, Tryz.ntmps5
    go_wp2_with fail
    go_ret
    exact ⟨ret_int HF.out.symm, hB _⟩
  by_cases c4 : (x.tm.size : Int) ≤ left - x.who.size - x.kd.size - x.nm.size
  rotate_left
  · have HF : Hid (szRes x.sz left = -1) := szRes_no (by unfold Ak.sz; omega)
    go_enter Tryz.func5, Tryz.ntmps5
    go_wp2_with fail
    go_ret
    exact ⟨ret_int HF.out.symm, hB _⟩
  by_cases c5 : (strsSz x.vs : Int) ≤ left - x.who.size - x.kd.size - x.nm.size - x.tm.size
  rotate_left
  · have HF : Hid (szRes x.sz left = -1) := szRes_no (by unfold Ak.sz; omega)
    go_enter Tryz.func5, Tryz.ntmps5
    go_wp2_with fail
    refine (szStringS_no _ _ _ _ _ (hv.mono (hB _)) (by omega) (by omega) (by omega)).mono ?_
    rintro e w1 ⟨rfl, rfl⟩
    go_wp2_with fail
    go_ret
    exact ⟨ret_int HF.out.symm, hB _⟩
  by_cases c6 : (strsSz x.hs : Int) ≤ left - x.who.size - x.kd.size - x.nm.size - x.tm.size - strsSz x.vs
  rotate_left
  · have HF : Hid (szRes x.sz left = -1) := szRes_no (by unfold Ak.sz; omega)
    go_enter Tryz.func5, Tryz.ntmps5
    go_wp2_with fail
    refine (szStringS_yes _ _ _ _ _ (hv.mono (hB _)) (by omega) (by omega) (by omega)).mono ?_
    rintro e w1 ⟨rfl, rfl⟩
    go_wp2_with fail
    refine (szStringS_no _ _ _ _ _ (hh.mono (hB _)) (by omega) (by omega) (by omega)).mono ?_
    rintro e w1 ⟨rfl, rfl⟩
    go_wp2_with fail
    go_ret
    exact ⟨ret_int HF.out.symm, hB _⟩
  by_cases c7 : (x.hd.size : Int) ≤ left - x.who.size - x.kd.size - x.nm.size - x.tm.size - strsSz x.vs - strsSz x.hs
  rotate_left
  · have HF : Hid (szRes x.sz left = -1) := szRes_no (by unfold Ak.sz; omega)
    go_enter Tryz.func5, Tryz.ntmps5
    go_wp2_with fail
    refine (szStringS_yes _ _ _ _ _ (hv.mono (hB _)) (by omega) (by omega) (by omega)).mono ?_
    rintro e w1 ⟨rfl, rfl⟩
    go_wp2_with fail
    refine (szStringS_yes _ _ _ _ _ (hh.mono (hB _)) (by omega) (by omega) (by omega)).mono ?_
    rintro e w1 ⟨rfl, rfl⟩
    go_wp2_with fail
    go_ret
    exact ⟨ret_int HF.out.symm, hB _⟩
  by_cases c8 : (x.to.size : Int) ≤ left - x.who.size - x.kd.size - x.nm.size - x.tm.size - strsSz x.vs - strsSz x.hs - x.hd.size
  rotate_left
  · have HF : Hid (szRes x.sz left = -1) := szRes_no (by unfold Ak.sz; omega)
    go_enter Tryz.func5, Tryz.ntmps5
    go_wp2_with fail
    refine (szStringS_yes _ _ _ _ _ (hv.mono (hB _)) (by omega) (by omega) (by omega)).mono ?_
    rintro e w1 ⟨rfl, rfl⟩
    go_wp2_with fail
    refine (szStringS_yes _ _ _ _ _ (hh.mono (hB _)) (by omega) (by omega) (by omega)).mono ?_
    rintro e w1 ⟨rfl, rfl⟩
    go_wp2_with fail
    go_ret
    exact ⟨ret_int HF.out.symm, hB _⟩
  by_cases c9 : (x.r.sz : Int) ≤ left - x.who.size - x.kd.size - x.nm.size - x.tm.size - strsSz x.vs - strsSz x.hs - x.hd.size - x.to.size
  rotate_left
  · have HF : Hid (szRes x.sz left = -1) := szRes_no (by unfold Ak.sz; omega)
    have HC : Hid (¬ (x.r.sz : Int) ≤ left - x.who.size - x.kd.size - x.nm.size - x.tm.size - strsSz x.vs - strsSz x.hs - x.hd.size - x.to.size) := c9
    clear c9
    go_enter Tryz.func5, Tryz.ntmps5
    go_wp2_with fail
    refine (szStringS_yes _ _ _ _ _ (hv.mono (hB _)) (by omega) (by omega) (by omega)).mono ?_
    rintro e w1 ⟨rfl, rfl⟩
    go_wp2_with fail
    refine (szStringS_yes _ _ _ _ _ (hh.mono (hB _)) (by omega) (by omega) (by omega)).mono ?_
    rintro e w1 ⟨rfl, rfl⟩
    go_wp2_with fail
    refine (szGateRule_any x.r _ _ _ _ HM.out.1 HM.out.2 (by omega) (by omega)).mono ?_
    rintro e w1 ⟨rfl, hb⟩
    rw [szRes_no (by have := HC.out; omega)]
    have hB1 := (hB _).trans (hb.mono (by simp))
    clear hb
    go_wp2_with fail
    go_ret
    exact ⟨ret_int HF.out.symm, hB1⟩
  · have HF : Hid (szRes x.sz left = left - x.who.size - x.kd.size - x.nm.size - x.tm.size - strsSz x.vs - strsSz x.hs - x.hd.size - x.to.size - x.r.sz) := by
      unfold Hid; rw [szRes_yes (by unfold Ak.sz; omega)]; unfold Ak.sz; omega
    go_enter Tryz.func5, Tryz.ntmps5
    go_wp2_with fail
    refine (szStringS_yes _ _ _ _ _ (hv.mono (hB _)) (by omega) (by omega) (by omega)).mono ?_
    rintro e w1 ⟨rfl, rfl⟩
    go_wp2_with fail
    refine (szStringS_yes _ _ _ _ _ (hh.mono (hB _)) (by omega) (by omega) (by omega)).mono ?_
    rintro e w1 ⟨rfl, rfl⟩
    go_wp2_with fail
    refine (szGateRule_any x.r _ _ _ _ HM.out.1 HM.out.2 (by omega) (by omega)).mono ?_
    rintro e w1 ⟨rfl, hb⟩
    rw [szRes_yes c9]
    have hB1 := (hB _).trans (hb.mono (by simp))
    clear hb
    go_wp2_with fail
    go_ret
    exact ⟨ret_int HF.out.symm, hB1⟩

set_option maxHeartbeats 4000000 in
theorem eqGateAsk_yes (x : Ak) (a0 a1 a2 : Option Addr) (c0 c1 c2 : Nat) (b0 b1 b2 : Option Addr) (d0 d1 d2 : Nat) (w : World) (ho : AkAt w x a0 a1 a2) (ho' : AkAt w x b0 b1 b2) :
    Calls Tryz.prog 11 #[.agg (x.cells a0 a1 a2 c0 c1 c2), .agg (x.cells b0 b1 b2 d0 d1 d2)] w fun e w' => e = .returned (.bool true) ∧ Below w.heap.size w w' := by
  have HA : Hid (AkAt w x a0 a1 a2 ∧ AkAt w x b0 b1 b2) := ⟨ho, ho'⟩
  have hn1 : (x.vb != x.vb) = false := by simp
  have hn2 : (x.sn != x.sn) = false := by simp
  have hn3 : (x.no != x.no) = false := by simp
  clear ho ho'
  unfold Ak.cells
  go_enter Tryz.func11, Tryz.ntmps11
  go_wp2_with fail
  obtain ⟨hX0, hY0⟩ := two_boxesK w #[.string x.who, .int .i64 x.vb, .string x.kd, .string x.nm, .string x.tm, .slice a0 x.vs.length c0, .slice a1 x.hs.length c1, .int .i64 x.sn, .string x.hd, .string x.to, .slice a2 x.r.vs.length c2, .string x.r.kd, .string x.r.tm, .string x.r.px, .int .i64 x.no] #[.string x.who, .int .i64 x.vb, .string x.kd, .string x.nm, .string x.tm, .slice b0 x.vs.length d0, .slice b1 x.hs.length d1, .int .i64 x.sn, .string x.hd, .string x.to, .slice b2 x.r.vs.length d2, .string x.r.kd, .string x.r.tm, .string x.r.px, .int .i64 x.no] 44 44
  have hB0 := below2' w (.cells #[.string x.who, .int .i64 x.vb, .string x.kd, .string x.nm, .string x.tm, .slice a0 x.vs.length c0, .slice a1 x.hs.length c1, .int .i64 x.sn, .string x.hd, .string x.to, .slice a2 x.r.vs.length c2, .string x.r.kd, .string x.r.tm, .string x.r.px, .int .i64 x.no] 44) (.cells #[.string x.who, .int .i64 x.vb, .string x.kd, .string x.nm, .string x.tm, .slice b0 x.vs.length d0, .slice b1 x.hs.length d1, .int .i64 x.sn, .string x.hd, .string x.to, .slice b2 x.r.vs.length d2, .string x.r.kd, .string x.r.tm, .string x.r.px, .int .i64 x.no] 44)
  obtain ⟨W0, hW0⟩ : ∃ W0, W0 = (w.alloc (.cells #[.string x.who, .int .i64 x.vb, .string x.kd, .string x.nm, .string x.tm, .slice a0 x.vs.length c0, .slice a1 x.hs.length c1, .int .i64 x.sn, .string x.hd, .string x.to, .slice a2 x.r.vs.length c2, .string x.r.kd, .string x.r.tm, .string x.r.px, .int .i64 x.no] 44)).alloc (.cells #[.string x.who, .int .i64 x.vb, .string x.kd, .string x.nm, .string x.tm, .slice b0 x.vs.length d0, .slice b1 x.hs.length d1, .int .i64 x.sn, .string x.hd, .string x.to, .slice b2 x.r.vs.length d2, .string x.r.kd, .string x.r.tm, .string x.r.px, .int .i64 x.no] 44) := ⟨_, rfl⟩
  have hz0 : w.heap.size + 1 < W0.heap.size := by rw [hW0]; simp
  rw [← hW0] at hB0 hX0 hY0 ⊢
  clear hW0
  refine (eqStringS_yes _ _ _ _ _ _ (HA.out.1.vs.mono hB0) (HA.out.2.vs.mono hB0)).mono ?_
  rintro e w1 ⟨rfl, hb⟩
  have hX1 := box_later hX0 (Nat.lt_of_succ_lt hz0) hb
  have hY1 := box_later hY0 hz0 hb
  have hz1 := Nat.lt_of_lt_of_le hz0 hb.size
  have hB1 := hB0.trans (hb.mono hB0.size)
  clear hb hX0 hY0 hz0 hB0
  go_wp2_with fail
  refine (eqStringS_yes _ _ _ _ _ _ (HA.out.1.hs.mono hB1) (HA.out.2.hs.mono hB1)).mono ?_
  rintro e w2 ⟨rfl, hb⟩
  have hX2 := box_later hX1 (Nat.lt_of_succ_lt hz1) hb
  have hY2 := box_later hY1 hz1 hb
  have hz2 := Nat.lt_of_lt_of_le hz1 hb.size
  have hB2 := hB1.trans (hb.mono hB1.size)
  clear hb hX1 hY1 hz1 hB1
  go_wp2_with fail
  refine (eqGateRule_yes x.r _ _ _ _ _ (HA.out.1.r.mono hB2) (HA.out.2.r.mono hB2)).mono ?_
  rintro e w3 ⟨rfl, hb⟩
  have hX3 := box_later hX2 (Nat.lt_of_succ_lt hz2) hb
  have hY3 := box_later hY2 hz2 hb
  have hz3 := Nat.lt_of_lt_of_le hz2 hb.size
  have hB3 := hB2.trans (hb.mono hB2.size)
  clear hb hX2 hY2 hz2 hB2
  go_wp2_with fail
  go_ret
  exact ⟨rfl, hB3⟩

end Go.Proofs.YtpmlngcljbkchaaGreat

namespace Go.Proofs.YtpmlngcljbkchaaGreat
open Go.RowKit

theorem Gate.kd_cases (s : ByteArray) : s.toList.isEmpty = true ∨ (s.toList.isEmpty = false ∧ Hid (Gate.nameOk s = true)) ∨ (s.toList.isEmpty = false ∧ Hid (Gate.nameOk s = false)) := by
  by_cases h : s.toList.isEmpty = true
  · exact Or.inl h
  · by_cases h2 : Gate.nameOk s = true
    · exact Or.inr (Or.inl ⟨by simpa using h, h2⟩)
    · exact Or.inr (Or.inr ⟨by simpa using h, by simpa [Hid] using h2⟩)

set_option maxHeartbeats 2000000 in
theorem isRule_any (r : Rl) (a : Option Addr) (cap : Nat) (w : World) (hm : r.Small) (hw : IntsAt w a r.vs) :
    Calls Tryz.prog 147 #[.agg (r.cells a cap)] w fun e w' => e = .returned (.bool (Gate.ruleOk r)) ∧ Below w.heap.size w w' := by
  have hskd := hm.kd
  have hstm := hm.tm
  have hspx := hm.px
  have hpx := hm.px
  unfold maxLen at hpx
  unfold Rl.cells
  have HB : Hid (∀ ob, Below w.heap.size w (w.alloc ob)) := fun ob => (Below.refl _ _).alloc (Nat.le_refl _) _
  have HI : Hid (∀ ob, IntsAt (w.alloc ob) a r.vs) := fun ob => hw.mono (HB.out ob)
  clear hw hm
  rcases Gate.kd_cases r.kd with hk | ⟨hk, HK⟩ | ⟨hk, HK⟩
  · rcases Gate.kd_cases r.tm with ht | ⟨ht, HT⟩ | ⟨ht, HT⟩
    · have HKD : Hid (Gate.kindsOk r = true) := by unfold Hid Gate.kindsOk; rw [hk, ht]; simp
      by_cases hv : Gate.verbsOk r.vs = true
      rotate_left
      · have HV : Hid (Gate.verbsOk r.vs = false) := by simpa [Hid] using hv
        have HF : Hid (Gate.ruleOk r = false) := by unfold Hid Gate.ruleOk; rw [HV.out]; simp
        clear hv
        go_enter Tryz.func147, Tryz.ntmps147
        go_wp2_with (first | (go_at_call 148; refine (as_bool HV.out (areVerbs_any _ _ r.vs _ (by exact HI.out _))).mono ?_; rintro e w' ⟨rfl, rfl⟩))
        go_ret
        exact ⟨ret_bool HF.out.symm, HB.out _⟩
      have HV : Hid (Gate.verbsOk r.vs = true) := hv
      clear hv
      by_cases h16 : r.px.size ≤ 16
      · have HF : Hid (Gate.ruleOk r = Gate.allName r.px) := by unfold Hid Gate.ruleOk; rw [HKD.out, HV.out, decide_eq_true h16]; rfl
        have h16I : (r.px.size : Int) ≤ 16 := by omega
        clear h16
        go_enter Tryz.func147, Tryz.ntmps147
        go_wp2_with (first | (go_at_call 148; refine (as_bool HV.out (areVerbs_any _ _ r.vs _ (by exact HI.out _))).mono ?_; rintro e w' ⟨rfl, rfl⟩) | (go_at_call 75; refine (isNameBytes_any r.px _ hspx).mono ?_; rintro e w' ⟨rfl, rfl⟩))
        go_ret
        exact ⟨ret_bool HF.out.symm, HB.out _⟩
      · have HF : Hid (Gate.ruleOk r = false) := by unfold Hid Gate.ruleOk; rw [decide_eq_false h16]; simp
        have h16I : decide ((r.px.size : Int) ≤ 16) = false := by simp; omega
        clear h16
        go_enter Tryz.func147, Tryz.ntmps147
        go_wp2_with (first | (go_at_call 148; refine (as_bool HV.out (areVerbs_any _ _ r.vs _ (by exact HI.out _))).mono ?_; rintro e w' ⟨rfl, rfl⟩))
        go_ret
        exact ⟨ret_bool HF.out.symm, HB.out _⟩
    · have HKD : Hid (Gate.kindsOk r = true) := by unfold Hid Gate.kindsOk; rw [hk, HT.out]; simp
      by_cases hv : Gate.verbsOk r.vs = true
      rotate_left
      · have HV : Hid (Gate.verbsOk r.vs = false) := by simpa [Hid] using hv
        have HF : Hid (Gate.ruleOk r = false) := by unfold Hid Gate.ruleOk; rw [HV.out]; simp
        clear hv
        go_enter Tryz.func147, Tryz.ntmps147
        go_wp2_with (first | (go_at_call_of 51 (Value.string r.tm); refine (as_bool HT.out (isName_any r.tm _ hstm)).mono ?_; rintro e w' ⟨rfl, rfl⟩) | (go_at_call 148; refine (as_bool HV.out (areVerbs_any _ _ r.vs _ (by exact HI.out _))).mono ?_; rintro e w' ⟨rfl, rfl⟩))
        go_ret
        exact ⟨ret_bool HF.out.symm, HB.out _⟩
      have HV : Hid (Gate.verbsOk r.vs = true) := hv
      clear hv
      by_cases h16 : r.px.size ≤ 16
      · have HF : Hid (Gate.ruleOk r = Gate.allName r.px) := by unfold Hid Gate.ruleOk; rw [HKD.out, HV.out, decide_eq_true h16]; rfl
        have h16I : (r.px.size : Int) ≤ 16 := by omega
        clear h16
        go_enter Tryz.func147, Tryz.ntmps147
        go_wp2_with (first | (go_at_call_of 51 (Value.string r.tm); refine (as_bool HT.out (isName_any r.tm _ hstm)).mono ?_; rintro e w' ⟨rfl, rfl⟩) | (go_at_call 148; refine (as_bool HV.out (areVerbs_any _ _ r.vs _ (by exact HI.out _))).mono ?_; rintro e w' ⟨rfl, rfl⟩) | (go_at_call 75; refine (isNameBytes_any r.px _ hspx).mono ?_; rintro e w' ⟨rfl, rfl⟩))
        go_ret
        exact ⟨ret_bool HF.out.symm, HB.out _⟩
      · have HF : Hid (Gate.ruleOk r = false) := by unfold Hid Gate.ruleOk; rw [decide_eq_false h16]; simp
        have h16I : decide ((r.px.size : Int) ≤ 16) = false := by simp; omega
        clear h16
        go_enter Tryz.func147, Tryz.ntmps147
        go_wp2_with (first | (go_at_call_of 51 (Value.string r.tm); refine (as_bool HT.out (isName_any r.tm _ hstm)).mono ?_; rintro e w' ⟨rfl, rfl⟩) | (go_at_call 148; refine (as_bool HV.out (areVerbs_any _ _ r.vs _ (by exact HI.out _))).mono ?_; rintro e w' ⟨rfl, rfl⟩))
        go_ret
        exact ⟨ret_bool HF.out.symm, HB.out _⟩
    · have HF : Hid (Gate.ruleOk r = false) := by unfold Hid Gate.ruleOk Gate.kindsOk; rw [ht, HT.out]; simp
      go_enter Tryz.func147, Tryz.ntmps147
      go_wp2_with (first | (go_at_call_of 51 (Value.string r.tm); refine (as_bool HT.out (isName_any r.tm _ hstm)).mono ?_; rintro e w' ⟨rfl, rfl⟩))
      go_ret
      exact ⟨ret_bool HF.out.symm, HB.out _⟩
  · rcases Gate.kd_cases r.tm with ht | ⟨ht, HT⟩ | ⟨ht, HT⟩
    · have HKD : Hid (Gate.kindsOk r = true) := by unfold Hid Gate.kindsOk; rw [HK.out, ht]; simp
      by_cases hv : Gate.verbsOk r.vs = true
      rotate_left
      · have HV : Hid (Gate.verbsOk r.vs = false) := by simpa [Hid] using hv
        have HF : Hid (Gate.ruleOk r = false) := by unfold Hid Gate.ruleOk; rw [HV.out]; simp
        clear hv
        go_enter Tryz.func147, Tryz.ntmps147
        go_wp2_with (first | (go_at_call_of 51 (Value.string r.kd); refine (as_bool HK.out (isName_any r.kd _ hskd)).mono ?_; rintro e w' ⟨rfl, rfl⟩) | (go_at_call 148; refine (as_bool HV.out (areVerbs_any _ _ r.vs _ (by exact HI.out _))).mono ?_; rintro e w' ⟨rfl, rfl⟩))
        go_ret
        exact ⟨ret_bool HF.out.symm, HB.out _⟩
      have HV : Hid (Gate.verbsOk r.vs = true) := hv
      clear hv
      by_cases h16 : r.px.size ≤ 16
      · have HF : Hid (Gate.ruleOk r = Gate.allName r.px) := by unfold Hid Gate.ruleOk; rw [HKD.out, HV.out, decide_eq_true h16]; rfl
        have h16I : (r.px.size : Int) ≤ 16 := by omega
        clear h16
        go_enter Tryz.func147, Tryz.ntmps147
        go_wp2_with (first | (go_at_call_of 51 (Value.string r.kd); refine (as_bool HK.out (isName_any r.kd _ hskd)).mono ?_; rintro e w' ⟨rfl, rfl⟩) | (go_at_call 148; refine (as_bool HV.out (areVerbs_any _ _ r.vs _ (by exact HI.out _))).mono ?_; rintro e w' ⟨rfl, rfl⟩) | (go_at_call 75; refine (isNameBytes_any r.px _ hspx).mono ?_; rintro e w' ⟨rfl, rfl⟩))
        go_ret
        exact ⟨ret_bool HF.out.symm, HB.out _⟩
      · have HF : Hid (Gate.ruleOk r = false) := by unfold Hid Gate.ruleOk; rw [decide_eq_false h16]; simp
        have h16I : decide ((r.px.size : Int) ≤ 16) = false := by simp; omega
        clear h16
        go_enter Tryz.func147, Tryz.ntmps147
        go_wp2_with (first | (go_at_call_of 51 (Value.string r.kd); refine (as_bool HK.out (isName_any r.kd _ hskd)).mono ?_; rintro e w' ⟨rfl, rfl⟩) | (go_at_call 148; refine (as_bool HV.out (areVerbs_any _ _ r.vs _ (by exact HI.out _))).mono ?_; rintro e w' ⟨rfl, rfl⟩))
        go_ret
        exact ⟨ret_bool HF.out.symm, HB.out _⟩
    · have HKD : Hid (Gate.kindsOk r = true) := by unfold Hid Gate.kindsOk; rw [HK.out, HT.out]; simp
      by_cases hv : Gate.verbsOk r.vs = true
      rotate_left
      · have HV : Hid (Gate.verbsOk r.vs = false) := by simpa [Hid] using hv
        have HF : Hid (Gate.ruleOk r = false) := by unfold Hid Gate.ruleOk; rw [HV.out]; simp
        clear hv
        go_enter Tryz.func147, Tryz.ntmps147
        go_wp2_with (first | (go_at_call_of 51 (Value.string r.kd); refine (as_bool HK.out (isName_any r.kd _ hskd)).mono ?_; rintro e w' ⟨rfl, rfl⟩) | (go_at_call_of 51 (Value.string r.tm); refine (as_bool HT.out (isName_any r.tm _ hstm)).mono ?_; rintro e w' ⟨rfl, rfl⟩) | (go_at_call 148; refine (as_bool HV.out (areVerbs_any _ _ r.vs _ (by exact HI.out _))).mono ?_; rintro e w' ⟨rfl, rfl⟩))
        go_ret
        exact ⟨ret_bool HF.out.symm, HB.out _⟩
      have HV : Hid (Gate.verbsOk r.vs = true) := hv
      clear hv
      by_cases h16 : r.px.size ≤ 16
      · have HF : Hid (Gate.ruleOk r = Gate.allName r.px) := by unfold Hid Gate.ruleOk; rw [HKD.out, HV.out, decide_eq_true h16]; rfl
        have h16I : (r.px.size : Int) ≤ 16 := by omega
        clear h16
        go_enter Tryz.func147, Tryz.ntmps147
        go_wp2_with (first | (go_at_call_of 51 (Value.string r.kd); refine (as_bool HK.out (isName_any r.kd _ hskd)).mono ?_; rintro e w' ⟨rfl, rfl⟩) | (go_at_call_of 51 (Value.string r.tm); refine (as_bool HT.out (isName_any r.tm _ hstm)).mono ?_; rintro e w' ⟨rfl, rfl⟩) | (go_at_call 148; refine (as_bool HV.out (areVerbs_any _ _ r.vs _ (by exact HI.out _))).mono ?_; rintro e w' ⟨rfl, rfl⟩) | (go_at_call 75; refine (isNameBytes_any r.px _ hspx).mono ?_; rintro e w' ⟨rfl, rfl⟩))
        go_ret
        exact ⟨ret_bool HF.out.symm, HB.out _⟩
      · have HF : Hid (Gate.ruleOk r = false) := by unfold Hid Gate.ruleOk; rw [decide_eq_false h16]; simp
        have h16I : decide ((r.px.size : Int) ≤ 16) = false := by simp; omega
        clear h16
        go_enter Tryz.func147, Tryz.ntmps147
        go_wp2_with (first | (go_at_call_of 51 (Value.string r.kd); refine (as_bool HK.out (isName_any r.kd _ hskd)).mono ?_; rintro e w' ⟨rfl, rfl⟩) | (go_at_call_of 51 (Value.string r.tm); refine (as_bool HT.out (isName_any r.tm _ hstm)).mono ?_; rintro e w' ⟨rfl, rfl⟩) | (go_at_call 148; refine (as_bool HV.out (areVerbs_any _ _ r.vs _ (by exact HI.out _))).mono ?_; rintro e w' ⟨rfl, rfl⟩))
        go_ret
        exact ⟨ret_bool HF.out.symm, HB.out _⟩
    · have HF : Hid (Gate.ruleOk r = false) := by unfold Hid Gate.ruleOk Gate.kindsOk; rw [ht, HT.out]; simp
      go_enter Tryz.func147, Tryz.ntmps147
      go_wp2_with (first | (go_at_call_of 51 (Value.string r.kd); refine (as_bool HK.out (isName_any r.kd _ hskd)).mono ?_; rintro e w' ⟨rfl, rfl⟩) | (go_at_call_of 51 (Value.string r.tm); refine (as_bool HT.out (isName_any r.tm _ hstm)).mono ?_; rintro e w' ⟨rfl, rfl⟩))
      go_ret
      exact ⟨ret_bool HF.out.symm, HB.out _⟩
  · have HF : Hid (Gate.ruleOk r = false) := by unfold Hid Gate.ruleOk Gate.kindsOk; rw [hk, HK.out]; simp
    go_enter Tryz.func147, Tryz.ntmps147
    go_wp2_with (first | (go_at_call_of 51 (Value.string r.kd); refine (as_bool HK.out (isName_any r.kd _ hskd)).mono ?_; rintro e w' ⟨rfl, rfl⟩))
    go_ret
    exact ⟨ret_bool HF.out.symm, HB.out _⟩

end Go.Proofs.YtpmlngcljbkchaaGreat

namespace Go.Proofs.YtpmlngcljbkchaaGreat
open Go.RowKit

theorem Gate.any_deep (ts : List Tm) : (!(ts.any fun t => !Gate.deepOk ts t)) = Gate.up (Gate.deepAt ts) ts.length := by
  rw [Bool.eq_iff_iff, Gate.up_eq_true]
  simp only [Bool.not_eq_true', List.any_eq_false]
  constructor
  · intro h i hi
    have := h ts[i] (List.getElem_mem hi)
    unfold Gate.deepAt
    rw [Gate.getD_at ts i _ hi]
    simpa using this
  · intro h x hx
    obtain ⟨k, hk, rfl⟩ := List.mem_iff_getElem.1 hx
    have := h k hk
    unfold Gate.deepAt at this
    rw [Gate.getD_at ts k _ hk] at this
    simp [this]

theorem Gate.teamAt_at (ts : List Tm) (k : Nat) (h : k < ts.length) (b : Bool) (hb : (decide (k = 0) || Gate.less (ts.getD (k - 1) Gate.noTeam).nm ts[k].nm) = b) :
    Gate.teamAt ts k = (Gate.nameOk ts[k].nm && b && (ts[k].ov.toList.isEmpty || Gate.hasTeam ts ts[k].ov)) := by
  unfold Gate.teamAt; rw [Gate.getD_at ts k _ h, hb]

set_option maxHeartbeats 4000000 in
theorem implTeamsOk_any (a : Option Addr) (cap : Nat) (ts : List Tm) (w : World) (hw : TmsAt w a ts) :
    Calls Tryz.prog 50 #[.slice a ts.length cap] w fun e w' => e = .returned (.bool (Gate.teamsOk ts)) ∧ Below w.heap.size w w' := by
  have hl := hw.len
  unfold maxLen at hl
  by_cases h12 : ts.length ≤ 12
  rotate_left
  · have HF : Hid (Gate.teamsOk ts = false) := by simp [Hid, Gate.teamsOk, h12]
    clear hw
    go_enter Tryz.func50, Tryz.ntmps50
    go_wp2_with fail
    go_ret
    exact ⟨ret_bool HF.out.symm, (Below.refl _ _).alloc (Nat.le_refl _) _⟩
  have HG : Hid (Gate.teamsOk ts = (Gate.up (Gate.teamAt ts) ts.length && Gate.up (Gate.deepAt ts) ts.length)) := by simp [Hid, Gate.teamsOk, h12]
  have h12I : (ts.length : Int) ≤ 12 := by omega
  go_enter Tryz.func50, Tryz.ntmps50
  go_wp2_with fail
  have hB00 : Below w.heap.size w (w.alloc (.cells #[.slice a ts.length cap] 38)) := (Below.refl _ _).alloc (Nat.le_refl _) _
  have hX00 := box_new w #[.slice a ts.length cap] 38
  have hz00 : w.heap.size < (w.alloc (.cells #[.slice a ts.length cap] 38)).heap.size := by simp
  obtain ⟨w0, hw0⟩ : ∃ w0, w0 = w.alloc (.cells #[.slice a ts.length cap] 38) := ⟨_, rfl⟩
  rw [← hw0] at hB00 hX00 hz00 ⊢
  have HW0 : Hid (TmsAt w0 a ts) := hw.mono hB00
  have HB00 : Hid (Below w.heap.size w w0) := hB00
  clear hw0 hw hB00
  go_loopw [10] (fun i wr => ∃ k : Nat, k ≤ ts.length ∧ i = .int .i64 k ∧ Gate.up (Gate.teamAt ts) k = true ∧ Below w0.heap.size w0 wr) (fun i _ => ts.length - (intOf i).toNat)
  case atStart => exact ⟨0, Nat.zero_le _, rfl, rfl, Below.refl _ _⟩
  case round =>
    obtain ⟨k, hk, rfl, hup, hB⟩ := hrel
    have hsz := hB.size
    have hX := box_later hX00 hz00 hB
    have hX0 : wr.cell? ⟨w.heap.size, 0, none⟩ = some (.slice a ts.length cap) := hX 0
    have hzr : w.heap.size < wr.heap.size := by omega
    have HBr : Hid (Below w.heap.size w wr) := HB00.out.trans (hB.mono (by omega))
    clear hX hX00
    by_cases hlt : k < ts.length
    · obtain ⟨b, off, rfl, hb, c0, c1⟩ := HW0.out.load hB k hlt
      have hbr : b < wr.heap.size := by omega
      have hsm := HW0.out.small k hlt
      have hsn := hsm.nm
      have HS : Hid (Gate.teamAt ts k = true → Gate.up (Gate.teamAt ts) (k + 1) = true) := fun h => by rw [Gate.up_succ, hup, h]; rfl
      have HN : Hid (Gate.teamAt ts k = false → Gate.teamsOk ts = false) := fun h => by rw [HG.out, Gate.up_not hlt h]; rfl
      have hltI : (k : Int) < (ts.length : Int) := by omega
      have HB : Hid (Below w0.heap.size w0 wr) := hB
      clear hup hsm hB
      by_cases hn : Gate.nameOk ts[k].nm = true
      rotate_left
      · have HNm : Hid (Gate.nameOk ts[k].nm = false) := by simpa [Hid] using hn
        have HF : Hid (Gate.teamAt ts k = false) := by unfold Hid; rw [Gate.teamAt_at ts k hlt _ rfl, HNm.out]; rfl
        clear hn
        go_wp2_with fail
        go_quiet ((go_at_call 51; exact Calls.quiet_of_same (as_bool HNm.out (isName_any _ _ hsn))))
        go_wp2_with fail
        go_ret
        exact ⟨ret_bool (HN.out HF.out).symm, below_drewN (HBr.out.alloc (by omega) _) _⟩
      have HNm : Hid (Gate.nameOk ts[k].nm = true) := hn
      clear hn
      by_cases hbad : 0 < k ∧ Gate.less (ts.getD (k - 1) Gate.noTeam).nm ts[k].nm = false
      · obtain ⟨hkpos, hls⟩ := hbad
        have HF : Hid (Gate.teamAt ts k = false) := by
          unfold Hid; rw [Gate.teamAt_at ts k hlt false (by rw [hls, decide_eq_false (show ¬ k = 0 by omega)]; rfl)]; simp
        obtain ⟨m, rfl⟩ : ∃ m, k = m + 1 := ⟨k - 1, by omega⟩
        rw [Nat.add_sub_cancel, Gate.getD_at ts m _ (by omega)] at hls
        obtain ⟨b', off', e', hb', d0, d1⟩ := HW0.out.load HB.out m (by omega)
        simp only [Option.some.injEq, Addr.mk.injEq] at e'
        obtain ⟨rfl, rfl, _⟩ := e'
        have hls' : Op.bytesLess ts[m].nm.toList ts[m + 1].nm.toList = false := hls
        have hmI : (m : Int) < 12 := by omega
        have hm0 : (0 : Int) ≤ (m : Int) := by omega
        have hml : (m : Int) < (ts.length : Int) := by omega
        have hmw : IntKind.i64.wrap (m : Int) = m := by rw [IntKind.wrap_i64]; omega
        clear hls
        go_wp2_with fail
        go_quiet ((go_at_call 51; exact Calls.quiet_of_same (as_bool HNm.out (isName_any _ _ hsn))))
        go_wp2_with fail
        go_ret
        exact ⟨ret_bool (HN.out HF.out).symm, below_drewN (HBr.out.alloc (by omega) _) _⟩
      have hgd : (decide (k = 0) || Gate.less (ts.getD (k - 1) Gate.noTeam).nm ts[k].nm) = true := by
        by_cases hk0 : k = 0
        · simp [hk0]
        · cases hq : Gate.less (ts.getD (k - 1) Gate.noTeam).nm ts[k].nm
          · exact absurd ⟨by omega, hq⟩ hbad
          · simp
      have HA : Hid (Gate.teamAt ts k = (ts[k].ov.toList.isEmpty || Gate.hasTeam ts ts[k].ov)) := by
        unfold Hid; rw [Gate.teamAt_at ts k hlt true hgd, HNm.out]; rfl
      have hgood : (decide (0 < k) = false) ∨ (decide (0 < k) = true ∧ ∃ m, k = m + 1 ∧ ∃ h : m < ts.length, Op.bytesLess ts[m].nm.toList ts[k].nm.toList = true ∧ wr.cell? ⟨b, off + m * 2, none⟩ = some (.string ts[m].nm)) := by
        by_cases hk0 : k = 0
        · exact Or.inl (by simp; omega)
        · refine Or.inr ⟨by simp; omega, k - 1, by omega, by omega, ?_, ?_⟩
          · rw [decide_eq_false hk0, Gate.getD_at ts (k - 1) _ (by omega)] at hgd
            exact hgd
          · obtain ⟨b', off', e', hb', d0, d1⟩ := HW0.out.load HB.out (k - 1) (by omega)
            simp only [Option.some.injEq, Addr.mk.injEq] at e'
            obtain ⟨rfl, rfl, _⟩ := e'
            exact d0
      clear hbad hgd
      have HBx : Hid (∀ (ob : Obj) (n : Nat), Below wr.heap.size wr ((wr.alloc ob).drewN n)) := fun ob n => below_drewN ((Below.refl _ _).alloc (Nat.le_refl _) _) _
      by_cases hov : ts[k].ov.toList.isEmpty = true
      · have HT : Hid (Gate.teamAt ts k = true) := by unfold Hid; rw [HA.out, hov]; rfl
        rcases hgood with hg | ⟨hg, m, rfl, hm, hls', d0⟩
        · go_wp2_with fail
          go_quiet ((go_at_call 51; exact Calls.quiet_of_same (as_bool HNm.out (isName_any _ _ hsn))))
          go_wp2_with fail
          exact ⟨⟨k + 1, by omega, by go_num, HS.out HT.out, HB.out.trans ((HBx.out _ _).mono hsz)⟩, by simp [intOf]; omega⟩
        · have hmI : (m : Int) < 12 := by omega
          have hm0 : (0 : Int) ≤ (m : Int) := by omega
          have hml : (m : Int) < (ts.length : Int) := by omega
          have hmw : IntKind.i64.wrap (m : Int) = m := by rw [IntKind.wrap_i64]; omega
          go_wp2_with fail
          go_quiet ((go_at_call 51; exact Calls.quiet_of_same (as_bool HNm.out (isName_any _ _ hsn))))
          go_wp2_with fail
          exact ⟨⟨m + 1 + 1, by omega, by go_num, HS.out HT.out, HB.out.trans ((HBx.out _ _).mono hsz)⟩, by simp [intOf]; omega⟩
      · have hov' : ts[k].ov.toList.isEmpty = false := by simpa using hov
        clear hov
        by_cases hit : Gate.hasTeam ts ts[k].ov = true
        · have HI : Hid (Gate.hasTeam ts ts[k].ov = true) := hit
          have HT : Hid (Gate.teamAt ts k = true) := by unfold Hid; rw [HA.out, hit]; simp
          clear hit
          rcases hgood with hg | ⟨hg, m, rfl, hm, hls', d0⟩
          · go_wp2_with fail
            go_quiet ((go_at_call 51; exact Calls.quiet_of_same (as_bool HNm.out (isName_any _ _ hsn))))
            go_wp2_with fail
            refine (as_bool HI.out (isTeam_any _ _ ts _ _ ((HW0.out.mono HB.out).mono (HBx.out _ _)))).mono ?_
            rintro e w3 ⟨rfl, hb3⟩
            have hB3 : Below w0.heap.size w0 w3 := (HB.out.trans ((HBx.out _ _).mono hsz)).trans (hb3.mono (by simp; omega))
            clear hb3
            go_wp2_with fail
            exact ⟨⟨k + 1, by omega, by go_num, HS.out HT.out, hB3⟩, by simp [intOf]; omega⟩
          · have hmI : (m : Int) < 12 := by omega
            have hm0 : (0 : Int) ≤ (m : Int) := by omega
            have hml : (m : Int) < (ts.length : Int) := by omega
            have hmw : IntKind.i64.wrap (m : Int) = m := by rw [IntKind.wrap_i64]; omega
            go_wp2_with fail
            go_quiet ((go_at_call 51; exact Calls.quiet_of_same (as_bool HNm.out (isName_any _ _ hsn))))
            go_wp2_with fail
            refine (as_bool HI.out (isTeam_any _ _ ts _ _ ((HW0.out.mono HB.out).mono (HBx.out _ _)))).mono ?_
            rintro e w3 ⟨rfl, hb3⟩
            have hB3 : Below w0.heap.size w0 w3 := (HB.out.trans ((HBx.out _ _).mono hsz)).trans (hb3.mono (by simp; omega))
            clear hb3
            go_wp2_with fail
            exact ⟨⟨m + 1 + 1, by omega, by go_num, HS.out HT.out, hB3⟩, by simp [intOf]; omega⟩
        · have HI : Hid (Gate.hasTeam ts ts[k].ov = false) := by simpa [Hid] using hit
          have HF : Hid (Gate.teamAt ts k = false) := by unfold Hid; rw [HA.out, HI.out, hov']; rfl
          clear hit
          rcases hgood with hg | ⟨hg, m, rfl, hm, hls', d0⟩
          · go_wp2_with fail
            go_quiet ((go_at_call 51; exact Calls.quiet_of_same (as_bool HNm.out (isName_any _ _ hsn))))
            go_wp2_with fail
            refine (as_bool HI.out (isTeam_any _ _ ts _ _ ((HW0.out.mono HB.out).mono (HBx.out _ _)))).mono ?_
            rintro e w3 ⟨rfl, hb3⟩
            have hB3 : Below w.heap.size w w3 := (HBr.out.trans ((HBx.out _ _).mono (by omega))).trans (hb3.mono (by simp; omega))
            clear hb3
            go_wp2_with fail
            go_ret
            exact ⟨ret_bool (HN.out HF.out).symm, hB3⟩
          · have hmI : (m : Int) < 12 := by omega
            have hm0 : (0 : Int) ≤ (m : Int) := by omega
            have hml : (m : Int) < (ts.length : Int) := by omega
            have hmw : IntKind.i64.wrap (m : Int) = m := by rw [IntKind.wrap_i64]; omega
            go_wp2_with fail
            go_quiet ((go_at_call 51; exact Calls.quiet_of_same (as_bool HNm.out (isName_any _ _ hsn))))
            go_wp2_with fail
            refine (as_bool HI.out (isTeam_any _ _ ts _ _ ((HW0.out.mono HB.out).mono (HBx.out _ _)))).mono ?_
            rintro e w3 ⟨rfl, hb3⟩
            have hB3 : Below w.heap.size w w3 := (HBr.out.trans ((HBx.out _ _).mono (by omega))).trans (hb3.mono (by simp; omega))
            clear hb3
            go_wp2_with fail
            go_ret
            exact ⟨ret_bool (HN.out HF.out).symm, hB3⟩
    · have HF : Hid (Gate.teamsOk ts = !(ts.any fun t => !Gate.deepOk ts t)) := by
        have e : k = ts.length := by omega
        subst e; rw [Hid, HG.out, hup, Gate.any_deep]; rfl
      have HWr : Hid (TmsAt wr a ts) := HW0.out.mono hB
      clear hup hB
      go_wp2_with fail
      refine (ContainsFuncU_any _ _ ts _ _ _ HWr.out (deepFn_fn _ _ ts _ _ HWr.out hzr hX0)).mono ?_
      rintro e w3 ⟨rfl, hb3⟩
      have hB3 : Below w.heap.size w w3 := HBr.out.trans (hb3.mono (by omega))
      clear hb3
      go_wp2_with fail
      go_ret
      exact ⟨ret_bool HF.out.symm, hB3⟩

end Go.Proofs.YtpmlngcljbkchaaGreat

namespace Go.Proofs.YtpmlngcljbkchaaGreat
open Go.RowKit

theorem lt_of_some {w : World} {b : Nat} {o : Obj} (h : w.heap[b]? = some o) : b < w.heap.size := (Array.getElem?_eq_some_iff.1 h).1
theorem own_weakenms {lo lo' : Nat} {w : World} {bo : Nat} {ms : List Mnd} {k : Nat} (h : MndsOwn lo w bo ms k) (hl : lo' ≤ lo) : MndsOwn lo' w bo ms k := ⟨Nat.le_trans hl h.low, h.rows⟩
theorem own_weakents {ty : TypeId} {lo lo' : Nat} {w : World} {bo : Nat} {ts : List Tm} {k : Nat} (h : TmsOwn ty lo w bo ts k) (hl : lo' ≤ lo) : TmsOwn ty lo' w bo ts k := ⟨Nat.le_trans hl h.low, h.rows⟩

set_option maxHeartbeats 2000000 in
theorem toGateLaw_own (l : Lw) (a b c : Option Addr) (ca cb cc : Nat) (w : World) (hl : LwAt w l a b c) (hf : l.Few) :
    Calls Tryz.prog 7 #[.agg (l.cells a b c ca cb cc)] w fun e w' => ∃ lo a' b' c', e = .returned (.agg (l.cells (some ⟨a', 0, none⟩) (some ⟨b', 0, none⟩) (some ⟨c', 0, none⟩) l.ss.length l.ms.length l.ts.length)) ∧ w.heap.size ≤ lo ∧ LwOwn lo w' l a' b' c' ∧ Below w.heap.size w w' := by
  have HL : Hid (LwAt w l a b c) := hl
  have HF : Hid l.Few := hf
  clear hl hf
  unfold Lw.cells
  go_enter Tryz.func7, Tryz.ntmps7
  go_wp2_with fail
  have k0 := blk3 w (.cells #[.slice a l.ss.length ca, .slice b l.ms.length cb, .slice c l.ts.length cc] 26) (.cells #[.slice none 0 0, .slice none 0 0, .slice none 0 0] 40) (.cells #[.slice none 0 0, .slice none 0 0, .slice none 0 0] 40)
  have hB0 := below3' w (.cells #[.slice a l.ss.length ca, .slice b l.ms.length cb, .slice c l.ts.length cc] 26) (.cells #[.slice none 0 0, .slice none 0 0, .slice none 0 0] 40) (.cells #[.slice none 0 0, .slice none 0 0, .slice none 0 0] 40)
  obtain ⟨W0, hW0⟩ : ∃ W0, W0 = ((w.alloc (.cells #[.slice a l.ss.length ca, .slice b l.ms.length cb, .slice c l.ts.length cc] 26)).alloc (.cells #[.slice none 0 0, .slice none 0 0, .slice none 0 0] 40)).alloc (.cells #[.slice none 0 0, .slice none 0 0, .slice none 0 0] 40) := ⟨_, rfl⟩
  have hz0 : w.heap.size + 1 + 1 < W0.heap.size := by rw [hW0]; simp
  rw [← hW0] at k0 hB0 ⊢
  clear hW0
  have HLO : Hid (w.heap.size + 1 + 1 < W0.heap.size) := hz0
  refine (toGateShapeS_any _ _ l.ss _ (HL.out.ss.mono hB0) HF.out.ss.1 HF.out.ss.2).mono ?_
  rintro e w1 ⟨rfl, hown, hb⟩
  obtain ⟨a', ha'⟩ : ∃ a', a' = W0.heap.size := ⟨_, rfl⟩
  have HO1 : Hid (ShpsOwn W0.heap.size w1 a' l.ss l.ss.length) := by rw [ha']; exact hown
  have hX1 := (hb.block _ (by omega)).trans k0.1
  have hR1 := (hb.block _ (by omega)).trans k0.2.1
  have hO1 := (hb.block _ hz0).trans k0.2.2
  have HZ1 : Hid (W0.heap.size ≤ w1.heap.size) := hb.size
  have HB1 : Hid (Below w.heap.size w w1) := hB0.trans (hb.mono hB0.size)
  rw [← ha']
  clear hown hb k0 hB0 hz0 ha'
  have cO1 := fun j => cell_of_block (o := j) hO1
  have fO1 := fun j => frozen_of_block (o := j) hO1
  have HX1' : Hid ((w1.setCell ⟨w.heap.size + 1 + 1, 0, none⟩ (.slice (some ⟨a', 0, none⟩) l.ss.length l.ss.length)).heap[w.heap.size]? = some (.cells #[.slice a l.ss.length ca, .slice b l.ms.length cb, .slice c l.ts.length cc] 26)) := (setCell_other (by omega)).trans hX1
  have HR1' : Hid ((w1.setCell ⟨w.heap.size + 1 + 1, 0, none⟩ (.slice (some ⟨a', 0, none⟩) l.ss.length l.ss.length)).heap[w.heap.size + 1]? = some (.cells #[.slice none 0 0, .slice none 0 0, .slice none 0 0] 40)) := (setCell_other (by omega)).trans hR1
  have HO1' : Hid ((w1.setCell ⟨w.heap.size + 1 + 1, 0, none⟩ (.slice (some ⟨a', 0, none⟩) l.ss.length l.ss.length)).heap[w.heap.size + 1 + 1]? = some (.cells #[.slice (some ⟨a', 0, none⟩) l.ss.length l.ss.length, .slice none 0 0, .slice none 0 0] 40)) := heap_setCell_at hO1 _
  have HAB1 : Hid (Above W0.heap.size w1 (w1.setCell ⟨w.heap.size + 1 + 1, 0, none⟩ (.slice (some ⟨a', 0, none⟩) l.ss.length l.ss.length))) := Above.setCell HLO.out _
  have HBB1 : Hid (Below w.heap.size w (w1.setCell ⟨w.heap.size + 1 + 1, 0, none⟩ (.slice (some ⟨a', 0, none⟩) l.ss.length l.ss.length))) := HB1.out.setCell (by show w.heap.size ≤ w.heap.size + 1 + 1; omega) _
  have HZZ1 : Hid (W0.heap.size ≤ (w1.setCell ⟨w.heap.size + 1 + 1, 0, none⟩ (.slice (some ⟨a', 0, none⟩) l.ss.length l.ss.length)).heap.size) := by unfold Hid; rw [World.size_setCell]; exact HZ1.out
  clear hX1 hR1 hO1
  have cX1 := fun j => cell_of_block (o := j) HX1'.out
  have cR1 := fun j => cell_of_block (o := j) HR1'.out
  have fR1 := fun j => frozen_of_block (o := j) HR1'.out
  have cOO1 := fun j => cell_of_block (o := j) HO1'.out
  go_wp2_with fail
  refine (toGateMendS_any _ _ l.ms _ (HL.out.ms.mono HBB1.out) HF.out.ms).mono ?_
  rintro e w2 ⟨rfl, hown, hb⟩
  obtain ⟨b', hp'⟩ : ∃ b', b' = (w1.setCell ⟨w.heap.size + 1 + 1, 0, none⟩ (.slice (some ⟨a', 0, none⟩) l.ss.length l.ss.length)).heap.size := ⟨_, rfl⟩
  have HN2 : Hid (MndsOwn W0.heap.size w2 b' l.ms l.ms.length) := by rw [hp']; exact own_weakenms hown HZZ1.out
  have HAA2 : Hid (Above W0.heap.size w1 w2) := HAB1.out.trans (Above.below hb)
  have hX2 := (hb.block _ (lt_of_some HX1'.out)).trans HX1'.out
  have hR2 := (hb.block _ (lt_of_some HR1'.out)).trans HR1'.out
  have hO2 := (hb.block _ (lt_of_some HO1'.out)).trans HO1'.out
  have HZ2 : Hid (W0.heap.size ≤ w2.heap.size) := Nat.le_trans HZZ1.out hb.size
  have HB2 : Hid (Below w.heap.size w w2) := HBB1.out.trans (hb.mono HBB1.out.size)
  rw [← hp']
  clear hown hb hp' cX1 cR1 fR1 cOO1
  have cO2 := fun j => cell_of_block (o := j) hO2
  have fO2 := fun j => frozen_of_block (o := j) hO2
  have HX2' : Hid ((w2.setCell ⟨w.heap.size + 1 + 1, 1, none⟩ (.slice (some ⟨b', 0, none⟩) l.ms.length l.ms.length)).heap[w.heap.size]? = some (.cells #[.slice a l.ss.length ca, .slice b l.ms.length cb, .slice c l.ts.length cc] 26)) := (setCell_other (by omega)).trans hX2
  have HR2' : Hid ((w2.setCell ⟨w.heap.size + 1 + 1, 1, none⟩ (.slice (some ⟨b', 0, none⟩) l.ms.length l.ms.length)).heap[w.heap.size + 1]? = some (.cells #[.slice none 0 0, .slice none 0 0, .slice none 0 0] 40)) := (setCell_other (by omega)).trans hR2
  have HO2' : Hid ((w2.setCell ⟨w.heap.size + 1 + 1, 1, none⟩ (.slice (some ⟨b', 0, none⟩) l.ms.length l.ms.length)).heap[w.heap.size + 1 + 1]? = some (.cells #[.slice (some ⟨a', 0, none⟩) l.ss.length l.ss.length, .slice (some ⟨b', 0, none⟩) l.ms.length l.ms.length, .slice none 0 0] 40)) := heap_setCell_at hO2 _
  have HAB2 : Hid (Above W0.heap.size w2 (w2.setCell ⟨w.heap.size + 1 + 1, 1, none⟩ (.slice (some ⟨b', 0, none⟩) l.ms.length l.ms.length))) := Above.setCell HLO.out _
  have HBB2 : Hid (Below w.heap.size w (w2.setCell ⟨w.heap.size + 1 + 1, 1, none⟩ (.slice (some ⟨b', 0, none⟩) l.ms.length l.ms.length))) := HB2.out.setCell (by show w.heap.size ≤ w.heap.size + 1 + 1; omega) _
  have HZZ2 : Hid (W0.heap.size ≤ (w2.setCell ⟨w.heap.size + 1 + 1, 1, none⟩ (.slice (some ⟨b', 0, none⟩) l.ms.length l.ms.length)).heap.size) := by unfold Hid; rw [World.size_setCell]; exact HZ2.out
  clear hX2 hR2 hO2
  have cX2 := fun j => cell_of_block (o := j) HX2'.out
  have cR2 := fun j => cell_of_block (o := j) HR2'.out
  have fR2 := fun j => frozen_of_block (o := j) HR2'.out
  have cOO2 := fun j => cell_of_block (o := j) HO2'.out
  go_wp2_with fail
  refine (toGateTeamS_any _ _ l.ts _ (HL.out.ts.mono HBB2.out) HF.out.ts).mono ?_
  rintro e w3 ⟨rfl, hown, hb⟩
  obtain ⟨c', hp'⟩ : ∃ c', c' = (w2.setCell ⟨w.heap.size + 1 + 1, 1, none⟩ (.slice (some ⟨b', 0, none⟩) l.ms.length l.ms.length)).heap.size := ⟨_, rfl⟩
  have HN3 : Hid (TmsOwn 92 W0.heap.size w3 c' l.ts l.ts.length) := by rw [hp']; exact own_weakents hown HZZ2.out
  have HAA3 : Hid (Above W0.heap.size w2 w3) := HAB2.out.trans (Above.below hb)
  have hX3 := (hb.block _ (lt_of_some HX2'.out)).trans HX2'.out
  have hR3 := (hb.block _ (lt_of_some HR2'.out)).trans HR2'.out
  have hO3 := (hb.block _ (lt_of_some HO2'.out)).trans HO2'.out
  have HZ3 : Hid (W0.heap.size ≤ w3.heap.size) := Nat.le_trans HZZ2.out hb.size
  have HB3 : Hid (Below w.heap.size w w3) := HBB2.out.trans (hb.mono HBB2.out.size)
  rw [← hp']
  clear hown hb hp' cX2 cR2 fR2 cOO2
  have cO3 := fun j => cell_of_block (o := j) hO3
  have fO3 := fun j => frozen_of_block (o := j) hO3
  have HX3' : Hid ((w3.setCell ⟨w.heap.size + 1 + 1, 2, none⟩ (.slice (some ⟨c', 0, none⟩) l.ts.length l.ts.length)).heap[w.heap.size]? = some (.cells #[.slice a l.ss.length ca, .slice b l.ms.length cb, .slice c l.ts.length cc] 26)) := (setCell_other (by omega)).trans hX3
  have HR3' : Hid ((w3.setCell ⟨w.heap.size + 1 + 1, 2, none⟩ (.slice (some ⟨c', 0, none⟩) l.ts.length l.ts.length)).heap[w.heap.size + 1]? = some (.cells #[.slice none 0 0, .slice none 0 0, .slice none 0 0] 40)) := (setCell_other (by omega)).trans hR3
  have HO3' : Hid ((w3.setCell ⟨w.heap.size + 1 + 1, 2, none⟩ (.slice (some ⟨c', 0, none⟩) l.ts.length l.ts.length)).heap[w.heap.size + 1 + 1]? = some (.cells #[.slice (some ⟨a', 0, none⟩) l.ss.length l.ss.length, .slice (some ⟨b', 0, none⟩) l.ms.length l.ms.length, .slice (some ⟨c', 0, none⟩) l.ts.length l.ts.length] 40)) := heap_setCell_at hO3 _
  have HAB3 : Hid (Above W0.heap.size w3 (w3.setCell ⟨w.heap.size + 1 + 1, 2, none⟩ (.slice (some ⟨c', 0, none⟩) l.ts.length l.ts.length))) := Above.setCell HLO.out _
  have HBB3 : Hid (Below w.heap.size w (w3.setCell ⟨w.heap.size + 1 + 1, 2, none⟩ (.slice (some ⟨c', 0, none⟩) l.ts.length l.ts.length))) := HB3.out.setCell (by show w.heap.size ≤ w.heap.size + 1 + 1; omega) _
  have HZZ3 : Hid (W0.heap.size ≤ (w3.setCell ⟨w.heap.size + 1 + 1, 2, none⟩ (.slice (some ⟨c', 0, none⟩) l.ts.length l.ts.length)).heap.size) := by unfold Hid; rw [World.size_setCell]; exact HZ3.out
  clear hX3 hR3 hO3
  have cX3 := fun j => cell_of_block (o := j) HX3'.out
  have cR3 := fun j => cell_of_block (o := j) HR3'.out
  have fR3 := fun j => frozen_of_block (o := j) HR3'.out
  have cOO3 := fun j => cell_of_block (o := j) HO3'.out
  go_wp2_with fail
  refine bodyPost_ret (v := .agg #[.slice (some ⟨a', 0, none⟩) l.ss.length l.ss.length, .slice (some ⟨b', 0, none⟩) l.ms.length l.ms.length, .slice (some ⟨c', 0, none⟩) l.ts.length l.ts.length]) (by simp [results, Tryz.results7, go_sem, cR3]) rfl ⟨W0.heap.size, a', b', c', rfl, by have := HLO.out; omega, ?_, ?_⟩
  · have hlt1 : w.heap.size + 1 < W0.heap.size := by have := HLO.out; omega
    have hA3 : ∀ v0 v1 v2, Above W0.heap.size w3 ((((w3.setCell ⟨w.heap.size + 1 + 1, 2, none⟩ (.slice (some ⟨c', 0, none⟩) l.ts.length l.ts.length)).setCell ⟨w.heap.size + 1, 0, none⟩ v0).setCell ⟨w.heap.size + 1, 1, none⟩ v1).setCell ⟨w.heap.size + 1, 2, none⟩ v2) := fun v0 v1 v2 => HAB3.out.trans (((Above.setCell (p := ⟨w.heap.size + 1, 0, none⟩) hlt1 v0).trans (Above.setCell (p := ⟨w.heap.size + 1, 1, none⟩) hlt1 v1)).trans (Above.setCell (p := ⟨w.heap.size + 1, 2, none⟩) hlt1 v2))
    exact ⟨HO1.out.above ((HAA2.out.trans HAA3.out).trans (hA3 _ _ _)), HN2.out.above (HAA3.out.trans (hA3 _ _ _)), HN3.out.above (hA3 _ _ _)⟩
  · exact ((HBB3.out.setCell (Nat.le_succ _) _).setCell (Nat.le_succ _) _).setCell (Nat.le_succ _) _

theorem toGateLaw_any (l : Lw) (a b c : Option Addr) (ca cb cc : Nat) (w : World) (hl : LwAt w l a b c) (hf : l.Few) :
    Calls Tryz.prog 7 #[.agg (l.cells a b c ca cb cc)] w fun e w' => ∃ a' b' c', e = .returned (.agg (l.cells a' b' c' l.ss.length l.ms.length l.ts.length)) ∧ LwAt w' l a' b' c' ∧ Below w.heap.size w w' := by
  refine (toGateLaw_own l a b c ca cb cc w hl hf).mono ?_
  rintro e w' ⟨lo, a', b', c', he, _, ho, hb⟩
  exact ⟨_, _, _, he, ho.at hl.small, hb⟩

end Go.Proofs.YtpmlngcljbkchaaGreat

namespace Go.Proofs.YtpmlngcljbkchaaGreat
open Go.RowKit

set_option maxHeartbeats 1000000 in
theorem linkSound_any (nm : ByteArray) (ls ms : Int) (a : Option Addr) (cap : Nat) (ws : List ByteArray) (to : ByteArray) (rl : Int) (mu fx : Bool) (df wg : ByteArray) (a0 : Option Addr) (cap0 : Nat) (ss : List Shp) (w : World) (hw : ShpsAt w a0 ss) :
    Calls Tryz.prog 169 #[.agg #[.string nm, .int .i64 4, .int .i64 ls, .int .i64 ms, .slice a ws.length cap, .string to, .int .i64 rl, .bool mu, .bool fx, .string df, .string wg], .slice a0 ss.length cap0] w fun e w' => e = .returned (.bool (Gate.soundOf ss ⟨nm, 4, ls, ms, ws, to, rl, mu, fx, df, wg⟩)) ∧ Below w.heap.size w w' := by
  have HF : Hid (Gate.soundOf ss ⟨nm, 4, ls, ms, ws, to, rl, mu, fx, df, wg⟩ = (Gate.hasKind ss to && (decide (1 ≤ rl) && decide (rl ≤ 3)) && df.toList.isEmpty && (decide (rl ≠ 2) || !mu))) := by simp [Gate.soundOf, Hid]
  by_cases hk : Gate.hasKind ss to = true
  rotate_left
  · have hk' : Gate.hasKind ss to = false := by simpa using hk
    have HK : Hid (Gate.hasKind ss to = false) := hk'
    clear hk hk'
    go_enter Tryz.func169, Tryz.ntmps169
    go_wp2_with fail
    refine (shapeOf_any _ _ _ _ _ (hw.mono ((Below.refl _ _).alloc (Nat.le_refl _) _))).mono ?_
    rintro e w1 ⟨fa, fcap, rfl, _, hb1⟩
    rw [HK.out]
    have hX1 := box_later (box_new w _ _) (by simp) hb1
    have hz1 : w.heap.size < w1.heap.size := by have := hb1.size; simp at this; omega
    have hB1 : Below w.heap.size w w1 := ((Below.refl _ _).alloc (Nat.le_refl _) _).trans (hb1.mono (by simp))
    clear hb1 hw
    go_wp2_with fail
    go_ret
    exact ⟨ret_bool (by rw [HF.out, HK.out]; rfl), hB1.alloc (by omega) _⟩
  have HK : Hid (Gate.hasKind ss to = true) := hk
  clear hk
  by_cases hd : df.toList.isEmpty = true
  rotate_left
  · have hd' : df.toList.isEmpty = false := by simpa using hd
    clear hd
    go_enter Tryz.func169, Tryz.ntmps169
    go_wp2_with fail
    refine (shapeOf_any _ _ _ _ _ (hw.mono ((Below.refl _ _).alloc (Nat.le_refl _) _))).mono ?_
    rintro e w1 ⟨fa, fcap, rfl, _, hb1⟩
    rw [HK.out]
    have hX1 := box_later (box_new w _ _) (by simp) hb1
    have hz1 : w.heap.size < w1.heap.size := by have := hb1.size; simp at this; omega
    have hB1 : Below w.heap.size w w1 := ((Below.refl _ _).alloc (Nat.le_refl _) _).trans (hb1.mono (by simp))
    clear hb1 hw
    go_wp2_with fail
    go_ret
    exact ⟨ret_bool (by rw [HF.out, HK.out, hd']; simp), hB1.alloc (by omega) _⟩
  by_cases h1 : rl = 1
  · subst h1
    go_enter Tryz.func169, Tryz.ntmps169
    go_wp2_with fail
    refine (shapeOf_any _ _ _ _ _ (hw.mono ((Below.refl _ _).alloc (Nat.le_refl _) _))).mono ?_
    rintro e w1 ⟨fa, fcap, rfl, _, hb1⟩
    rw [HK.out]
    have hX1 := box_later (box_new w _ _) (by simp) hb1
    have hz1 : w.heap.size < w1.heap.size := by have := hb1.size; simp at this; omega
    have hB1 : Below w.heap.size w w1 := ((Below.refl _ _).alloc (Nat.le_refl _) _).trans (hb1.mono (by simp))
    clear hb1 hw
    go_wp2_with fail
    go_ret
    exact ⟨ret_bool (by rw [HF.out, HK.out, hd]; rfl), hB1.alloc (by omega) _⟩
  by_cases h3 : rl = 3
  · subst h3
    go_enter Tryz.func169, Tryz.ntmps169
    go_wp2_with fail
    refine (shapeOf_any _ _ _ _ _ (hw.mono ((Below.refl _ _).alloc (Nat.le_refl _) _))).mono ?_
    rintro e w1 ⟨fa, fcap, rfl, _, hb1⟩
    rw [HK.out]
    have hX1 := box_later (box_new w _ _) (by simp) hb1
    have hz1 : w.heap.size < w1.heap.size := by have := hb1.size; simp at this; omega
    have hB1 : Below w.heap.size w w1 := ((Below.refl _ _).alloc (Nat.le_refl _) _).trans (hb1.mono (by simp))
    clear hb1 hw
    go_wp2_with fail
    go_ret
    exact ⟨ret_bool (by rw [HF.out, HK.out, hd]; rfl), hB1.alloc (by omega) _⟩
  by_cases h2 : rl = 2
  · subst h2
    clear h1 h3
    go_enter Tryz.func169, Tryz.ntmps169
    go_wp2_with fail
    refine (shapeOf_any _ _ _ _ _ (hw.mono ((Below.refl _ _).alloc (Nat.le_refl _) _))).mono ?_
    rintro e w1 ⟨fa, fcap, rfl, _, hb1⟩
    rw [HK.out]
    have hX1 := box_later (box_new w _ _) (by simp) hb1
    have hz1 : w.heap.size < w1.heap.size := by have := hb1.size; simp at this; omega
    have hB1 : Below w.heap.size w w1 := ((Below.refl _ _).alloc (Nat.le_refl _) _).trans (hb1.mono (by simp))
    clear hb1 hw
    go_wp2_with fail
    go_ret
    exact ⟨ret_bool (by rw [HF.out, HK.out, hd]; rfl), hB1.alloc (by omega) _⟩
  · have HR : Hid ((decide (1 ≤ rl) && decide (rl ≤ 3)) = false) := by unfold Hid; rw [Bool.eq_false_iff]; simp; omega
    have e1 : (rl == 1) = false := by simpa using h1
    have e2 : (rl == 2) = false := by simpa using h2
    have e3 : (rl == 3) = false := by simpa using h3
    clear h1 h2 h3
    go_enter Tryz.func169, Tryz.ntmps169
    go_wp2_with fail
    refine (shapeOf_any _ _ _ _ _ (hw.mono ((Below.refl _ _).alloc (Nat.le_refl _) _))).mono ?_
    rintro e w1 ⟨fa, fcap, rfl, _, hb1⟩
    rw [HK.out]
    have hX1 := box_later (box_new w _ _) (by simp) hb1
    have hz1 : w.heap.size < w1.heap.size := by have := hb1.size; simp at this; omega
    have hB1 : Below w.heap.size w w1 := ((Below.refl _ _).alloc (Nat.le_refl _) _).trans (hb1.mono (by simp))
    clear hb1 hw
    go_wp2_with fail
    go_ret
    exact ⟨ret_bool (by rw [HF.out, HK.out, HR.out]; simp), hB1.alloc (by omega) _⟩

end Go.Proofs.YtpmlngcljbkchaaGreat
