import Derived.Test.YtembogcnkfndjaaDoorM07
import Derived.Laws.BitsAllLaws
import Derived.Test.YtembogcnkfndjaaDoorM02
import Derived.ChangeSlices
import Derived.Lib.QuoteBits
namespace Go.Proofs.YtembogcnkfndjaaDoor
open Go.RowKit

theorem i64_xor_nat (a b : Nat) (ha : a < 4294967296) (hb : b < 4294967296) : bits .xor .i64 (a : Int) (b : Int) = ((a ^^^ b : Nat) : Int) := by
  have hx : a ^^^ b < 2 ^ 32 := Nat.xor_lt_two_pow (by omega) (by omega)
  have h1 : (BitVec.ofInt 64 (a : Int)).toNat = a := by
    rw [BitVec.ofInt_natCast, BitVec.toNat_ofNat]; exact Nat.mod_eq_of_lt (by omega)
  have h2 : (BitVec.ofInt 64 (b : Int)).toNat = b := by
    rw [BitVec.ofInt_natCast, BitVec.toNat_ofNat]; exact Nat.mod_eq_of_lt (by omega)
  show IntKind.i64.wrap ((BitVec.ofInt 64 (a : Int) ^^^ BitVec.ofInt 64 (b : Int)).toNat : Int) = _
  rw [BitVec.toNat_xor, h1, h2]
  simp only [IntKind.wrap, IntKind.bits, IntKind.signed]
  simp
  omega
theorem i64_xor (a b : Int) (h1 : 0 ≤ a) (h2 : a < 4294967296) (h3 : 0 ≤ b) (h4 : b < 4294967296) : bits .xor .i64 a b = ((a.toNat ^^^ b.toNat : Nat) : Int) := by
  obtain ⟨A, rfl⟩ := Int.eq_ofNat_of_zero_le h1
  obtain ⟨B, rfl⟩ := Int.eq_ofNat_of_zero_le h3
  simpa using i64_xor_nat A B (by omega) (by omega)

set_option maxRecDepth 20000 in
set_option maxHeartbeats 4000000 in
theorem pick_any (n : Int) (r p : Nat) (w : World) (hn : 1 ≤ n) (hN : n ≤ 1048576) (hp : p ≤ 50000) (hr : RdAt w r p) :
    Calls Tryd.prog 14 #[.pointer (some ⟨r, 0, none⟩), .int .i64 n] w fun e w' => ∃ k : Nat, e = .returned (.int .i64 (k : Int)) ∧ (k : Int) < n ∧ RdAt w' r (p + 1) ∧ w'.heap.size = w.heap.size ∧ Below w.heap.size (clr r w) (clr r w') := by
  obtain ⟨a, m, cap, hm, hb, hu⟩ := hr.rd
  have c0 : w.cell? ⟨r, 0, none⟩ = some (.slice a m cap) := cell_of_block hb
  have c1 : w.cell? ⟨r, 1, none⟩ = some (.int .i64 (p : Int)) := cell_of_block hb
  have f1 : w.frozen? ⟨r, 1, none⟩ = false := frozen_of_block hb
  have hnl : decide (n < 1) = false := by simp; omega
  have hlt := hr.lt
  have HR : Hid (RdAt (w.setCell ⟨r, 1, none⟩ (.int .i64 ((p : Int) + 1))) r (p + 1)) := by
    refine ⟨a, m, cap, hm, (heap_setCell_at hb _).trans (by simp), fun hp => ?_⟩
    obtain ⟨b, off, ha, hbr, hc⟩ := hu hp
    refine ⟨b, off, ha, hbr, fun i hi => ?_⟩
    obtain ⟨x, x0, x1, hx⟩ := hc i hi
    refine ⟨x, x0, x1, ?_⟩
    simp only [World.cell?, setCell_other (by omega : b ≠ r)]
    exact hx
  have HB : Hid (Below w.heap.size (clr r w) (clr r (w.setCell ⟨r, 1, none⟩ (.int .i64 ((p : Int) + 1))))) := clr_setCell r _ w _ _
  clear hb hr
  rcases Nat.eq_zero_or_pos m with h0 | h0
  · subst h0
    clear hu
    go_enter Tryd.func14, Tryd.ntmps14
    go_wp2_with fail
    go_ret
    exact ⟨0, rfl, by omega, HR.out, by simp, HB.out⟩
  · obtain ⟨bb, off, rfl, hbb, hc⟩ := hu h0
    have hne : bb ≠ r := by omega
    clear hu
    have hm0 : ((m : Int) == 0) = false := by simp; omega
    by_cases hk : p < m
    · obtain ⟨x, x0, x1, hx⟩ := hc p hk
      have hpm : (p : Int) < (m : Int) := by omega
      clear hc
      have hn0 : (n == 0) = false := by simp; omega
      go_enter Tryd.func14, Tryd.ntmps14
      go_wp2_with fail
      go_ret
      have e1 := Int.emod_nonneg x (by omega : n ≠ 0)
      have e2 := Int.emod_lt_of_pos x (by omega : 0 < n)
      exact ⟨(x % n).toNat, ret_int (Int.toNat_of_nonneg e1).symm, by omega, HR.out, by simp, HB.out⟩
    · have hpm : ¬ (p : Int) < (m : Int) := by omega
      go_enter Tryd.func14, Tryd.ntmps14
      have g1 : p % m < m := Nat.mod_lt _ h0
      have g2 : (p * 7 + 3) % m < m := Nat.mod_lt _ h0
      obtain ⟨x, x0, x1, hx⟩ := hc (p % m) g1
      obtain ⟨y, y0, y1, hy⟩ := hc ((p * 7 + 3) % m) g2
      clear hc
      have hn0 : (n == 0) = false := by simp; omega
      have i1 := Int.emod_nonneg (p : Int) (by omega : (m : Int) ≠ 0)
      have i2 := Int.emod_lt_of_pos (p : Int) (by omega : (0 : Int) < m)
      have i3 := Int.emod_nonneg ((p : Int) * 7 + 3) (by omega : (m : Int) ≠ 0)
      have i4 := Int.emod_lt_of_pos ((p : Int) * 7 + 3) (by omega : (0 : Int) < m)
      have i5 : 0 ≤ (p : Int) / (m : Int) := Int.ediv_nonneg (by omega) (by omega)
      have i6 : (p : Int) / (m : Int) ≤ p := Int.ediv_le_self _ (by omega)
      have j1 : ((p : Int) % (m : Int)).toNat = p % m := by omega
      have j2 : (((p : Int) * 7 + 3) % (m : Int)).toNat = (p * 7 + 3) % m := by
        have e : ((p : Int) * 7 + 3) % (m : Int) = (((p * 7 + 3) % m : Nat) : Int) := by push_cast; rfl
        rw [e]; rfl
      go_wp2_with fail
      go_quiet (fail)
      obtain ⟨X, hX⟩ : ∃ X : Int, X = x * 131 + y * 1117 + (p : Int) * 29 + (p : Int) / (m : Int) * 53 := ⟨_, rfl⟩
      have X0 : 0 ≤ X := by omega
      have X1 : X ≤ 100000000 := by omega
      have X2 : 0 ≤ X / 64 := by omega
      rw [← hX]
      clear hX i1 i2 i3 i4 i5 i6 j1 j2 hx hy c0 c1 f1
      go_wp2_with fail
      go_ret
      rw [i64_xor X (X / 64) X0 (by omega) X2 (by omega)]
      obtain ⟨Y, hY⟩ : ∃ Y : Nat, Y = X.toNat ^^^ (X / 64).toNat := ⟨_, rfl⟩
      rw [← hY]
      have e1 : ((Y : Int).tmod n) = (Y : Int) % n := Int.tmod_eq_emod_of_nonneg (by omega)
      have e2 := Int.emod_nonneg (Y : Int) (by omega : n ≠ 0)
      have e3 := Int.emod_lt_of_pos (Y : Int) (by omega : 0 < n)
      refine ⟨((Y : Int) % n).toNat, ret_int (e1.trans (Int.toNat_of_nonneg e2).symm), by omega, HR.out.mono (below_drewN (Below.refl _ _) _), by simp, ?_⟩
      exact HB.out.trans ((below_clr (below_drewN (Below.refl (w.setCell ⟨r, 1, none⟩ (.int .i64 ((p : Int) + 1))).heap.size _) _)).mono (by simp))

set_option maxHeartbeats 1000000 in
theorem of_any (a : Option Addr) (cap : Nat) (ss : List ByteArray) (r p : Nat) (w : World) (hs : StrsAt w a ss) (hne : ss ≠ []) (hl : ss.length ≤ 1000) (hp : p ≤ 50000) (hr : RdAt w r p) (hap : ∀ b off, a = some ⟨b, off, none⟩ → b ≠ r) :
    Calls Tryd.prog 32 #[.pointer (some ⟨r, 0, none⟩), .slice a ss.length cap] w fun e w' => ∃ s ∈ ss, e = .returned (.string s) ∧ RdAt w' r (p + 1) ∧ w'.heap.size = w.heap.size ∧ Below w.heap.size (clr r w) (clr r w') := by
  have hpos : 0 < ss.length := List.length_pos_iff.2 hne
  obtain ⟨b, off, rfl, hb, hc⟩ := hs.cells hne
  have hbr := hap b off rfl
  go_enter Tryd.func32, Tryd.ntmps32
  go_wp2_with fail
  refine (pick_any (ss.length : Int) r p w (by omega) (by omega) hp hr).mono ?_
  rintro e w1 ⟨k, rfl, hk, hr1, hz, hB⟩
  have hk' : k < ss.length := by omega
  have c0 : w1.cell? ⟨b, off + k, none⟩ = some (.string ss[k]) := by
    refine unclr (r := r) ?_
    rw [hB.cell (p := ⟨b, off + k, none⟩) hb]
    simp only [World.cell?, clr_other w hbr]
    exact hc k hk'
  go_wp2_with fail
  go_ret
  exact ⟨ss[k], List.getElem_mem hk', rfl, hr1, hz, hB⟩

end Go.Proofs.YtembogcnkfndjaaDoor

namespace Go.Proofs.YtembogcnkfndjaaDoor
open Go.RowKit

theorem Gate.kd_cases (s : ByteArray) : s.toList.isEmpty = true ∨ (s.toList.isEmpty = false ∧ Hid (Gate.nameOk s = true)) ∨ (s.toList.isEmpty = false ∧ Hid (Gate.nameOk s = false)) := by
  by_cases h : s.toList.isEmpty = true
  · exact Or.inl h
  · by_cases h2 : Gate.nameOk s = true
    · exact Or.inr (Or.inl ⟨by simpa using h, h2⟩)
    · exact Or.inr (Or.inr ⟨by simpa using h, by simpa [Hid] using h2⟩)

set_option maxHeartbeats 2000000 in
theorem isRule_any (r : Rl) (a : Option Addr) (cap : Nat) (w : World) (hm : r.Small) (hw : IntsAt w a r.vs) :
    Calls Tryd.prog 18 #[.agg (r.cells a cap)] w fun e w' => e = .returned (.bool (Gate.ruleOk r)) ∧ Below w.heap.size w w' := by
  have hskd := hm.kd
  have hstm := hm.tm
  have hspx := hm.px
  have hpx := hm.px
  unfold maxLen at hpx
  unfold Rl.cells
  have HB : Hid (∀ ob, Below w.heap.size w (w.alloc ob)) := fun ob => (Below.refl _ _).alloc (Nat.le_refl _) _
  have HI : Hid (∀ ob, IntsAt (w.alloc ob) a r.vs) := fun ob => hw.mono (HB.out ob)
  clear hw hm
  rcases Gate.kd_cases r.kd with hk | ⟨hk, HK⟩ | ⟨hk, HK⟩
  · rcases Gate.kd_cases r.tm with ht | ⟨ht, HT⟩ | ⟨ht, HT⟩
    · have HKD : Hid (Gate.kindsOk r = true) := by unfold Hid Gate.kindsOk; rw [hk, ht]; simp
      by_cases hv : Gate.verbsOk r.vs = true
      rotate_left
      · have HV : Hid (Gate.verbsOk r.vs = false) := by simpa [Hid] using hv
        have HF : Hid (Gate.ruleOk r = false) := by unfold Hid Gate.ruleOk; rw [HV.out]; simp
        clear hv
        go_enter Tryd.func18, Tryd.ntmps18
        go_wp2_with (first | (go_at_call 39; refine (as_bool HV.out (areVerbs_any _ _ r.vs _ (by exact HI.out _))).mono ?_; rintro e w' ⟨rfl, rfl⟩))
        go_ret
        exact ⟨ret_bool HF.out.symm, HB.out _⟩
      have HV : Hid (Gate.verbsOk r.vs = true) := hv
      clear hv
      by_cases h16 : r.px.size ≤ 16
      · have HF : Hid (Gate.ruleOk r = Gate.allName r.px) := by unfold Hid Gate.ruleOk; rw [HKD.out, HV.out, decide_eq_true h16]; rfl
        have h16I : (r.px.size : Int) ≤ 16 := by omega
        clear h16
        go_enter Tryd.func18, Tryd.ntmps18
        go_wp2_with (first | (go_at_call 39; refine (as_bool HV.out (areVerbs_any _ _ r.vs _ (by exact HI.out _))).mono ?_; rintro e w' ⟨rfl, rfl⟩) | (go_at_call 40; refine (isNameBytes_any r.px _ hspx).mono ?_; rintro e w' ⟨rfl, rfl⟩))
        go_ret
        exact ⟨ret_bool HF.out.symm, HB.out _⟩
      · have HF : Hid (Gate.ruleOk r = false) := by unfold Hid Gate.ruleOk; rw [decide_eq_false h16]; simp
        have h16I : decide ((r.px.size : Int) ≤ 16) = false := by simp; omega
        clear h16
        go_enter Tryd.func18, Tryd.ntmps18
        go_wp2_with (first | (go_at_call 39; refine (as_bool HV.out (areVerbs_any _ _ r.vs _ (by exact HI.out _))).mono ?_; rintro e w' ⟨rfl, rfl⟩))
        go_ret
        exact ⟨ret_bool HF.out.symm, HB.out _⟩
    · have HKD : Hid (Gate.kindsOk r = true) := by unfold Hid Gate.kindsOk; rw [hk, HT.out]; simp
      by_cases hv : Gate.verbsOk r.vs = true
      rotate_left
      · have HV : Hid (Gate.verbsOk r.vs = false) := by simpa [Hid] using hv
        have HF : Hid (Gate.ruleOk r = false) := by unfold Hid Gate.ruleOk; rw [HV.out]; simp
        clear hv
        go_enter Tryd.func18, Tryd.ntmps18
        go_wp2_with (first | (go_at_call_of 34 (Value.string r.tm); refine (as_bool HT.out (isName_any r.tm _ hstm)).mono ?_; rintro e w' ⟨rfl, rfl⟩) | (go_at_call 39; refine (as_bool HV.out (areVerbs_any _ _ r.vs _ (by exact HI.out _))).mono ?_; rintro e w' ⟨rfl, rfl⟩))
        go_ret
        exact ⟨ret_bool HF.out.symm, HB.out _⟩
      have HV : Hid (Gate.verbsOk r.vs = true) := hv
      clear hv
      by_cases h16 : r.px.size ≤ 16
      · have HF : Hid (Gate.ruleOk r = Gate.allName r.px) := by unfold Hid Gate.ruleOk; rw [HKD.out, HV.out, decide_eq_true h16]; rfl
        have h16I : (r.px.size : Int) ≤ 16 := by omega
        clear h16
        go_enter Tryd.func18, Tryd.ntmps18
        go_wp2_with (first | (go_at_call_of 34 (Value.string r.tm); refine (as_bool HT.out (isName_any r.tm _ hstm)).mono ?_; rintro e w' ⟨rfl, rfl⟩) | (go_at_call 39; refine (as_bool HV.out (areVerbs_any _ _ r.vs _ (by exact HI.out _))).mono ?_; rintro e w' ⟨rfl, rfl⟩) | (go_at_call 40; refine (isNameBytes_any r.px _ hspx).mono ?_; rintro e w' ⟨rfl, rfl⟩))
        go_ret
        exact ⟨ret_bool HF.out.symm, HB.out _⟩
      · have HF : Hid (Gate.ruleOk r = false) := by unfold Hid Gate.ruleOk; rw [decide_eq_false h16]; simp
        have h16I : decide ((r.px.size : Int) ≤ 16) = false := by simp; omega
        clear h16
        go_enter Tryd.func18, Tryd.ntmps18
        go_wp2_with (first | (go_at_call_of 34 (Value.string r.tm); refine (as_bool HT.out (isName_any r.tm _ hstm)).mono ?_; rintro e w' ⟨rfl, rfl⟩) | (go_at_call 39; refine (as_bool HV.out (areVerbs_any _ _ r.vs _ (by exact HI.out _))).mono ?_; rintro e w' ⟨rfl, rfl⟩))
        go_ret
        exact ⟨ret_bool HF.out.symm, HB.out _⟩
    · have HF : Hid (Gate.ruleOk r = false) := by unfold Hid Gate.ruleOk Gate.kindsOk; rw [ht, HT.out]; simp
      go_enter Tryd.func18, Tryd.ntmps18
      go_wp2_with (first | (go_at_call_of 34 (Value.string r.tm); refine (as_bool HT.out (isName_any r.tm _ hstm)).mono ?_; rintro e w' ⟨rfl, rfl⟩))
      go_ret
      exact ⟨ret_bool HF.out.symm, HB.out _⟩
  · rcases Gate.kd_cases r.tm with ht | ⟨ht, HT⟩ | ⟨ht, HT⟩
    · have HKD : Hid (Gate.kindsOk r = true) := by unfold Hid Gate.kindsOk; rw [HK.out, ht]; simp
      by_cases hv : Gate.verbsOk r.vs = true
      rotate_left
      · have HV : Hid (Gate.verbsOk r.vs = false) := by simpa [Hid] using hv
        have HF : Hid (Gate.ruleOk r = false) := by unfold Hid Gate.ruleOk; rw [HV.out]; simp
        clear hv
        go_enter Tryd.func18, Tryd.ntmps18
        go_wp2_with (first | (go_at_call_of 34 (Value.string r.kd); refine (as_bool HK.out (isName_any r.kd _ hskd)).mono ?_; rintro e w' ⟨rfl, rfl⟩) | (go_at_call 39; refine (as_bool HV.out (areVerbs_any _ _ r.vs _ (by exact HI.out _))).mono ?_; rintro e w' ⟨rfl, rfl⟩))
        go_ret
        exact ⟨ret_bool HF.out.symm, HB.out _⟩
      have HV : Hid (Gate.verbsOk r.vs = true) := hv
      clear hv
      by_cases h16 : r.px.size ≤ 16
      · have HF : Hid (Gate.ruleOk r = Gate.allName r.px) := by unfold Hid Gate.ruleOk; rw [HKD.out, HV.out, decide_eq_true h16]; rfl
        have h16I : (r.px.size : Int) ≤ 16 := by omega
        clear h16
        go_enter Tryd.func18, Tryd.ntmps18
        go_wp2_with (first | (go_at_call_of 34 (Value.string r.kd); refine (as_bool HK.out (isName_any r.kd _ hskd)).mono ?_; rintro e w' ⟨rfl, rfl⟩) | (go_at_call 39; refine (as_bool HV.out (areVerbs_any _ _ r.vs _ (by exact HI.out _))).mono ?_; rintro e w' ⟨rfl, rfl⟩) | (go_at_call 40; refine (isNameBytes_any r.px _ hspx).mono ?_; rintro e w' ⟨rfl, rfl⟩))
        go_ret
        exact ⟨ret_bool HF.out.symm, HB.out _⟩
      · have HF : Hid (Gate.ruleOk r = false) := by unfold Hid Gate.ruleOk; rw [decide_eq_false h16]; simp
        have h16I : decide ((r.px.size : Int) ≤ 16) = false := by simp; omega
        clear h16
        go_enter Tryd.func18, Tryd.ntmps18
        go_wp2_with (first | (go_at_call_of 34 (Value.string r.kd); refine (as_bool HK.out (isName_any r.kd _ hskd)).mono ?_; rintro e w' ⟨rfl, rfl⟩) | (go_at_call 39; refine (as_bool HV.out (areVerbs_any _ _ r.vs _ (by exact HI.out _))).mono ?_; rintro e w' ⟨rfl, rfl⟩))
        go_ret
        exact ⟨ret_bool HF.out.symm, HB.out _⟩
    · have HKD : Hid (Gate.kindsOk r = true) := by unfold Hid Gate.kindsOk; rw [HK.out, HT.out]; simp
      by_cases hv : Gate.verbsOk r.vs = true
      rotate_left
      · have HV : Hid (Gate.verbsOk r.vs = false) := by simpa [Hid] using hv
        have HF : Hid (Gate.ruleOk r = false) := by unfold Hid Gate.ruleOk; rw [HV.out]; simp
        clear hv
        go_enter Tryd.func18, Tryd.ntmps18
        go_wp2_with (first | (go_at_call_of 34 (Value.string r.kd); refine (as_bool HK.out (isName_any r.kd _ hskd)).mono ?_; rintro e w' ⟨rfl, rfl⟩) | (go_at_call_of 34 (Value.string r.tm); refine (as_bool HT.out (isName_any r.tm _ hstm)).mono ?_; rintro e w' ⟨rfl, rfl⟩) | (go_at_call 39; refine (as_bool HV.out (areVerbs_any _ _ r.vs _ (by exact HI.out _))).mono ?_; rintro e w' ⟨rfl, rfl⟩))
        go_ret
        exact ⟨ret_bool HF.out.symm, HB.out _⟩
      have HV : Hid (Gate.verbsOk r.vs = true) := hv
      clear hv
      by_cases h16 : r.px.size ≤ 16
      · have HF : Hid (Gate.ruleOk r = Gate.allName r.px) := by unfold Hid Gate.ruleOk; rw [HKD.out, HV.out, decide_eq_true h16]; rfl
        have h16I : (r.px.size : Int) ≤ 16 := by omega
        clear h16
        go_enter Tryd.func18, Tryd.ntmps18
        go_wp2_with (first | (go_at_call_of 34 (Value.string r.kd); refine (as_bool HK.out (isName_any r.kd _ hskd)).mono ?_; rintro e w' ⟨rfl, rfl⟩) | (go_at_call_of 34 (Value.string r.tm); refine (as_bool HT.out (isName_any r.tm _ hstm)).mono ?_; rintro e w' ⟨rfl, rfl⟩) | (go_at_call 39; refine (as_bool HV.out (areVerbs_any _ _ r.vs _ (by exact HI.out _))).mono ?_; rintro e w' ⟨rfl, rfl⟩) | (go_at_call 40; refine (isNameBytes_any r.px _ hspx).mono ?_; rintro e w' ⟨rfl, rfl⟩))
        go_ret
        exact ⟨ret_bool HF.out.symm, HB.out _⟩
      · have HF : Hid (Gate.ruleOk r = false) := by unfold Hid Gate.ruleOk; rw [decide_eq_false h16]; simp
        have h16I : decide ((r.px.size : Int) ≤ 16) = false := by simp; omega
        clear h16
        go_enter Tryd.func18, Tryd.ntmps18
        go_wp2_with (first | (go_at_call_of 34 (Value.string r.kd); refine (as_bool HK.out (isName_any r.kd _ hskd)).mono ?_; rintro e w' ⟨rfl, rfl⟩) | (go_at_call_of 34 (Value.string r.tm); refine (as_bool HT.out (isName_any r.tm _ hstm)).mono ?_; rintro e w' ⟨rfl, rfl⟩) | (go_at_call 39; refine (as_bool HV.out (areVerbs_any _ _ r.vs _ (by exact HI.out _))).mono ?_; rintro e w' ⟨rfl, rfl⟩))
        go_ret
        exact ⟨ret_bool HF.out.symm, HB.out _⟩
    · have HF : Hid (Gate.ruleOk r = false) := by unfold Hid Gate.ruleOk Gate.kindsOk; rw [ht, HT.out]; simp
      go_enter Tryd.func18, Tryd.ntmps18
      go_wp2_with (first | (go_at_call_of 34 (Value.string r.kd); refine (as_bool HK.out (isName_any r.kd _ hskd)).mono ?_; rintro e w' ⟨rfl, rfl⟩) | (go_at_call_of 34 (Value.string r.tm); refine (as_bool HT.out (isName_any r.tm _ hstm)).mono ?_; rintro e w' ⟨rfl, rfl⟩))
      go_ret
      exact ⟨ret_bool HF.out.symm, HB.out _⟩
  · have HF : Hid (Gate.ruleOk r = false) := by unfold Hid Gate.ruleOk Gate.kindsOk; rw [hk, HK.out]; simp
    go_enter Tryd.func18, Tryd.ntmps18
    go_wp2_with (first | (go_at_call_of 34 (Value.string r.kd); refine (as_bool HK.out (isName_any r.kd _ hskd)).mono ?_; rintro e w' ⟨rfl, rfl⟩))
    go_ret
    exact ⟨ret_bool HF.out.symm, HB.out _⟩

end Go.Proofs.YtembogcnkfndjaaDoor

namespace Go.Proofs.YtembogcnkfndjaaDoor
open Go.RowKit

set_option maxHeartbeats 1000000 in
theorem verbsOf_any (a : Option Addr) (cap : Nat) (vs : List Int) (w : World) (hw : IntsAt w a vs) (hv : Gate.verbsOk vs = true) :
    Calls Tryd.prog 43 #[.slice a vs.length cap] w fun e w' => e = .returned (.int .u8 (Gate.bitsOf (Gate.hasVerb vs))) ∧ w' = w := by
  have hl := hw.len
  unfold maxLen at hl
  have HV : Hid (∀ i (h : i < vs.length), 1 ≤ vs[i] ∧ vs[i] ≤ 5) := fun i h => Gate.verbsOk_at hv i h
  clear hv
  go_enter Tryd.func43, Tryd.ntmps43
  go_wp2_with fail
  go_loop [3, 8] (fun s i => ∃ k : Nat, k ≤ vs.length ∧ i = .int .i64 k ∧ s = .int .u8 (Gate.bitsOf (Gate.hasVerb (vs.take k)))) (fun _ i => vs.length - (intOf i).toNat)
  case atStart => exact ⟨0, Nat.zero_le _, rfl, rfl⟩
  case round =>
    obtain ⟨k, hk, rfl, rfl⟩ := hrel
    by_cases hlt : k < vs.length
    · obtain ⟨b, off, rfl, hb, hck⟩ := hw.load (Below.refl _ _) k hlt
      have hltI : (k : Int) < (vs.length : Int) := by omega
      obtain ⟨hv1, hv5⟩ := HV.out k hlt
      have hv0 : ¬ vs[k] < 0 := by omega
      have HS : Hid (Gate.bitsOf (Gate.hasVerb (vs.take (k + 1))) = Gate.orI (Gate.bitsOf (Gate.hasVerb (vs.take k))) (Gate.oneAt vs[k])) := by
        unfold Hid; rw [Gate.bits_or _ _ ⟨hv1, hv5⟩]; exact Gate.bits_congr fun v _ => Gate.hasVerb_snoc vs v k hlt
      clear hw
      go_wp2_with fail
      go_round
      case rel => exact ⟨k + 1, by omega, by go_num, by rw [HS.out]; rfl⟩
      case measure => simp [intOf]; omega
    · have HF : Hid (Gate.bitsOf (Gate.hasVerb (vs.take k)) = Gate.bitsOf (Gate.hasVerb vs)) := by unfold Hid; rw [List.take_of_length_le (by omega)]
      clear hw
      go_wp2_with fail
      go_ret
      exact ⟨ret_int HF.out, rfl⟩

set_option maxHeartbeats 400000 in
theorem has_any (f : Int → Bool) (v : Int) (w : World) :
    Calls Tryd.prog 27 #[.int .u8 (Gate.bitsOf f), .int .i64 v] w fun e w' => e = .returned (.bool (Gate.verbOk v && f v)) ∧ w' = w := by
  by_cases hv : Gate.verbOk v = true
  · have HV : Hid (Gate.verbOk v = true) := hv
    have hv' : 1 ≤ v ∧ v ≤ 5 := by simpa [Gate.verbOk] using hv
    have HB : Hid ((Gate.andI (Gate.bitsOf f) (Gate.oneAt v) != 0) = f v) := Gate.bits_and f v hv'
    obtain ⟨hv1, hv5⟩ := hv'
    have hv0 : ¬ v < 0 := by omega
    clear hv
    go_enter Tryd.func27, Tryd.ntmps27
    go_wp2_with (go_at_call 52; refine (as_bool HV.out (isGiven_any _ _)).mono ?_; rintro e w' ⟨rfl, rfl⟩)
    go_ret
    exact ⟨ret_bool (by rw [HV.out, Bool.true_and, ← HB.out]; rfl), rfl⟩
  · have HV : Hid (Gate.verbOk v = false) := by simpa [Hid] using hv
    clear hv
    go_enter Tryd.func27, Tryd.ntmps27
    go_wp2_with (go_at_call 52; refine (as_bool HV.out (isGiven_any _ _)).mono ?_; rintro e w' ⟨rfl, rfl⟩)
    go_ret
    exact ⟨ret_bool (by rw [HV.out]; rfl), rfl⟩

end Go.Proofs.YtembogcnkfndjaaDoor

namespace Go.Proofs.YtembogcnkfndjaaDoor
namespace Gate

theorem low5_mem : ∀ a b c d e : Bool, (a || b || c || d || e) = true → (match low5 a b c d e with | 1 => a | 2 => b | 3 => c | 4 => d | 5 => e | _ => false) = true := by decide
/-- Where a verb is lacking, the lowest of them is. -/
theorem low_lacks {ts : List Tm} {rs : List Rl} {r : Rl} (h : ¬ leftBits ts rs r = 0) : lacksAt ts rs r (low (lacksAt ts rs r)) = true := by
  have h0 : (leftBits ts rs r == 0) = false := by simpa using h
  unfold leftBits at h0
  rw [bits_zero] at h0
  have h1 : (lacksAt ts rs r 1 || lacksAt ts rs r 2 || lacksAt ts rs r 3 || lacksAt ts rs r 4 || lacksAt ts rs r 5) = true := by
    rw [← Bool.not_eq_false']; exact h0
  have h2 := low5_mem _ _ _ _ _ h1
  unfold low
  revert h2
  generalize hl : low5 (lacksAt ts rs r 1) (lacksAt ts rs r 2) (lacksAt ts rs r 3) (lacksAt ts rs r 4) (lacksAt ts rs r 5) = n
  intro h2
  split at h2 <;> first | exact h2 | cases h2

/-- What is free of names: an act that a rule allows where another name would not. -/
structure FreeAct (ts : List Tm) (rs : List Rl) (r : Rl) (x : Ac) : Prop where
  nm : x.nm = r.px
  kd : if r.kd.toList.isEmpty = true then x.kd ∉ rs.map Rl.kd else x.kd = r.kd
  tm : if r.tm.toList.isEmpty = true then x.tm ∉ ts.map Tm.nm ∧ x.tm ∉ rs.map Rl.tm else x.tm = r.tm

theorem begins_refl (s : ByteArray) : begins s s = true := by
  rw [begins_iff]
  exact ⟨Nat.le_refl _, by apply ByteArray.ext; simp⟩
theorem under_lone {ts : List Tm} {a b : ByteArray} (h : a ∉ ts.map Tm.nm) (hu : under ts 4 a b = true) : a = b := by
  have hh : hasTeam ts a = false := by
    unfold hasTeam
    rw [List.any_eq_false]
    intro t ht e
    simp only [decide_eq_true_eq] at e
    exact h (List.mem_map.2 ⟨t, ht, e⟩)
  unfold under at hu
  rw [over_none ts a hh] at hu
  simpa using hu

/-- Of a rule that is not covered there is an act that it allows and none of the rules does. -/
theorem free_good {ts : List Tm} {rs : List Rl} {r : Rl} {x : Ac} (hok : teamsOk ts = true) (hr : ruleOk r = true) (hno : ¬ leftBits ts rs r = 0) (hv : x.vb = low (lacksAt ts rs r)) (hx : FreeAct ts rs r x) : allows ts r x = true ∧ ∀ q ∈ rs, allows ts q x = false := by
  have hl := low_lacks hno
  rw [← hv] at hl
  unfold lacksAt at hl
  simp only [Bool.and_eq_true, Bool.not_eq_true'] at hl
  constructor
  · unfold allows allowsOf meets
    rw [hok, hr, hl.1, hx.nm, begins_refl]
    have hk := hx.kd
    have ht := hx.tm
    cases hke : r.kd.toList.isEmpty <;> cases hte : r.tm.toList.isEmpty
    all_goals simp only [hke, hte, Bool.false_eq_true, if_false, if_true] at hk ht
    all_goals simp [hk, ht, under_same]
  · intro q hq
    rw [Bool.eq_false_iff]
    intro ha
    unfold allows allowsOf at ha
    simp only [Bool.and_eq_true] at ha
    have hc : covs ts r q x.vb = true := by
      unfold covs
      rw [ha.2.2.1, Bool.true_and]
      have hm := ha.2.2.2
      unfold meets at hm ⊢
      simp only [Bool.and_eq_true, Bool.or_eq_true, decide_eq_true_eq] at hm ⊢
      refine ⟨?_, ?_, by rw [← hx.nm]; exact hm.2.2⟩
      · rcases hm.1 with h1 | h1
        · exact Or.inl h1
        · have hk := hx.kd
          split at hk
          · exact absurd (List.mem_map.2 ⟨q, hq, h1⟩) hk
          · exact Or.inr (h1.trans hk)
      · rcases hm.2.1 with h1 | h1
        · exact Or.inl h1
        · have ht := hx.tm
          split at ht
          · exact absurd (List.mem_map.2 ⟨q, hq, (under_lone ht.1 h1).symm⟩) ht.2
          · rw [ht] at h1; exact Or.inr h1
    have := List.any_eq_false.1 hl.2 q hq
    exact this hc

/-- With the rule itself among the rules it is covered, if all are ok. -/
theorem covers_self {ts : List Tm} {rs : List Rl} {r : Rl} : covers ts (rs ++ [r]) r = allOk ts rs r := by
  rw [Bool.eq_iff_iff, covers_iff]
  unfold allOk rulesOk
  simp only [Bool.and_eq_true, List.all_append, List.all_cons, List.all_nil, Bool.and_true]
  constructor
  · rintro ⟨h1, h2, h3, _⟩; exact ⟨h1, h2, h3.1⟩
  · rintro ⟨h1, h2, h3⟩
    refine ⟨h1, h2, ⟨h3, h2⟩, fun v hv => ⟨r, by simp, ?_, ?_⟩⟩
    · unfold hasVerb; exact List.any_eq_true.2 ⟨v, hv, by simp⟩
    · unfold meets; simp [under_same, begins_refl]

end Gate
end Go.Proofs.YtembogcnkfndjaaDoor

namespace Go.Proofs.YtembogcnkfndjaaDoor
open Go.ChangeShapes Go.WideShapes Go.ChangeAt Go.RowKit

theorem Tryd.cellsU8 : Tryd.prog.cellsOf 5 = 1 := by kernel_rfl

/-- Bytes, read. -/
theorem read_u8s {H : Type} {enc : TypeId × Value → H} {w : World} {base : Nat} {spare : Nat → Bool} {held : Bool} {fuel : Nat} {cs : List Value} {x : DataW H × List MemPlace} (h : DataW.trod enc Tryd.prog w base spare held fuel 22 cs = some x) :
    ∃ a n cap, cs = [.slice a n cap] ∧ n ≤ cap ∧ U8sAt w a n := by
  rcases open_ints Tryd.underlying22 Tryd.underlying5 Tryd.cellsU8 h with ⟨rfl, _⟩ | ⟨a, len, cap, zs, rfl, _, hl, hm, hz, _, hcell, hwf⟩
  · exact ⟨none, 0, 0, rfl, Nat.le_refl _, ⟨by simp [maxLen], fun h => absurd h (by omega)⟩⟩
  · have hle : len ≤ zs.length := by rw [hz]; split <;> omega
    refine ⟨some a, len, cap, rfl, hl, ⟨by omega, fun hp => ?_⟩⟩
    have h0 := hcell 0 (by omega)
    obtain ⟨ha, hb⟩ := addr_of_cell h0
    simp only [Addr.add, if_true] at ha hb
    refine ⟨a.block, a.off, by rw [← ha], hb, fun i hi => ?_⟩
    have h1 := hcell i (by omega)
    have e1 : a.add i = ⟨a.block, a.off + i, none⟩ := by
      unfold Addr.add; split
      · rename_i h; subst h; simpa using ha
      · rfl
    rw [e1] at h1
    have hm9 : zs.getD i 0 ∈ zs := by
      rw [List.getD_eq_getElem?_getD, List.getElem?_eq_getElem (by omega)]
      exact List.getElem_mem _
    have hr9 : ∀ z : Int, (Lit.int .u8 z).wf = true → 0 ≤ z ∧ z ≤ 255 := by
      intro z hz9
      have hz8 : (decide ((0 : Int) ≤ z) && decide (z ≤ 255)) = true := hz9
      simpa using hz8
    obtain ⟨h8, h9⟩ := hr9 _ (hwf _ hm9)
    exact ⟨_, h8, h9, h1⟩

end Go.Proofs.YtembogcnkfndjaaDoor

namespace Go.Proofs.YtembogcnkfndjaaDoor
open Go.RowKit

theorem Gate.any_deep (ts : List Tm) : (!(ts.any fun t => !Gate.deepOk ts t)) = Gate.up (Gate.deepAt ts) ts.length := by
  rw [Bool.eq_iff_iff, Gate.up_eq_true]
  simp only [Bool.not_eq_true', List.any_eq_false]
  constructor
  · intro h i hi
    have := h ts[i] (List.getElem_mem hi)
    unfold Gate.deepAt
    rw [Gate.getD_at ts i _ hi]
    simpa using this
  · intro h x hx
    obtain ⟨k, hk, rfl⟩ := List.mem_iff_getElem.1 hx
    have := h k hk
    unfold Gate.deepAt at this
    rw [Gate.getD_at ts k _ hk] at this
    simp [this]

theorem Gate.teamAt_at (ts : List Tm) (k : Nat) (h : k < ts.length) (b : Bool) (hb : (decide (k = 0) || Gate.less (ts.getD (k - 1) Gate.noTeam).nm ts[k].nm) = b) :
    Gate.teamAt ts k = (Gate.nameOk ts[k].nm && b && (ts[k].ov.toList.isEmpty || Gate.hasTeam ts ts[k].ov)) := by
  unfold Gate.teamAt; rw [Gate.getD_at ts k _ h, hb]

set_option maxHeartbeats 4000000 in
theorem implTeamsOk_any (a : Option Addr) (cap : Nat) (ts : List Tm) (w : World) (hw : TmsAt w a ts) :
    Calls Tryd.prog 17 #[.slice a ts.length cap] w fun e w' => e = .returned (.bool (Gate.teamsOk ts)) ∧ Below w.heap.size w w' := by
  have hl := hw.len
  unfold maxLen at hl
  by_cases h12 : ts.length ≤ 12
  rotate_left
  · have HF : Hid (Gate.teamsOk ts = false) := by simp [Hid, Gate.teamsOk, h12]
    clear hw
    go_enter Tryd.func17, Tryd.ntmps17
    go_wp2_with fail
    go_ret
    exact ⟨ret_bool HF.out.symm, (Below.refl _ _).alloc (Nat.le_refl _) _⟩
  have HG : Hid (Gate.teamsOk ts = (Gate.up (Gate.teamAt ts) ts.length && Gate.up (Gate.deepAt ts) ts.length)) := by simp [Hid, Gate.teamsOk, h12]
  have h12I : (ts.length : Int) ≤ 12 := by omega
  go_enter Tryd.func17, Tryd.ntmps17
  go_wp2_with fail
  have hB00 : Below w.heap.size w (w.alloc (.cells #[.slice a ts.length cap] 23)) := (Below.refl _ _).alloc (Nat.le_refl _) _
  have hX00 := box_new w #[.slice a ts.length cap] 23
  have hz00 : w.heap.size < (w.alloc (.cells #[.slice a ts.length cap] 23)).heap.size := by simp
  obtain ⟨w0, hw0⟩ : ∃ w0, w0 = w.alloc (.cells #[.slice a ts.length cap] 23) := ⟨_, rfl⟩
  rw [← hw0] at hB00 hX00 hz00 ⊢
  have HW0 : Hid (TmsAt w0 a ts) := hw.mono hB00
  have HB00 : Hid (Below w.heap.size w w0) := hB00
  clear hw0 hw hB00
  go_loopw [10] (fun i wr => ∃ k : Nat, k ≤ ts.length ∧ i = .int .i64 k ∧ Gate.up (Gate.teamAt ts) k = true ∧ Below w0.heap.size w0 wr) (fun i _ => ts.length - (intOf i).toNat)
  case atStart => exact ⟨0, Nat.zero_le _, rfl, rfl, Below.refl _ _⟩
  case round =>
    obtain ⟨k, hk, rfl, hup, hB⟩ := hrel
    have hsz := hB.size
    have hX := box_later hX00 hz00 hB
    have hX0 : wr.cell? ⟨w.heap.size, 0, none⟩ = some (.slice a ts.length cap) := hX 0
    have hzr : w.heap.size < wr.heap.size := by omega
    have HBr : Hid (Below w.heap.size w wr) := HB00.out.trans (hB.mono (by omega))
    clear hX hX00
    by_cases hlt : k < ts.length
    · obtain ⟨b, off, rfl, hb, c0, c1⟩ := HW0.out.load hB k hlt
      have hbr : b < wr.heap.size := by omega
      have hsm := HW0.out.small k hlt
      have hsn := hsm.nm
      have HS : Hid (Gate.teamAt ts k = true → Gate.up (Gate.teamAt ts) (k + 1) = true) := fun h => by rw [Gate.up_succ, hup, h]; rfl
      have HN : Hid (Gate.teamAt ts k = false → Gate.teamsOk ts = false) := fun h => by rw [HG.out, Gate.up_not hlt h]; rfl
      have hltI : (k : Int) < (ts.length : Int) := by omega
      have HB : Hid (Below w0.heap.size w0 wr) := hB
      clear hup hsm hB
      by_cases hn : Gate.nameOk ts[k].nm = true
      rotate_left
      · have HNm : Hid (Gate.nameOk ts[k].nm = false) := by simpa [Hid] using hn
        have HF : Hid (Gate.teamAt ts k = false) := by unfold Hid; rw [Gate.teamAt_at ts k hlt _ rfl, HNm.out]; rfl
        clear hn
        go_wp2_with fail
        go_quiet ((go_at_call 34; exact Calls.quiet_of_same (as_bool HNm.out (isName_any _ _ hsn))))
        go_wp2_with fail
        go_ret
        exact ⟨ret_bool (HN.out HF.out).symm, below_drewN (HBr.out.alloc (by omega) _) _⟩
      have HNm : Hid (Gate.nameOk ts[k].nm = true) := hn
      clear hn
      by_cases hbad : 0 < k ∧ Gate.less (ts.getD (k - 1) Gate.noTeam).nm ts[k].nm = false
      · obtain ⟨hkpos, hls⟩ := hbad
        have HF : Hid (Gate.teamAt ts k = false) := by
          unfold Hid; rw [Gate.teamAt_at ts k hlt false (by rw [hls, decide_eq_false (show ¬ k = 0 by omega)]; rfl)]; simp
        obtain ⟨m, rfl⟩ : ∃ m, k = m + 1 := ⟨k - 1, by omega⟩
        rw [Nat.add_sub_cancel, Gate.getD_at ts m _ (by omega)] at hls
        obtain ⟨b', off', e', hb', d0, d1⟩ := HW0.out.load HB.out m (by omega)
        simp only [Option.some.injEq, Addr.mk.injEq] at e'
        obtain ⟨rfl, rfl, _⟩ := e'
        have hls' : Op.bytesLess ts[m].nm.toList ts[m + 1].nm.toList = false := hls
        have hmI : (m : Int) < 12 := by omega
        have hm0 : (0 : Int) ≤ (m : Int) := by omega
        have hml : (m : Int) < (ts.length : Int) := by omega
        have hmw : IntKind.i64.wrap (m : Int) = m := by rw [IntKind.wrap_i64]; omega
        clear hls
        go_wp2_with fail
        go_quiet ((go_at_call 34; exact Calls.quiet_of_same (as_bool HNm.out (isName_any _ _ hsn))))
        go_wp2_with fail
        go_ret
        exact ⟨ret_bool (HN.out HF.out).symm, below_drewN (HBr.out.alloc (by omega) _) _⟩
      have hgd : (decide (k = 0) || Gate.less (ts.getD (k - 1) Gate.noTeam).nm ts[k].nm) = true := by
        by_cases hk0 : k = 0
        · simp [hk0]
        · cases hq : Gate.less (ts.getD (k - 1) Gate.noTeam).nm ts[k].nm
          · exact absurd ⟨by omega, hq⟩ hbad
          · simp
      have HA : Hid (Gate.teamAt ts k = (ts[k].ov.toList.isEmpty || Gate.hasTeam ts ts[k].ov)) := by
        unfold Hid; rw [Gate.teamAt_at ts k hlt true hgd, HNm.out]; rfl
      have hgood : (decide (0 < k) = false) ∨ (decide (0 < k) = true ∧ ∃ m, k = m + 1 ∧ ∃ h : m < ts.length, Op.bytesLess ts[m].nm.toList ts[k].nm.toList = true ∧ wr.cell? ⟨b, off + m * 2, none⟩ = some (.string ts[m].nm)) := by
        by_cases hk0 : k = 0
        · exact Or.inl (by simp; omega)
        · refine Or.inr ⟨by simp; omega, k - 1, by omega, by omega, ?_, ?_⟩
          · rw [decide_eq_false hk0, Gate.getD_at ts (k - 1) _ (by omega)] at hgd
            exact hgd
          · obtain ⟨b', off', e', hb', d0, d1⟩ := HW0.out.load HB.out (k - 1) (by omega)
            simp only [Option.some.injEq, Addr.mk.injEq] at e'
            obtain ⟨rfl, rfl, _⟩ := e'
            exact d0
      clear hbad hgd
      have HBx : Hid (∀ (ob : Obj) (n : Nat), Below wr.heap.size wr ((wr.alloc ob).drewN n)) := fun ob n => below_drewN ((Below.refl _ _).alloc (Nat.le_refl _) _) _
      by_cases hov : ts[k].ov.toList.isEmpty = true
      · have HT : Hid (Gate.teamAt ts k = true) := by unfold Hid; rw [HA.out, hov]; rfl
        rcases hgood with hg | ⟨hg, m, rfl, hm, hls', d0⟩
        · go_wp2_with fail
          go_quiet ((go_at_call 34; exact Calls.quiet_of_same (as_bool HNm.out (isName_any _ _ hsn))))
          go_wp2_with fail
          exact ⟨⟨k + 1, by omega, by go_num, HS.out HT.out, HB.out.trans ((HBx.out _ _).mono hsz)⟩, by simp [intOf]; omega⟩
        · have hmI : (m : Int) < 12 := by omega
          have hm0 : (0 : Int) ≤ (m : Int) := by omega
          have hml : (m : Int) < (ts.length : Int) := by omega
          have hmw : IntKind.i64.wrap (m : Int) = m := by rw [IntKind.wrap_i64]; omega
          go_wp2_with fail
          go_quiet ((go_at_call 34; exact Calls.quiet_of_same (as_bool HNm.out (isName_any _ _ hsn))))
          go_wp2_with fail
          exact ⟨⟨m + 1 + 1, by omega, by go_num, HS.out HT.out, HB.out.trans ((HBx.out _ _).mono hsz)⟩, by simp [intOf]; omega⟩
      · have hov' : ts[k].ov.toList.isEmpty = false := by simpa using hov
        clear hov
        by_cases hit : Gate.hasTeam ts ts[k].ov = true
        · have HI : Hid (Gate.hasTeam ts ts[k].ov = true) := hit
          have HT : Hid (Gate.teamAt ts k = true) := by unfold Hid; rw [HA.out, hit]; simp
          clear hit
          rcases hgood with hg | ⟨hg, m, rfl, hm, hls', d0⟩
          · go_wp2_with fail
            go_quiet ((go_at_call 34; exact Calls.quiet_of_same (as_bool HNm.out (isName_any _ _ hsn))))
            go_wp2_with fail
            refine (as_bool HI.out (isTeam_any _ _ ts _ _ ((HW0.out.mono HB.out).mono (HBx.out _ _)))).mono ?_
            rintro e w3 ⟨rfl, hb3⟩
            have hB3 : Below w0.heap.size w0 w3 := (HB.out.trans ((HBx.out _ _).mono hsz)).trans (hb3.mono (by simp; omega))
            clear hb3
            go_wp2_with fail
            exact ⟨⟨k + 1, by omega, by go_num, HS.out HT.out, hB3⟩, by simp [intOf]; omega⟩
          · have hmI : (m : Int) < 12 := by omega
            have hm0 : (0 : Int) ≤ (m : Int) := by omega
            have hml : (m : Int) < (ts.length : Int) := by omega
            have hmw : IntKind.i64.wrap (m : Int) = m := by rw [IntKind.wrap_i64]; omega
            go_wp2_with fail
            go_quiet ((go_at_call 34; exact Calls.quiet_of_same (as_bool HNm.out (isName_any _ _ hsn))))
            go_wp2_with fail
            refine (as_bool HI.out (isTeam_any _ _ ts _ _ ((HW0.out.mono HB.out).mono (HBx.out _ _)))).mono ?_
            rintro e w3 ⟨rfl, hb3⟩
            have hB3 : Below w0.heap.size w0 w3 := (HB.out.trans ((HBx.out _ _).mono hsz)).trans (hb3.mono (by simp; omega))
            clear hb3
            go_wp2_with fail
            exact ⟨⟨m + 1 + 1, by omega, by go_num, HS.out HT.out, hB3⟩, by simp [intOf]; omega⟩
        · have HI : Hid (Gate.hasTeam ts ts[k].ov = false) := by simpa [Hid] using hit
          have HF : Hid (Gate.teamAt ts k = false) := by unfold Hid; rw [HA.out, HI.out, hov']; rfl
          clear hit
          rcases hgood with hg | ⟨hg, m, rfl, hm, hls', d0⟩
          · go_wp2_with fail
            go_quiet ((go_at_call 34; exact Calls.quiet_of_same (as_bool HNm.out (isName_any _ _ hsn))))
            go_wp2_with fail
            refine (as_bool HI.out (isTeam_any _ _ ts _ _ ((HW0.out.mono HB.out).mono (HBx.out _ _)))).mono ?_
            rintro e w3 ⟨rfl, hb3⟩
            have hB3 : Below w.heap.size w w3 := (HBr.out.trans ((HBx.out _ _).mono (by omega))).trans (hb3.mono (by simp; omega))
            clear hb3
            go_wp2_with fail
            go_ret
            exact ⟨ret_bool (HN.out HF.out).symm, hB3⟩
          · have hmI : (m : Int) < 12 := by omega
            have hm0 : (0 : Int) ≤ (m : Int) := by omega
            have hml : (m : Int) < (ts.length : Int) := by omega
            have hmw : IntKind.i64.wrap (m : Int) = m := by rw [IntKind.wrap_i64]; omega
            go_wp2_with fail
            go_quiet ((go_at_call 34; exact Calls.quiet_of_same (as_bool HNm.out (isName_any _ _ hsn))))
            go_wp2_with fail
            refine (as_bool HI.out (isTeam_any _ _ ts _ _ ((HW0.out.mono HB.out).mono (HBx.out _ _)))).mono ?_
            rintro e w3 ⟨rfl, hb3⟩
            have hB3 : Below w.heap.size w w3 := (HBr.out.trans ((HBx.out _ _).mono (by omega))).trans (hb3.mono (by simp; omega))
            clear hb3
            go_wp2_with fail
            go_ret
            exact ⟨ret_bool (HN.out HF.out).symm, hB3⟩
    · have HF : Hid (Gate.teamsOk ts = !(ts.any fun t => !Gate.deepOk ts t)) := by
        have e : k = ts.length := by omega
        subst e; rw [Hid, HG.out, hup, Gate.any_deep]; rfl
      have HWr : Hid (TmsAt wr a ts) := HW0.out.mono hB
      clear hup hB
      go_wp2_with fail
      refine (ContainsFuncU_any _ _ ts _ _ _ HWr.out (deepFn_fn _ _ ts _ _ HWr.out hzr hX0)).mono ?_
      rintro e w3 ⟨rfl, hb3⟩
      have hB3 : Below w.heap.size w w3 := HBr.out.trans (hb3.mono (by omega))
      clear hb3
      go_wp2_with fail
      go_ret
      exact ⟨ret_bool HF.out.symm, hB3⟩

end Go.Proofs.YtembogcnkfndjaaDoor

namespace Go.Proofs.YtembogcnkfndjaaDoor
open Go.RowKit

theorem Gate.dec_big {n : Nat} (h : ¬ n < 10) : (⟨(Lib.decDigits n).toArray⟩ : ByteArray) = ⟨(Lib.decDigits (n / 10)).toArray⟩ ++ ⟨#[UInt8.ofNat (48 + n % 10)]⟩ := by
  rw [Lib.decDigits, dif_neg h, ByteArray.mk_append_mk]

set_option maxHeartbeats 1000000 in
theorem l4Dec_big (n : Nat) (h : ¬ n < 10) (hn : n < 4611686018427387904) (ih : DecIs (n / 10)) : DecIs n := by
  intro w
  have hI : ¬ (n : Int) < 10 := by omega
  have hnI : (n : Int) < 4611686018427387904 := by omega
  have h0 : (0 : Int) ≤ (n : Int) := by omega
  obtain ⟨q, HQ⟩ : ∃ q : ByteArray, Hid (⟨(Lib.decDigits (n / 10)).toArray⟩ = q) := ⟨_, rfl⟩
  obtain ⟨d, HD⟩ : ∃ d : ByteArray, Hid (⟨#[UInt8.ofNat (48 + n % 10)]⟩ = d) := ⟨_, rfl⟩
  have hr0 : 0 ≤ (n : Int) % 10 := by omega
  have hr1 : (n : Int) % 10 < 10 := by omega
  have hrem : (n : Int).tmod 10 = (n : Int) % 10 := Int.tmod_eq_emod_of_nonneg (by omega)
  have hw1 : IntKind.i64.wrap ((n : Int) / 10) = (n : Int) / 10 := by
    have e : ((n : Int) / 10) = ((n / 10 : Nat) : Int) := by simp
    rw [e]; exact Lib.wrap_i64_small _ (by omega)
  have hw2 : IntKind.u8.wrap (IntKind.i64.wrap (48 + (n : Int) % 10)) = 48 + (n : Int) % 10 := by
    have e : (48 + (n : Int) % 10) = ((48 + n % 10 : Nat) : Int) := by simp
    rw [e, Lib.wrap_i64_small _ (by omega)]
    show (((48 + n % 10 : Nat) : Int)) % 256 = _
    omega
  have HC : Hid (∀ w, Calls Tryd.prog 16 #[.int .i64 (IntKind.i64.wrap ((n : Int) / 10))] w fun e w' => e = .returned (.string q) ∧ Below w.heap.size w w') := by rw [hw1, ← HQ.out]; exact ih
  have hsz : q.size + d.size ≤ 9223372036854775807 := by
    have h1 := Lib.itoa_length_le ((n / 10 : Nat) : Int) (by omega) (by omega)
    rw [Lib.itoa_nonneg] at h1
    have h2 : q.size ≤ 21 := by rw [← HQ.out]; simpa [ByteArray.size] using h1
    have h3 : d.size = 1 := by rw [← HD.out]; rfl
    omega
  obtain ⟨s, hadd, HF⟩ : ∃ s : ByteArray, (∀ W, (Op.stringOp .add q d).run Tryd.prog W = .ok (.string s) W) ∧ Hid ((⟨(Lib.decDigits n).toArray⟩ : ByteArray) = s) := ⟨q ++ d, fun W => run_string_add_sum W _ _ hsz, by rw [← HQ.out, ← HD.out]; exact Gate.dec_big h⟩
  have hbk : ∀ (W : World) (b : Nat), W.cell? ⟨b, 0, none⟩ = some (.int .u8 (IntKind.u8.wrap (IntKind.i64.wrap (48 + (n : Int).tmod 10)))) → (convert 22 9 (.slice (some ⟨b, 0, none⟩) 1 1)).run Tryd.prog W = .ok (.string d) W := fun W b hc => by
    rw [← HD.out]; exact byte_back (n := n % 10) (by omega) W b (by rw [hc, hrem, hw2]; simp)
  clear hn ih hsz hw1 hw2 HQ HD hrem hr0 hr1
  go_enter Tryd.func16, Tryd.ntmps16
  go_wp2_with fail
  have hB0 : Below w.heap.size w w.drew := (Below.refl _ _).drew
  have hB1 : ∀ o, Below w.heap.size w (w.alloc o).drew := fun o => ((Below.refl _ _).alloc (Nat.le_refl _) o).drew
  refine wp_region_held_drew (S := fun _ => True) (by kernel_rfl) trivial (fun hHeld => ?_)
  refine takeH (i := 0) (v := ?_) rfl (by kernel_rfl) (by kernel_rfl) (by kernel_rfl) (fun _ _ _ h => h) (by rfl) hHeld ?_ ?_
  rotate_left
  · intro w hSw
    go_simp
    try with_reducible rfl
  (try simp only [Act.put, List.setIfInBounds_toArray, List.set_cons_zero, List.set_cons_succ])
  refine takeH (i := 1) (v := ?_) rfl (by kernel_rfl) (by kernel_rfl) (by kernel_rfl) (fun _ _ _ h => h) (by rfl) hHeld ?_ ?_
  rotate_left
  · intro w hSw
    go_simp
    try with_reducible rfl
  (try simp only [Act.put, List.setIfInBounds_toArray, List.set_cons_zero, List.set_cons_succ])
  refine takeH (i := 3) (v := ?_) rfl (by kernel_rfl) (by kernel_rfl) (by kernel_rfl) (fun _ _ _ h => h) (by rfl) hHeld ?_ ?_
  rotate_left
  · intro w hSw
    go_simp
    try with_reducible rfl
  (try simp only [Act.put, List.setIfInBounds_toArray, List.set_cons_zero, List.set_cons_succ])
  refine takeH (i := 4) (v := ?_) rfl (by kernel_rfl) (by kernel_rfl) (by kernel_rfl) (fun _ _ _ h => h) (by rfl) hHeld ?_ ?_
  rotate_left
  · intro w hSw
    go_simp
    try with_reducible rfl
  (try simp only [Act.put, List.setIfInBounds_toArray, List.set_cons_zero, List.set_cons_succ])
  refine takeH (i := 5) (v := ?_) rfl (by kernel_rfl) (by kernel_rfl) (by kernel_rfl) (fun _ _ _ h => h) (by rfl) hHeld ?_ ?_
  rotate_left
  · intro w hSw
    go_simp
    try with_reducible rfl
  (try simp only [Act.put, List.setIfInBounds_toArray, List.set_cons_zero, List.set_cons_succ])
  refine takeH (i := 6) (v := ?_) rfl (by kernel_rfl) (by kernel_rfl) (by kernel_rfl) (fun _ _ _ h => h) (by rfl) hHeld ?_ ?_
  rotate_left
  · intro w hSw
    go_simp
    try with_reducible rfl
  (try simp only [Act.put, List.setIfInBounds_toArray, List.set_cons_zero, List.set_cons_succ])
  refine wpAnyH_ready (rs := [2, 7]) (by kernel_rfl) (by simp) (AllReadyH.cons (nth_at (i := 2) rfl) (fun K hK => ?_) (AllReadyH.cons (nth_at (i := 7) rfl) (fun K hK => ?_) AllReadyH.nil))
  · rw [if_pos (by rfl)]
    go_simp
    refine (HC.out _).mono ?_
    rintro e w4 ⟨rfl, hb4⟩
    (try go_wp2_with fail)
    refine hK.out _ _ trivial (fun hHeld => ?_)
    clear hK K
    (try simp only [Act.put, List.setIfInBounds_toArray, List.set_cons_zero, List.set_cons_succ])
    refine stepH (i := 7) rfl (by kernel_rfl) (by rfl) (fun K hK => ?_)
    go_simp
    (try go_wp2_with fail)
    refine hK.out _ _ trivial (fun hHeld => ?_)
    clear hK K
    (try simp only [Act.put, List.setIfInBounds_toArray, List.set_cons_zero, List.set_cons_succ])
    have hc8 := hbk (w4.alloc (.cells #[.int .u8 (IntKind.u8.wrap (IntKind.i64.wrap (48 + (n : Int).tmod 10)))] 5)) w4.heap.size (box_new w4 _ _ 0)
    refine stepH (i := 8) rfl (by kernel_rfl) (by rfl) (fun K hK => ?_)
    go_simp
    (try go_wp2_with fail)
    refine hK.out _ _ trivial (fun hHeld => ?_)
    clear hK K
    (try simp only [Act.put, List.setIfInBounds_toArray, List.set_cons_zero, List.set_cons_succ])
    refine takeH (i := 9) (v := ?_) rfl (by kernel_rfl) (by kernel_rfl) (by kernel_rfl) (fun _ _ _ h => h) (by rfl) hHeld ?_ ?_
    rotate_left
    · intro w hSw
      go_simp
      try with_reducible rfl
    (try simp only [Act.put, List.setIfInBounds_toArray, List.set_cons_zero, List.set_cons_succ])
    refine takeH (i := 10) (v := ?_) rfl (by kernel_rfl) (by kernel_rfl) (by kernel_rfl) (fun _ _ _ h => h) (by rfl) hHeld ?_ ?_
    rotate_left
    · intro w hSw
      go_simp
      try with_reducible rfl
    (try simp only [Act.put, List.setIfInBounds_toArray, List.set_cons_zero, List.set_cons_succ])
    refine wpAnyH_done (by kernel_rfl) ?_ _
    go_wp2_with fail
    go_ret
    exact ⟨by rw [HF.out]; rfl, ((hB0.trans (hb4.mono hB0.size)).alloc (hB0.trans (hb4.mono hB0.size)).size _)⟩
  · rw [if_pos (by rfl)]
    go_simp
    (try go_wp2_with fail)
    refine hK.out _ _ trivial (fun hHeld => ?_)
    clear hK K
    (try simp only [Act.put, List.setIfInBounds_toArray, List.set_cons_zero, List.set_cons_succ])
    refine wpAnyH_ready (rs := [2, 8]) (by kernel_rfl) (by simp) (AllReadyH.cons (nth_at (i := 2) rfl) (fun K hK => ?_) (AllReadyH.cons (nth_at (i := 8) rfl) (fun K hK => ?_) AllReadyH.nil))
    · rw [if_pos (by rfl)]
      go_simp
      refine (HC.out _).mono ?_
      rintro e w4 ⟨rfl, hb4⟩
      (try go_wp2_with fail)
      refine hK.out _ _ trivial (fun hHeld => ?_)
      clear hK K
      (try simp only [Act.put, List.setIfInBounds_toArray, List.set_cons_zero, List.set_cons_succ])
      have hc8 := hbk w4 w.heap.size ((hb4.cell (p := ⟨w.heap.size, 0, none⟩) (by simp)).trans (box_new w _ _ 0))
      refine stepH (i := 8) rfl (by kernel_rfl) (by rfl) (fun K hK => ?_)
      go_simp
      (try go_wp2_with fail)
      refine hK.out _ _ trivial (fun hHeld => ?_)
      clear hK K
      (try simp only [Act.put, List.setIfInBounds_toArray, List.set_cons_zero, List.set_cons_succ])
      refine takeH (i := 9) (v := ?_) rfl (by kernel_rfl) (by kernel_rfl) (by kernel_rfl) (fun _ _ _ h => h) (by rfl) hHeld ?_ ?_
      rotate_left
      · intro w hSw
        go_simp
        try with_reducible rfl
      (try simp only [Act.put, List.setIfInBounds_toArray, List.set_cons_zero, List.set_cons_succ])
      refine takeH (i := 10) (v := ?_) rfl (by kernel_rfl) (by kernel_rfl) (by kernel_rfl) (fun _ _ _ h => h) (by rfl) hHeld ?_ ?_
      rotate_left
      · intro w hSw
        go_simp
        try with_reducible rfl
      (try simp only [Act.put, List.setIfInBounds_toArray, List.set_cons_zero, List.set_cons_succ])
      refine wpAnyH_done (by kernel_rfl) ?_ _
      go_wp2_with fail
      go_ret
      exact ⟨by rw [HF.out]; rfl, (hB1 _).trans (hb4.mono (hB1 _).size)⟩
    · rw [if_pos (by rfl)]
      have hc8 := hbk (w.alloc (.cells #[.int .u8 (IntKind.u8.wrap (IntKind.i64.wrap (48 + (n : Int).tmod 10)))] 5)).drew w.heap.size (box_new w _ _ 0)
      go_simp
      (try go_wp2_with fail)
      refine hK.out _ _ trivial (fun hHeld => ?_)
      clear hK K
      (try simp only [Act.put, List.setIfInBounds_toArray, List.set_cons_zero, List.set_cons_succ])
      refine stepH (i := 2) rfl (by kernel_rfl) (by rfl) (fun K hK => ?_)
      go_simp
      refine (HC.out _).mono ?_
      rintro e w4 ⟨rfl, hb4⟩
      (try go_wp2_with fail)
      refine hK.out _ _ trivial (fun hHeld => ?_)
      clear hK K
      (try simp only [Act.put, List.setIfInBounds_toArray, List.set_cons_zero, List.set_cons_succ])
      refine takeH (i := 9) (v := ?_) rfl (by kernel_rfl) (by kernel_rfl) (by kernel_rfl) (fun _ _ _ h => h) (by rfl) hHeld ?_ ?_
      rotate_left
      · intro w hSw
        go_simp
        try with_reducible rfl
      (try simp only [Act.put, List.setIfInBounds_toArray, List.set_cons_zero, List.set_cons_succ])
      refine takeH (i := 10) (v := ?_) rfl (by kernel_rfl) (by kernel_rfl) (by kernel_rfl) (fun _ _ _ h => h) (by rfl) hHeld ?_ ?_
      rotate_left
      · intro w hSw
        go_simp
        try with_reducible rfl
      (try simp only [Act.put, List.setIfInBounds_toArray, List.set_cons_zero, List.set_cons_succ])
      refine wpAnyH_done (by kernel_rfl) ?_ _
      go_wp2_with fail
      go_ret
      exact ⟨by rw [HF.out]; rfl, (hB1 _).trans (hb4.mono (hB1 _).size)⟩

theorem l4Dec_any (n : Nat) : n < 4611686018427387904 → DecIs n := by
  induction n using Nat.strongRecOn with
  | _ n ih =>
    intro hn
    by_cases h : n < 10
    · exact l4Dec_small n h
    · exact l4Dec_big n h hn (ih (n / 10) (by omega) (by omega))

end Go.Proofs.YtembogcnkfndjaaDoor
