import Derived.Test.YtackfmeepggedaaDoorM11
import Derived.Laws.BitsAllLaws
namespace Go.Proofs.YtackfmeepggedaaDoor
open Go.RowKit

theorem i64_xor_nat (a b : Nat) (ha : a < 4294967296) (hb : b < 4294967296) : bits .xor .i64 (a : Int) (b : Int) = ((a ^^^ b : Nat) : Int) := by
  have hx : a ^^^ b < 2 ^ 32 := Nat.xor_lt_two_pow (by omega) (by omega)
  have h1 : (BitVec.ofInt 64 (a : Int)).toNat = a := by
    rw [BitVec.ofInt_natCast, BitVec.toNat_ofNat]; exact Nat.mod_eq_of_lt (by omega)
  have h2 : (BitVec.ofInt 64 (b : Int)).toNat = b := by
    rw [BitVec.ofInt_natCast, BitVec.toNat_ofNat]; exact Nat.mod_eq_of_lt (by omega)
  show IntKind.i64.wrap ((BitVec.ofInt 64 (a : Int) ^^^ BitVec.ofInt 64 (b : Int)).toNat : Int) = _
  rw [BitVec.toNat_xor, h1, h2]
  simp only [IntKind.wrap, IntKind.bits, IntKind.signed]
  simp
  omega
theorem i64_xor (a b : Int) (h1 : 0 ≤ a) (h2 : a < 4294967296) (h3 : 0 ≤ b) (h4 : b < 4294967296) : bits .xor .i64 a b = ((a.toNat ^^^ b.toNat : Nat) : Int) := by
  obtain ⟨A, rfl⟩ := Int.eq_ofNat_of_zero_le h1
  obtain ⟨B, rfl⟩ := Int.eq_ofNat_of_zero_le h3
  simpa using i64_xor_nat A B (by omega) (by omega)

set_option maxRecDepth 20000 in
set_option maxHeartbeats 4000000 in
theorem pick_any (n : Int) (r p : Nat) (w : World) (hn : 1 ≤ n) (hN : n ≤ 1048576) (hp : p ≤ 50000) (hr : RdAt w r p) :
    Calls Tryd.prog 14 #[.pointer (some ⟨r, 0, none⟩), .int .i64 n] w fun e w' => ∃ k : Nat, e = .returned (.int .i64 (k : Int)) ∧ (k : Int) < n ∧ RdAt w' r (p + 1) ∧ w'.heap.size = w.heap.size ∧ Below w.heap.size (clr r w) (clr r w') := by
  obtain ⟨a, m, cap, hm, hb, hu⟩ := hr.rd
  have c0 : w.cell? ⟨r, 0, none⟩ = some (.slice a m cap) := cell_of_block hb
  have c1 : w.cell? ⟨r, 1, none⟩ = some (.int .i64 (p : Int)) := cell_of_block hb
  have f1 : w.frozen? ⟨r, 1, none⟩ = false := frozen_of_block hb
  have hnl : decide (n < 1) = false := by simp; omega
  have hlt := hr.lt
  have HR : Hid (RdAt (w.setCell ⟨r, 1, none⟩ (.int .i64 ((p : Int) + 1))) r (p + 1)) := by
    refine ⟨a, m, cap, hm, (heap_setCell_at hb _).trans (by simp), fun hp => ?_⟩
    obtain ⟨b, off, ha, hbr, hc⟩ := hu hp
    refine ⟨b, off, ha, hbr, fun i hi => ?_⟩
    obtain ⟨x, x0, x1, hx⟩ := hc i hi
    refine ⟨x, x0, x1, ?_⟩
    simp only [World.cell?, setCell_other (by omega : b ≠ r)]
    exact hx
  have HB : Hid (Below w.heap.size (clr r w) (clr r (w.setCell ⟨r, 1, none⟩ (.int .i64 ((p : Int) + 1))))) := clr_setCell r _ w _ _
  clear hb hr
  rcases Nat.eq_zero_or_pos m with h0 | h0
  · subst h0
    clear hu
    go_enter Tryd.func14, Tryd.ntmps14
    go_wp2_with fail
    go_ret
    exact ⟨0, rfl, by omega, HR.out, by simp, HB.out⟩
  · obtain ⟨bb, off, rfl, hbb, hc⟩ := hu h0
    have hne : bb ≠ r := by omega
    clear hu
    have hm0 : ((m : Int) == 0) = false := by simp; omega
    by_cases hk : p < m
    · obtain ⟨x, x0, x1, hx⟩ := hc p hk
      have hpm : (p : Int) < (m : Int) := by omega
      clear hc
      have hn0 : (n == 0) = false := by simp; omega
      go_enter Tryd.func14, Tryd.ntmps14
      go_wp2_with fail
      go_ret
      have e1 := Int.emod_nonneg x (by omega : n ≠ 0)
      have e2 := Int.emod_lt_of_pos x (by omega : 0 < n)
      exact ⟨(x % n).toNat, ret_int (Int.toNat_of_nonneg e1).symm, by omega, HR.out, by simp, HB.out⟩
    · have hpm : ¬ (p : Int) < (m : Int) := by omega
      go_enter Tryd.func14, Tryd.ntmps14
      have g1 : p % m < m := Nat.mod_lt _ h0
      have g2 : (p * 7 + 3) % m < m := Nat.mod_lt _ h0
      obtain ⟨x, x0, x1, hx⟩ := hc (p % m) g1
      obtain ⟨y, y0, y1, hy⟩ := hc ((p * 7 + 3) % m) g2
      clear hc
      have hn0 : (n == 0) = false := by simp; omega
      have i1 := Int.emod_nonneg (p : Int) (by omega : (m : Int) ≠ 0)
      have i2 := Int.emod_lt_of_pos (p : Int) (by omega : (0 : Int) < m)
      have i3 := Int.emod_nonneg ((p : Int) * 7 + 3) (by omega : (m : Int) ≠ 0)
      have i4 := Int.emod_lt_of_pos ((p : Int) * 7 + 3) (by omega : (0 : Int) < m)
      have i5 : 0 ≤ (p : Int) / (m : Int) := Int.ediv_nonneg (by omega) (by omega)
      have i6 : (p : Int) / (m : Int) ≤ p := Int.ediv_le_self _ (by omega)
      have j1 : ((p : Int) % (m : Int)).toNat = p % m := by omega
      have j2 : (((p : Int) * 7 + 3) % (m : Int)).toNat = (p * 7 + 3) % m := by
        have e : ((p : Int) * 7 + 3) % (m : Int) = (((p * 7 + 3) % m : Nat) : Int) := by push_cast; rfl
        rw [e]; rfl
      go_wp2_with fail
      go_quiet (fail)
      obtain ⟨X, hX⟩ : ∃ X : Int, X = x * 131 + y * 1117 + (p : Int) * 29 + (p : Int) / (m : Int) * 53 := ⟨_, rfl⟩
      have X0 : 0 ≤ X := by omega
      have X1 : X ≤ 100000000 := by omega
      have X2 : 0 ≤ X / 64 := by omega
      rw [← hX]
      clear hX i1 i2 i3 i4 i5 i6 j1 j2 hx hy c0 c1 f1
      go_wp2_with fail
      go_ret
      rw [i64_xor X (X / 64) X0 (by omega) X2 (by omega)]
      obtain ⟨Y, hY⟩ : ∃ Y : Nat, Y = X.toNat ^^^ (X / 64).toNat := ⟨_, rfl⟩
      rw [← hY]
      have e1 : ((Y : Int).tmod n) = (Y : Int) % n := Int.tmod_eq_emod_of_nonneg (by omega)
      have e2 := Int.emod_nonneg (Y : Int) (by omega : n ≠ 0)
      have e3 := Int.emod_lt_of_pos (Y : Int) (by omega : 0 < n)
      refine ⟨((Y : Int) % n).toNat, ret_int (e1.trans (Int.toNat_of_nonneg e2).symm), by omega, HR.out.mono (below_drewN (Below.refl _ _) _), by simp, ?_⟩
      exact HB.out.trans ((below_clr (below_drewN (Below.refl (w.setCell ⟨r, 1, none⟩ (.int .i64 ((p : Int) + 1))).heap.size _) _)).mono (by simp))

set_option maxHeartbeats 1000000 in
theorem of_any (a : Option Addr) (cap : Nat) (ss : List ByteArray) (r p : Nat) (w : World) (hs : StrsAt w a ss) (hne : ss ≠ []) (hl : ss.length ≤ 1000) (hp : p ≤ 50000) (hr : RdAt w r p) (hap : ∀ b off, a = some ⟨b, off, none⟩ → b ≠ r) :
    Calls Tryd.prog 32 #[.pointer (some ⟨r, 0, none⟩), .slice a ss.length cap] w fun e w' => ∃ s ∈ ss, e = .returned (.string s) ∧ RdAt w' r (p + 1) ∧ w'.heap.size = w.heap.size ∧ Below w.heap.size (clr r w) (clr r w') := by
  have hpos : 0 < ss.length := List.length_pos_iff.2 hne
  obtain ⟨b, off, rfl, hb, hc⟩ := hs.cells hne
  have hbr := hap b off rfl
  go_enter Tryd.func32, Tryd.ntmps32
  go_wp2_with fail
  refine (pick_any (ss.length : Int) r p w (by omega) (by omega) hp hr).mono ?_
  rintro e w1 ⟨k, rfl, hk, hr1, hz, hB⟩
  have hk' : k < ss.length := by omega
  have c0 : w1.cell? ⟨b, off + k, none⟩ = some (.string ss[k]) := by
    refine unclr (r := r) ?_
    rw [hB.cell (p := ⟨b, off + k, none⟩) hb]
    simp only [World.cell?, clr_other w hbr]
    exact hc k hk'
  go_wp2_with fail
  go_ret
  exact ⟨ss[k], List.getElem_mem hk', rfl, hr1, hz, hB⟩

end Go.Proofs.YtackfmeepggedaaDoor
