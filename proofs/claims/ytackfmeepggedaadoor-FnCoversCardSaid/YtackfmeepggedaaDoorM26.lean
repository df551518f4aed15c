import Derived.Test.YtackfmeepggedaaDoorM24
namespace Go.Proofs.YtackfmeepggedaaDoor
open Go.RowKit

theorem many_step (n S : Nat) : n * S = n / 2 * (S + S) + n % 2 * S := by
  have h := Nat.div_add_mod n 2
  calc n * S = (2 * (n / 2) + n % 2) * S := by rw [h]
    _ = n / 2 * (S + S) + n % 2 * S := by rw [Nat.add_mul, Nat.mul_comm 2 (n / 2), Nat.mul_assoc, Nat.two_mul]

set_option maxHeartbeats 1000000 in
theorem l1Many_any (s : ByteArray) (n : Nat) (w : World) (hs : s.size ≤ 1) (hn : n ≤ 31) :
    Calls Tryd.prog 33 #[.string s, .int .i64 (n : Int)] w fun e w' => ∃ t : ByteArray, e = .returned (.string t) ∧ t.size ≤ 31 ∧ w' = w := by
  go_enter Tryd.func33, Tryd.ntmps33
  go_wp2_with fail
  go_loopw [0, 1, 5] (fun vs vn vo wr => ∃ (S O : ByteArray) (m : Nat), vs = .string S ∧ vn = .int .i64 (m : Int) ∧ vo = .string O ∧ m ≤ 31 ∧ S.size ≤ 62 ∧ O.size + m * S.size ≤ 31 ∧ wr = w) (fun _ vn _ _ => (intOf vn).toNat)
  case atStart =>
    refine ⟨s, ByteArray.empty, n, rfl, rfl, rfl, hn, by omega, ?_, rfl⟩
    have := Nat.mul_le_mul_left n hs
    simp; omega
  case round =>
    obtain ⟨S, O, m, rfl, rfl, rfl, hm, hS, hO, rfl⟩ := hrel
    have hst := many_step m S.size
    have HST : Hid (m * S.size = m / 2 * (S.size + S.size) + m % 2 * S.size ∧ O.size + m * S.size ≤ 31) := ⟨hst, hO⟩
    clear hst hO
    rcases Nat.eq_zero_or_pos m with h0 | h0
    · subst h0
      have hO : O.size ≤ 31 := by have := HST.out.2; omega
      go_wp2_with fail
      go_ret
      exact ⟨O, rfl, hO, rfl⟩
    · have hS2 : S.size ≤ 31 ∧ O.size ≤ 31 := by
        have h1 := HST.out.2
        have h2 := Nat.mul_le_mul_right S.size h0
        omega
      have hmI : (0 : Int) < (m : Int) := by omega
      by_cases hod : m % 2 = 1
      · have hodI : ((m : Int) % 2 == 1) = true := by rw [beq_iff_eq]; omega
        go_wp2_with fail
        refine ⟨⟨S ++ S, O ++ S, m / 2, rfl, by simp, rfl, by omega, by rw [ByteArray.size_append]; omega, ?_, trivial⟩, by simp [intOf]; omega⟩
        have h1 := HST.out.1
        have h2 := HST.out.2
        rw [hod, Nat.one_mul] at h1
        rw [ByteArray.size_append, ByteArray.size_append]
        omega
      · have hodI : ((m : Int) % 2 == 1) = false := by rw [beq_eq_false_iff_ne]; omega
        go_wp2_with fail
        refine ⟨⟨S ++ S, O, m / 2, rfl, by simp, rfl, by omega, by rw [ByteArray.size_append]; omega, ?_, trivial⟩, by simp [intOf]; omega⟩
        have h1 := HST.out.1
        have h2 := HST.out.2
        have h3 : m % 2 = 0 := by omega
        rw [h3, Nat.zero_mul] at h1
        rw [ByteArray.size_append]
        omega

end Go.Proofs.YtackfmeepggedaaDoor
