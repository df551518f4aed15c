import Derived.Test.YtembogcnkfndjaaDoorM11
import Derived.Test.YtembogcnkfndjaaDoorM09
import Derived.Deep.RegionHeld3
namespace Go.Proofs.YtembogcnkfndjaaDoor
open Go.RowKit

theorem many_step (n S : Nat) : n * S = n / 2 * (S + S) + n % 2 * S := by
  have h := Nat.div_add_mod n 2
  calc n * S = (2 * (n / 2) + n % 2) * S := by rw [h]
    _ = n / 2 * (S + S) + n % 2 * S := by rw [Nat.add_mul, Nat.mul_comm 2 (n / 2), Nat.mul_assoc, Nat.two_mul]

set_option maxHeartbeats 1000000 in
theorem l1Many_any (s : ByteArray) (n : Nat) (w : World) (hs : s.size ≤ 1) (hn : n ≤ 31) :
    Calls Tryd.prog 33 #[.string s, .int .i64 (n : Int)] w fun e w' => ∃ t : ByteArray, e = .returned (.string t) ∧ t.size ≤ 31 ∧ w' = w := by
  go_enter Tryd.func33, Tryd.ntmps33
  go_wp2_with fail
  go_loopw [0, 1, 5] (fun vs vn vo wr => ∃ (S O : ByteArray) (m : Nat), vs = .string S ∧ vn = .int .i64 (m : Int) ∧ vo = .string O ∧ m ≤ 31 ∧ S.size ≤ 62 ∧ O.size + m * S.size ≤ 31 ∧ wr = w) (fun _ vn _ _ => (intOf vn).toNat)
  case atStart =>
    refine ⟨s, ByteArray.empty, n, rfl, rfl, rfl, hn, by omega, ?_, rfl⟩
    have := Nat.mul_le_mul_left n hs
    simp; omega
  case round =>
    obtain ⟨S, O, m, rfl, rfl, rfl, hm, hS, hO, rfl⟩ := hrel
    have hst := many_step m S.size
    have HST : Hid (m * S.size = m / 2 * (S.size + S.size) + m % 2 * S.size ∧ O.size + m * S.size ≤ 31) := ⟨hst, hO⟩
    clear hst hO
    rcases Nat.eq_zero_or_pos m with h0 | h0
    · subst h0
      have hO : O.size ≤ 31 := by have := HST.out.2; omega
      go_wp2_with fail
      go_ret
      exact ⟨O, rfl, hO, rfl⟩
    · have hS2 : S.size ≤ 31 ∧ O.size ≤ 31 := by
        have h1 := HST.out.2
        have h2 := Nat.mul_le_mul_right S.size h0
        omega
      have hmI : (0 : Int) < (m : Int) := by omega
      by_cases hod : m % 2 = 1
      · have hodI : ((m : Int) % 2 == 1) = true := by rw [beq_iff_eq]; omega
        go_wp2_with fail
        refine ⟨⟨S ++ S, O ++ S, m / 2, rfl, by simp, rfl, by omega, by rw [ByteArray.size_append]; omega, ?_, trivial⟩, by simp [intOf]; omega⟩
        have h1 := HST.out.1
        have h2 := HST.out.2
        rw [hod, Nat.one_mul] at h1
        rw [ByteArray.size_append, ByteArray.size_append]
        omega
      · have hodI : ((m : Int) % 2 == 1) = false := by rw [beq_eq_false_iff_ne]; omega
        go_wp2_with fail
        refine ⟨⟨S ++ S, O, m / 2, rfl, by simp, rfl, by omega, by rw [ByteArray.size_append]; omega, ?_, trivial⟩, by simp [intOf]; omega⟩
        have h1 := HST.out.1
        have h2 := HST.out.2
        have h3 : m % 2 = 0 := by omega
        rw [h3, Nat.zero_mul] at h1
        rw [ByteArray.size_append]
        omega

end Go.Proofs.YtembogcnkfndjaaDoor

namespace Go.Proofs.YtembogcnkfndjaaDoor
open Go.RowKit

set_option maxHeartbeats 4000000 in
theorem implAllows_any (ta : Option Addr) (tcap : Nat) (ts : List Tm) (r : Rl) (a : Option Addr) (cap : Nat) (x : Ac) (w : World) (hw : TmsAt w ta ts) (hm : r.Small) (hi : IntsAt w a r.vs) (hx : x.Small) :
    Calls Tryd.prog 8 #[.slice ta ts.length tcap, .agg (r.cells a cap), .agg x.cells] w fun e w' => e = .returned (.bool (Gate.allows ts r x)) ∧ Below w.heap.size w w' := by
  have HB : Hid (∀ o1 o2, Below w.heap.size w ((w.alloc o1).alloc o2)) := fun _ _ => below2' _ _ _
  have HT : Hid (TmsAt w ta ts) := hw
  have HI : Hid (IntsAt w a r.vs) := hi
  have HM : Hid (r.Small ∧ x.Small) := ⟨hm, hx⟩
  clear hw hi hm hx
  by_cases hok : Gate.teamsOk ts = true
  rotate_left
  · have HK : Hid (Gate.teamsOk ts = false) := by simpa [Hid] using hok
    have HF : Hid (Gate.allows ts r x = false) := by unfold Hid Gate.allows; rw [HK.out]; rfl
    clear hok
    unfold Rl.cells Ac.cells
    go_enter Tryd.func8, Tryd.ntmps8
    go_wp2_with fail
    refine (as_bool HK.out (implTeamsOk_any _ _ ts _ (HT.out.mono (HB.out _ _)))).mono ?_
    rintro e w1 ⟨rfl, hb1⟩
    have HB1 : Hid (Below w.heap.size w w1) := (HB.out _ _).trans (hb1.mono (by simp; omega))
    clear hb1
    go_wp2_with fail
    go_ret
    exact ⟨ret_bool HF.out.symm, HB1.out⟩
  have HK : Hid (Gate.teamsOk ts = true) := hok
  clear hok
  by_cases hr : Gate.ruleOk r = true
  rotate_left
  · have HR : Hid (Gate.ruleOk r = false) := by simpa [Hid] using hr
    have HF : Hid (Gate.allows ts r x = false) := by unfold Hid Gate.allows; rw [HR.out]; simp
    clear hr
    unfold Rl.cells Ac.cells
    go_enter Tryd.func8, Tryd.ntmps8
    go_wp2_with fail
    refine (as_bool HK.out (implTeamsOk_any _ _ ts _ (HT.out.mono (HB.out _ _)))).mono ?_
    rintro e w1 ⟨rfl, hb1⟩
    have HB1 : Hid (Below w.heap.size w w1) := (HB.out _ _).trans (hb1.mono (by simp; omega))
    have hX1 := box_later (box_later (box_new w _ _) (by simp) ((Below.refl _ _).alloc (Nat.le_refl _) _)) (by simp; omega) hb1
    have hz : w.heap.size + 1 < w1.heap.size := by have := hb1.size; simp at this; omega
    clear hb1
    go_wp2_with fail
    refine (as_bool HR.out (isRule_any r _ _ _ HM.out.1 (HI.out.mono HB1.out))).mono ?_
    rintro e w2 ⟨rfl, hb2⟩
    have HB2 : Hid (Below w.heap.size w w2) := HB1.out.trans (hb2.mono HB1.out.size)
    clear hb2
    go_wp2_with fail
    go_ret
    exact ⟨ret_bool HF.out.symm, HB2.out⟩
  have HR : Hid (Gate.ruleOk r = true) := hr
  have HF : Hid (Gate.allows ts r x = Gate.allowsOf ts r x) := by unfold Hid Gate.allows; rw [HR.out, HK.out]; rfl
  have HV : Hid (Gate.verbsOk r.vs = true) := Gate.ruleOk_verbs hr
  clear hr
  unfold Rl.cells Ac.cells
  go_enter Tryd.func8, Tryd.ntmps8
  go_wp2_with fail
  refine (as_bool HK.out (implTeamsOk_any _ _ ts _ (HT.out.mono (HB.out _ _)))).mono ?_
  rintro e w1 ⟨rfl, hb1⟩
  have HB1 : Hid (Below w.heap.size w w1) := (HB.out _ _).trans (hb1.mono (by simp; omega))
  have hX1 := box_later (box_later (box_new w _ _) (by simp) ((Below.refl _ _).alloc (Nat.le_refl _) _)) (by simp; omega) hb1
  have hY1 := box_later (box_new2 w _ _ _) (by simp) hb1
  have hz : w.heap.size + 1 < w1.heap.size := by have := hb1.size; simp at this; omega
  clear hb1
  go_wp2_with fail
  refine (as_bool HR.out (isRule_any r _ _ _ HM.out.1 (HI.out.mono HB1.out))).mono ?_
  rintro e w2 ⟨rfl, hb2⟩
  have HB2 : Hid (Below w.heap.size w w2) := HB1.out.trans (hb2.mono HB1.out.size)
  have hX2 := box_later hX1 (by omega) hb2
  have hY2 := box_later hY1 hz hb2
  have hz2 : w.heap.size + 1 < w2.heap.size := by have := hb2.size; omega
  clear hb2 hX1 hY1 hz
  go_wp2_with fail
  have hB := HB2.out.drew
  have hX := box_later hX2 (by omega) (Below.refl w2.heap.size w2).drew
  have hY := box_later hY2 hz2 (Below.refl w2.heap.size w2).drew
  have hz : w.heap.size + 1 < w2.drew.heap.size := hz2
  clear hX2 hY2 hz2
  go_region_held3 (fun w' => (∀ j, w'.cell? ⟨w.heap.size, j, none⟩ = (#[.slice a r.vs.length cap, .string r.kd, .string r.tm, .string r.px] : Array Value)[j]?) ∧ ∀ j, w'.cell? ⟨w.heap.size + 1, j, none⟩ = (#[.int .i64 x.vb, .string x.kd, .string x.tm, .string x.nm] : Array Value)[j]?) (exact ⟨hX, hY⟩) (first
    | (go_at_call 26; refine (rightOf_any _ _ ts r _ _ _ (by exact HI.out.mono hB) HV.out).mono ?_; rintro e w3 ⟨rfl, hb⟩; have hX := box_later hX (Nat.lt_of_succ_lt hz) hb; have hY := box_later hY hz hb; have hB := hB.trans (hb.mono hB.size); have hz := Nat.lt_of_lt_of_le hz hb.size; clear hb)
    | (go_at_call 51; refine (verbsFor_any _ _ ts r _ _ x.kd x.tm x.nm _ (by exact HT.out.mono hB) HM.out.1 HM.out.2.nm).mono ?_; rintro e w4 ⟨rfl, hb⟩; have hX := box_later hX (Nat.lt_of_succ_lt hz) hb; have hY := box_later hY hz hb; have hB := hB.trans (hb.mono hB.size); have hz := Nat.lt_of_lt_of_le hz hb.size; clear hb)
    | (go_at_call 27; refine (has_any _ _ _).mono ?_; rintro e w5 ⟨rfl, rfl⟩))
  go_wp2_with fail
  go_ret
  exact ⟨ret_bool (by rw [HF.out]; exact Gate.allows_bits HV.out), hB⟩

end Go.Proofs.YtembogcnkfndjaaDoor
