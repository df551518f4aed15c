import Derived.Test.YtimhinpekngceaaDoorM13
namespace Go.Proofs.YtimhinpekngceaaDoor
open Go.RowKit

set_option maxHeartbeats 800000 in
theorem specUnder_any (a : Option Addr) (cap : Nat) (ts : List Tm) (x y : ByteArray) (w : World) (hw : TmsAt w a ts) :
    Calls Tryd.prog 51 #[.slice a ts.length cap, .string x, .string y] w fun e w' => e = .returned (.bool (Gate.under ts 4 x y)) ∧ w' = w := by
  by_cases hxy : x = y
  · have HF : Hid (Gate.under ts 4 x y = true) := Gate.under_same ts 4 x y hxy
    have hbe : (x.toList == y.toList) = true := by rw [Gate.beq_toList]; simpa using hxy
    clear hxy
    go_enter Tryd.func51, Tryd.ntmps51
    go_wp2_with fail
    go_ret
    exact ⟨ret_bool HF.out.symm, rfl⟩
  have hbe : (x.toList == y.toList) = false := by rw [Gate.beq_toList]; simpa using hxy
  have HXY : Hid (¬ x = y) := hxy
  clear hxy
  go_enter Tryd.func51, Tryd.ntmps51
  go_wp2_with fail
  go_loop [1, 7] (fun p i => ∃ (k : Nat) (z : ByteArray), k ≤ 4 ∧ p = .string z ∧ i = .int .i64 k ∧ ¬ z = y ∧ Gate.under ts 4 x y = Gate.under ts (4 - k) z y) (fun _ i => 4 - (intOf i).toNat)
  case atStart => exact ⟨0, x, Nat.zero_le _, rfl, rfl, HXY.out, rfl⟩
  case round =>
    obtain ⟨k, z, hk, rfl, rfl, hz, hu⟩ := hrel
    have HZ : Hid (¬ z = y ∧ Gate.under ts 4 x y = Gate.under ts (4 - k) z y) := ⟨hz, hu⟩
    clear hz hu hbe
    by_cases hlt : k < 4
    · have hltI : (k : Int) < 4 := by omega
      obtain ⟨m, hm⟩ : ∃ m, 4 - k = m + 1 := ⟨3 - k, by omega⟩
      by_cases h0 : (Gate.over ts z).size = 0
      · have HF : Hid (Gate.under ts 4 x y = false) := by rw [HZ.out.2, hm]; exact Gate.under_stop ts m HZ.out.1 h0
        have h0' : (Gate.over ts z).toList.isEmpty = true := by rw [Gate.isEmpty_of_size]; simpa using h0
        clear h0 hm
        go_wp2_with (go_at_call 76; refine (l4Over_any _ _ _ _ _ hw).mono ?_; rintro e w' ⟨rfl, rfl⟩)
        go_ret
        exact ⟨ret_bool HF.out.symm, rfl⟩
      · have HO : Hid (Gate.under ts 4 x y = Gate.under ts m (Gate.over ts z) y) := by rw [Hid, HZ.out.2, hm]; exact Gate.under_on ts m HZ.out.1 h0
        have h0' : (Gate.over ts z).toList.isEmpty = false := by rw [Gate.isEmpty_of_size]; simpa using h0
        clear h0
        by_cases hy : Gate.over ts z = y
        · have HF : Hid (Gate.under ts 4 x y = true) := by rw [Hid, HO.out]; exact Gate.under_same ts m _ _ hy
          have hy' : ((Gate.over ts z).toList == y.toList) = true := by rw [Gate.beq_toList]; simpa using hy
          clear hy
          go_wp2_with (go_at_call 76; refine (l4Over_any _ _ _ _ _ hw).mono ?_; rintro e w' ⟨rfl, rfl⟩)
          go_ret
          exact ⟨ret_bool HF.out.symm, rfl⟩
        · have hy' : ((Gate.over ts z).toList == y.toList) = false := by rw [Gate.beq_toList]; simpa using hy
          have HY : Hid (¬ Gate.over ts z = y) := hy
          clear hy
          go_wp2_with (go_at_call 76; refine (l4Over_any _ _ _ _ _ hw).mono ?_; rintro e w' ⟨rfl, rfl⟩)
          go_round
          case rel => exact ⟨k + 1, Gate.over ts z, by omega, rfl, by go_num, HY.out, by rw [HO.out, show 4 - (k + 1) = m by omega]⟩
          case measure => simp [intOf]; omega
    · have HF : Hid (Gate.under ts 4 x y = false) := by
        have e : 4 - k = 0 := by omega
        rw [Hid, HZ.out.2, e]; exact Gate.under_end ts HZ.out.1
      go_wp2_with fail
      go_ret
      exact ⟨ret_bool HF.out.symm, rfl⟩

set_option maxHeartbeats 800000 in
theorem implUnder_any (a : Option Addr) (cap : Nat) (ts : List Tm) (x y : ByteArray) (w : World) (hw : TmsAt w a ts) :
    Calls Tryd.prog 87 #[.slice a ts.length cap, .string x, .string y] w fun e w' => e = .returned (.bool (Gate.under ts 4 x y)) ∧ Below w.heap.size w w' := by
  by_cases hxy : x = y
  · have HF : Hid (Gate.under ts 4 x y = true) := Gate.under_same ts 4 x y hxy
    have hbe : (x.toList == y.toList) = true := by rw [Gate.beq_toList]; simpa using hxy
    clear hxy
    go_enter Tryd.func87, Tryd.ntmps87
    go_wp2_with fail
    go_ret
    exact ⟨ret_bool HF.out.symm, Below.refl _ _⟩
  have hbe : (x.toList == y.toList) = false := by rw [Gate.beq_toList]; simpa using hxy
  have HXY : Hid (¬ x = y) := hxy
  clear hxy
  go_enter Tryd.func87, Tryd.ntmps87
  go_wp2_with fail
  go_loopw [1, 10] (fun p i wr => ∃ (k : Nat) (z : ByteArray), k ≤ 4 ∧ p = .string z ∧ i = .int .i64 k ∧ ¬ z = y ∧ Gate.under ts 4 x y = Gate.under ts (4 - k) z y ∧ Below w.heap.size w wr) (fun _ i _ => 4 - (intOf i).toNat)
  case atStart => exact ⟨0, x, Nat.zero_le _, rfl, rfl, HXY.out, rfl, Below.refl _ _⟩
  case round =>
    obtain ⟨k, z, hk, rfl, rfl, hz, hu, hB⟩ := hrel
    have HZ : Hid (¬ z = y ∧ Gate.under ts 4 x y = Gate.under ts (4 - k) z y) := ⟨hz, hu⟩
    clear hz hu hbe
    by_cases hlt : k < 4
    · have hltI : (k : Int) < 4 := by omega
      obtain ⟨m, hm⟩ : ∃ m, 4 - k = m + 1 := ⟨3 - k, by omega⟩
      by_cases h0 : (Gate.over ts z).size = 0
      · have HF : Hid (Gate.under ts 4 x y = false) := by rw [HZ.out.2, hm]; exact Gate.under_stop ts m HZ.out.1 h0
        have h0' : (Gate.over ts z).toList.isEmpty = true := by rw [Gate.isEmpty_of_size]; simpa using h0
        clear h0 hm
        go_wp2_with fail
        refine (overOf_any _ _ _ _ _ (hw.mono hB)).mono ?_
        rintro e w1 ⟨rfl, hb1⟩
        have hB1 := hB.trans (hb1.mono hB.size)
        clear hb1
        go_wp2_with fail
        go_ret
        exact ⟨ret_bool HF.out.symm, hB1⟩
      · have HO : Hid (Gate.under ts 4 x y = Gate.under ts m (Gate.over ts z) y) := by rw [Hid, HZ.out.2, hm]; exact Gate.under_on ts m HZ.out.1 h0
        have h0' : (Gate.over ts z).toList.isEmpty = false := by rw [Gate.isEmpty_of_size]; simpa using h0
        clear h0
        by_cases hy : Gate.over ts z = y
        · have HF : Hid (Gate.under ts 4 x y = true) := by rw [Hid, HO.out]; exact Gate.under_same ts m _ _ hy
          have hy' : ((Gate.over ts z).toList == y.toList) = true := by rw [Gate.beq_toList]; simpa using hy
          clear hy
          go_wp2_with fail
          refine (overOf_any _ _ _ _ _ (hw.mono hB)).mono ?_
          rintro e w1 ⟨rfl, hb1⟩
          have hB1 := hB.trans (hb1.mono hB.size)
          clear hb1
          go_wp2_with fail
          go_ret
          exact ⟨ret_bool HF.out.symm, hB1⟩
        · have hy' : ((Gate.over ts z).toList == y.toList) = false := by rw [Gate.beq_toList]; simpa using hy
          have HY : Hid (¬ Gate.over ts z = y) := hy
          clear hy
          go_wp2_with fail
          refine (overOf_any _ _ _ _ _ (hw.mono hB)).mono ?_
          rintro e w1 ⟨rfl, hb1⟩
          have hB1 := hB.trans (hb1.mono hB.size)
          clear hb1
          go_wp2_with fail
          exact ⟨⟨k + 1, Gate.over ts z, by omega, rfl, by go_num, HY.out, by rw [HO.out, show 4 - (k + 1) = m by omega], hB1⟩, by simp [intOf]; omega⟩
    · have HF : Hid (Gate.under ts 4 x y = false) := by
        have e : 4 - k = 0 := by omega
        rw [Hid, HZ.out.2, e]; exact Gate.under_end ts HZ.out.1
      go_wp2_with fail
      go_ret
      exact ⟨ret_bool HF.out.symm, hB⟩

end Go.Proofs.YtimhinpekngceaaDoor

namespace Go.Proofs.YtimhinpekngceaaDoor
open Go.RowKit

set_option maxHeartbeats 400000 in
theorem l4Begins_any (s p : ByteArray) (w : World) (_hs : s.size ≤ maxLen) (_hp : p.size ≤ maxLen) :
    Calls Tryd.prog 52 #[.string s, .string p] w fun e w' => e = .returned (.bool (Gate.begins s p)) ∧ w' = w := by
  unfold maxLen at _hs _hp
  go_enter Tryd.func52, Tryd.ntmps52
  go_wp2_with fail
  all_goals
    go_ret
    refine ⟨ret_bool ?_, rfl⟩
    simp [Gate.begins, *]

set_option maxHeartbeats 400000 in
theorem liteHasPrefix_any (s p : ByteArray) (w : World) (_hs : s.size ≤ maxLen) (_hp : p.size ≤ maxLen) :
    Calls Tryd.prog 93 #[.string s, .string p] w fun e w' => e = .returned (.bool (Gate.begins s p)) ∧ w' = w := by
  unfold maxLen at _hs _hp
  go_enter Tryd.func93, Tryd.ntmps93
  go_wp2_with fail
  all_goals
    go_ret
    refine ⟨ret_bool ?_, rfl⟩
    simp [Gate.begins, *]

set_option maxHeartbeats 400000 in
theorem HasPrefix_any (s p : ByteArray) (w : World) (hs : s.size ≤ maxLen) (hp : p.size ≤ maxLen) :
    Calls Tryd.prog 88 #[.string s, .string p] w fun e w' => e = .returned (.bool (Gate.begins s p)) ∧ w' = w := by
  go_enter Tryd.func88, Tryd.ntmps88
  go_wp2_with (go_at_call 93; refine (liteHasPrefix_any s p _ hs hp).mono ?_; rintro e w' ⟨rfl, rfl⟩)
  go_ret
  exact ⟨rfl, rfl⟩

set_option maxHeartbeats 800000 in
theorem l4Verb_any (r : Rl) (a : Option Addr) (cap : Nat) (v : Int) (w : World) (hw : IntsAt w a r.vs) :
    Calls Tryd.prog 50 #[.agg (r.cells a cap), .int .i64 v] w fun e w' => e = .returned (.bool (Gate.hasVerb r.vs v)) ∧ Below w.heap.size w w' := by
  have hl := hw.len
  unfold maxLen at hl
  unfold Rl.cells
  have hB : ∀ ob, Below w.heap.size w (w.alloc ob) := fun ob => (Below.refl _ _).alloc (Nat.le_refl _) _
  go_enter Tryd.func50, Tryd.ntmps50
  go_wp2_with fail
  go_loop [5] (fun i => ∃ k : Nat, k ≤ r.vs.length ∧ i = .int .i64 k ∧ Gate.hasVerb (r.vs.take k) v = false) (fun i => r.vs.length - (intOf i).toNat)
  case atStart => exact ⟨0, Nat.zero_le _, rfl, rfl⟩
  case round =>
    obtain ⟨k, hk, rfl, hall⟩ := hrel
    by_cases hlt : k < r.vs.length
    · obtain ⟨b, off, rfl, hb, c0⟩ := hw.load (Below.refl _ _) k hlt
      clear hw
      have HS : Hid (Gate.hasVerb (r.vs.take (k + 1)) v = (false || decide (r.vs[k] = v))) := by rw [Gate.hasVerb_snoc r.vs v k hlt, hall]; rfl
      have hltI : (k : Int) < (r.vs.length : Int) := by omega
      by_cases he : r.vs[k] = v
      · have hbe : (r.vs[k] == v) = true := by simpa using he
        have HR : Hid (Gate.hasVerb r.vs v = true) := Gate.hasVerb_at r.vs v k hlt he
        clear he hall
        go_wp2_with fail
        go_ret
        exact ⟨ret_bool HR.out.symm, hB _⟩
      · have hbe : (r.vs[k] == v) = false := by simpa using he
        have HE : Hid (¬ r.vs[k] = v) := he
        clear he hall
        go_wp2_with fail
        go_round
        case rel => exact ⟨k + 1, by omega, by go_num, by rw [HS.out, decide_eq_false HE.out]; rfl⟩
        case measure => simp [intOf]; omega
    · have HR : Hid (Gate.hasVerb r.vs v = false) := by rw [← Gate.hasVerb_all r.vs v k (by omega)]; exact hall
      clear hall hw
      go_wp2_with fail
      go_ret
      exact ⟨ret_bool HR.out.symm, hB _⟩

end Go.Proofs.YtimhinpekngceaaDoor
