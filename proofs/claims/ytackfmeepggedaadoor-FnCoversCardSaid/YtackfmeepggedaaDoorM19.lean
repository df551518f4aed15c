import Derived.Test.YtackfmeepggedaaDoorM14
import Derived.Test.YtackfmeepggedaaDoorM11
namespace Go.Proofs.YtackfmeepggedaaDoor
open Go.RowKit

set_option maxHeartbeats 400000 in
theorem l4Begins_any (s p : ByteArray) (w : World) (_hs : s.size ≤ maxLen) (_hp : p.size ≤ maxLen) :
    Calls Tryd.prog 50 #[.string s, .string p] w fun e w' => e = .returned (.bool (Gate.begins s p)) ∧ w' = w := by
  unfold maxLen at _hs _hp
  go_enter Tryd.func50, Tryd.ntmps50
  go_wp2_with fail
  all_goals
    go_ret
    refine ⟨ret_bool ?_, rfl⟩
    simp [Gate.begins, *]

set_option maxHeartbeats 400000 in
theorem liteHasPrefix_any (s p : ByteArray) (w : World) (_hs : s.size ≤ maxLen) (_hp : p.size ≤ maxLen) :
    Calls Tryd.prog 73 #[.string s, .string p] w fun e w' => e = .returned (.bool (Gate.begins s p)) ∧ w' = w := by
  unfold maxLen at _hs _hp
  go_enter Tryd.func73, Tryd.ntmps73
  go_wp2_with fail
  all_goals
    go_ret
    refine ⟨ret_bool ?_, rfl⟩
    simp [Gate.begins, *]

set_option maxHeartbeats 400000 in
theorem HasPrefix_any (s p : ByteArray) (w : World) (hs : s.size ≤ maxLen) (hp : p.size ≤ maxLen) :
    Calls Tryd.prog 68 #[.string s, .string p] w fun e w' => e = .returned (.bool (Gate.begins s p)) ∧ w' = w := by
  go_enter Tryd.func68, Tryd.ntmps68
  go_wp2_with (go_at_call 73; refine (liteHasPrefix_any s p _ hs hp).mono ?_; rintro e w' ⟨rfl, rfl⟩)
  go_ret
  exact ⟨rfl, rfl⟩

set_option maxHeartbeats 800000 in
theorem l4Verb_any (r : Rl) (a : Option Addr) (cap : Nat) (v : Int) (w : World) (hw : IntsAt w a r.vs) :
    Calls Tryd.prog 48 #[.agg (r.cells a cap), .int .i64 v] w fun e w' => e = .returned (.bool (Gate.hasVerb r.vs v)) ∧ Below w.heap.size w w' := by
  have hl := hw.len
  unfold maxLen at hl
  unfold Rl.cells
  have hB : ∀ ob, Below w.heap.size w (w.alloc ob) := fun ob => (Below.refl _ _).alloc (Nat.le_refl _) _
  go_enter Tryd.func48, Tryd.ntmps48
  go_wp2_with fail
  go_loop [5] (fun i => ∃ k : Nat, k ≤ r.vs.length ∧ i = .int .i64 k ∧ Gate.hasVerb (r.vs.take k) v = false) (fun i => r.vs.length - (intOf i).toNat)
  case atStart => exact ⟨0, Nat.zero_le _, rfl, rfl⟩
  case round =>
    obtain ⟨k, hk, rfl, hall⟩ := hrel
    by_cases hlt : k < r.vs.length
    · obtain ⟨b, off, rfl, hb, c0⟩ := hw.load (Below.refl _ _) k hlt
      clear hw
      have HS : Hid (Gate.hasVerb (r.vs.take (k + 1)) v = (false || decide (r.vs[k] = v))) := by rw [Gate.hasVerb_snoc r.vs v k hlt, hall]; rfl
      have hltI : (k : Int) < (r.vs.length : Int) := by omega
      by_cases he : r.vs[k] = v
      · have hbe : (r.vs[k] == v) = true := by simpa using he
        have HR : Hid (Gate.hasVerb r.vs v = true) := Gate.hasVerb_at r.vs v k hlt he
        clear he hall
        go_wp2_with fail
        go_ret
        exact ⟨ret_bool HR.out.symm, hB _⟩
      · have hbe : (r.vs[k] == v) = false := by simpa using he
        have HE : Hid (¬ r.vs[k] = v) := he
        clear he hall
        go_wp2_with fail
        go_round
        case rel => exact ⟨k + 1, by omega, by go_num, by rw [HS.out, decide_eq_false HE.out]; rfl⟩
        case measure => simp [intOf]; omega
    · have HR : Hid (Gate.hasVerb r.vs v = false) := by rw [← Gate.hasVerb_all r.vs v k (by omega)]; exact hall
      clear hall hw
      go_wp2_with fail
      go_ret
      exact ⟨ret_bool HR.out.symm, hB _⟩

end Go.Proofs.YtackfmeepggedaaDoor
