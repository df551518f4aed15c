import Derived.Test.YtackfmeepggedaaDoorM28
namespace Go.Proofs.YtackfmeepggedaaDoor
open Go.RowKit

set_option maxRecDepth 10000 in
set_option maxHeartbeats 4000000 in
theorem l11Num_any (nm : ByteArray) (mo : Int) (mu fi : Bool) (df we : ByteArray) (w : World) :
    Calls Tryd.prog 69 #[.string nm, .int .i64 mo, .bool mu, .bool fi, .string df, .string we] w fun e w' => e = .returned (.agg #[.string nm, .int .i64 1, .int .i64 1, .int .i64 mo, .slice none 0 0, .string ByteArray.empty, .int .i64 0, .bool mu, .bool fi, .string df, .string we]) ∧ Below w.heap.size w w' := by
  go_enter Tryd.func69, Tryd.ntmps69
  go_wp2_with fail
  refine bodyPost_ret (v := .agg #[.string nm, .int .i64 1, .int .i64 1, .int .i64 mo, .slice none 0 0, .string ByteArray.empty, .int .i64 0, .bool mu, .bool fi, .string df, .string we]) (by simp [results, Tryd.results69, go_sem]; try rfl) rfl ⟨rfl, ?_⟩
  exact (Below.refl _ _).alloc (Nat.le_refl _) _

set_option maxRecDepth 10000 in
set_option maxHeartbeats 4000000 in
theorem l11Word_any (nm : ByteArray) (df : ByteArray) (a : Option Addr) (n c : Nat) (w : World) :
    Calls Tryd.prog 70 #[.string nm, .slice a n c, .string df] w fun e w' => e = .returned (.agg #[.string nm, .int .i64 2, .int .i64 0, .int .i64 0, .slice a n c, .string ByteArray.empty, .int .i64 0, .bool false, .bool false, .string df, .string ByteArray.empty]) ∧ Below w.heap.size w w' := by
  go_enter Tryd.func70, Tryd.ntmps70
  go_wp2_with fail
  refine bodyPost_ret (v := .agg #[.string nm, .int .i64 2, .int .i64 0, .int .i64 0, .slice a n c, .string ByteArray.empty, .int .i64 0, .bool false, .bool false, .string df, .string ByteArray.empty]) (by simp [results, Tryd.results70, go_sem]; try rfl) rfl ⟨rfl, ?_⟩
  exact (Below.refl _ _).alloc (Nat.le_refl _) _

set_option maxRecDepth 10000 in
set_option maxHeartbeats 4000000 in
theorem l11Link_any (nm to : ByteArray) (ro : Int) (w : World) :
    Calls Tryd.prog 71 #[.string nm, .string to, .int .i64 ro] w fun e w' => e = .returned (.agg #[.string nm, .int .i64 4, .int .i64 0, .int .i64 0, .slice none 0 0, .string to, .int .i64 ro, .bool false, .bool false, .string ByteArray.empty, .string ByteArray.empty]) ∧ Below w.heap.size w w' := by
  go_enter Tryd.func71, Tryd.ntmps71
  go_wp2_with fail
  refine bodyPost_ret (v := .agg #[.string nm, .int .i64 4, .int .i64 0, .int .i64 0, .slice none 0 0, .string to, .int .i64 ro, .bool false, .bool false, .string ByteArray.empty, .string ByteArray.empty]) (by simp [results, Tryd.results71, go_sem]; try rfl) rfl ⟨rfl, ?_⟩
  exact (Below.refl _ _).alloc (Nat.le_refl _) _

end Go.Proofs.YtackfmeepggedaaDoor
