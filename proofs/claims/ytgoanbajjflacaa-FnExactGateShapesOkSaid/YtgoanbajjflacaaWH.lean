import Derived.Test.YtgoanbajjflacaaWG
import Derived.Deep.RegionWith
namespace Go.Proofs.Ytgoanbajjflacaa
open Go.RowKit

theorem alloc2_at (w : World) (o o' : Obj) : (((w.alloc o).alloc o').drew).heap[w.heap.size + 1]? = some o' := by
  have h := alloc_at (w.alloc o) o'
  rw [show (w.alloc o).heap.size = w.heap.size + 1 by simp] at h
  exact h

theorem below2 (w : World) (o o' : Obj) : Below w.heap.size w (((w.alloc o).alloc o').drew) := (((Below.refl _ _).alloc (Nat.le_refl _) _).alloc (by simp) _).drew

set_option maxHeartbeats 400000 in
theorem implFits_any (nm : ByteArray) (kd ls ms : Int) (a : Option Addr) (cap : Nat) (ws : List ByteArray) (to : ByteArray) (rl : Int) (mu fx : Bool) (df wg : ByteArray) (v : ByteArray) (w : World) (hv : v.size ≤ maxLen) (hws : StrsAt w a ws) :
    Calls Try.prog 9 #[.agg #[.string nm, .int .i64 kd, .int .i64 ls, .int .i64 ms, .slice a ws.length cap, .string to, .int .i64 rl, .bool mu, .bool fx, .string df, .string wg], .string v] w
      fun e w' => e = .returned (.bool (Gate.fits kd ls ms ws v)) ∧ Below w.heap.size w w' := by
  go_enter Try.func9, Try.ntmps9
  go_wp2
  go_region_with (first
    | (go_at_call 30; refine (fieldKinds_any _).mono ?_; rintro e w1 ⟨rfl, rfl⟩)
    | (go_at_call 31; refine (tableFits_any _ _ _ _ _ _ _ _ _ _ _ _ _ _ _ _ (by exact alloc2_at _ _ _) hv (by exact hws.mono (below2 _ _ _))).mono ?_; rintro e w2 ⟨rfl, hb2⟩))
  all_goals go_wp2
  all_goals go_ret
  all_goals exact ⟨rfl, (below2 _ _ _).trans (hb2.mono (by simp; omega))⟩

end Go.Proofs.Ytgoanbajjflacaa
