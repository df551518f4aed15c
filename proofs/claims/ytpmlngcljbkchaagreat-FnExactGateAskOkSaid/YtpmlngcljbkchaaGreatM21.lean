import Derived.Test.YtpmlngcljbkchaaGreatM19
import Derived.Test.YtpmlngcljbkchaaGreatM12
import Derived.Test.YtpmlngcljbkchaaGreatM11
namespace Go.Proofs.YtpmlngcljbkchaaGreat
open Go.RowKit

theorem three_boxes (w : World) (X Y Z : Array Value) (r s t : TypeId) : ∃ W0, W0 = ((w.alloc (.cells X r)).alloc (.cells Y s)).alloc (.cells Z t) ∧ (∀ j, W0.cell? ⟨w.heap.size + 1, j, none⟩ = Y[j]?) ∧ (∀ j, W0.cell? ⟨w.heap.size + 1 + 1, j, none⟩ = Z[j]?) ∧ w.heap.size + 1 + 1 < W0.heap.size ∧ Below w.heap.size w W0 := by
  obtain ⟨_, hB, hC⟩ := blk3 w (.cells X r) (.cells Y s) (.cells Z t)
  exact ⟨_, rfl, fun _ => cell_of_block hB, fun _ => cell_of_block hC, by simp, below3' _ _ _ _⟩
theorem pair_boxes (w : World) (X Y : Array Value) (s t : TypeId) : ∃ W0, W0 = (w.alloc (.cells X s)).alloc (.cells Y t) ∧ (∀ j, W0.cell? ⟨w.heap.size, j, none⟩ = X[j]?) ∧ (∀ j, W0.cell? ⟨w.heap.size + 1, j, none⟩ = Y[j]?) ∧ w.heap.size + 1 < W0.heap.size ∧ Below w.heap.size w W0 := by
  obtain ⟨hX, hY⟩ := two_boxesK w X Y s t
  exact ⟨_, rfl, hX, hY, by simp, below2' _ _ _⟩

set_option maxHeartbeats 1000000 in
theorem makeRest_any (x : Ak) (a0 a1 a2 : Option Addr) (c0 c1 c2 : Nat) (w : World) :
    Calls Tryz.prog 128 #[.agg #[], .agg (x.cells a0 a1 a2 c0 c1 c2)] w fun e w' => e = .returned (.agg (({ x with kd := ByteArray.empty, nm := ByteArray.empty, tm := ByteArray.empty, vs := [], hs := [] } : Ak).cells none none a2 0 0 c2)) ∧ Below w.heap.size w w' := by
  have HB : Hid (∀ o1 o2 o3, Below w.heap.size w (((w.alloc o1).alloc o2).alloc o3)) := fun o1 o2 o3 => below3' w o1 o2 o3
  unfold Ak.cells
  go_enter Tryz.func128, Tryz.ntmps128
  go_wp2_with fail
  refine bodyPost_ret (v := .agg (({ x with kd := ByteArray.empty, nm := ByteArray.empty, tm := ByteArray.empty, vs := [], hs := [] } : Ak).cells none none a2 0 0 c2)) (by simp [results, Tryz.results128, go_sem]; rfl) rfl ⟨rfl, ?_⟩
  exact HB.out _ _ _

set_option maxHeartbeats 1000000 in
theorem changeRest_any (x : Ak) (a0 a1 a2 : Option Addr) (c0 c1 c2 : Nat) (w : World) :
    Calls Tryz.prog 134 #[.agg #[], .agg (x.cells a0 a1 a2 c0 c1 c2)] w fun e w' => e = .returned (.agg (({ x with kd := ByteArray.empty, nm := ByteArray.empty, vs := [], sn := 0 } : Ak).cells none a1 a2 0 c1 c2)) ∧ Below w.heap.size w w' := by
  have HB : Hid (∀ o1 o2 o3, Below w.heap.size w (((w.alloc o1).alloc o2).alloc o3)) := fun o1 o2 o3 => below3' w o1 o2 o3
  unfold Ak.cells
  go_enter Tryz.func134, Tryz.ntmps134
  go_wp2_with fail
  refine bodyPost_ret (v := .agg (({ x with kd := ByteArray.empty, nm := ByteArray.empty, vs := [], sn := 0 } : Ak).cells none a1 a2 0 c1 c2)) (by simp [results, Tryz.results134, go_sem]; rfl) rfl ⟨rfl, ?_⟩
  exact HB.out _ _ _

set_option maxHeartbeats 1000000 in
theorem endRest_any (x : Ak) (a0 a1 a2 : Option Addr) (c0 c1 c2 : Nat) (w : World) :
    Calls Tryz.prog 138 #[.agg #[], .agg (x.cells a0 a1 a2 c0 c1 c2)] w fun e w' => e = .returned (.agg (({ x with kd := ByteArray.empty, nm := ByteArray.empty, sn := 0 } : Ak).cells a0 a1 a2 c0 c1 c2)) ∧ Below w.heap.size w w' := by
  have HB : Hid (∀ o1 o2 o3, Below w.heap.size w (((w.alloc o1).alloc o2).alloc o3)) := fun o1 o2 o3 => below3' w o1 o2 o3
  unfold Ak.cells
  go_enter Tryz.func138, Tryz.ntmps138
  go_wp2_with fail
  refine bodyPost_ret (v := .agg (({ x with kd := ByteArray.empty, nm := ByteArray.empty, sn := 0 } : Ak).cells a0 a1 a2 c0 c1 c2)) (by simp [results, Tryz.results138, go_sem]; rfl) rfl ⟨rfl, ?_⟩
  exact HB.out _ _ _

set_option maxHeartbeats 1000000 in
theorem letGoRest_any (x : Ak) (a0 a1 a2 : Option Addr) (c0 c1 c2 : Nat) (w : World) :
    Calls Tryz.prog 142 #[.agg #[], .agg (x.cells a0 a1 a2 c0 c1 c2)] w fun e w' => e = .returned (.agg (({ x with kd := ByteArray.empty, nm := ByteArray.empty, hd := ByteArray.empty } : Ak).cells a0 a1 a2 c0 c1 c2)) ∧ Below w.heap.size w w' := by
  have HB : Hid (∀ o1 o2 o3, Below w.heap.size w (((w.alloc o1).alloc o2).alloc o3)) := fun o1 o2 o3 => below3' w o1 o2 o3
  unfold Ak.cells
  go_enter Tryz.func142, Tryz.ntmps142
  go_wp2_with fail
  refine bodyPost_ret (v := .agg (({ x with kd := ByteArray.empty, nm := ByteArray.empty, hd := ByteArray.empty } : Ak).cells a0 a1 a2 c0 c1 c2)) (by simp [results, Tryz.results142, go_sem]; rfl) rfl ⟨rfl, ?_⟩
  exact HB.out _ _ _

set_option maxHeartbeats 1000000 in
theorem giveRest_any (x : Ak) (a0 a1 a2 : Option Addr) (c0 c1 c2 : Nat) (w : World) :
    Calls Tryz.prog 146 #[.agg #[], .agg (x.cells a0 a1 a2 c0 c1 c2)] w fun e w' => e = .returned (.agg (({ x with to := ByteArray.empty, r := Gate.noRule } : Ak).cells a0 a1 none c0 c1 0)) ∧ Below w.heap.size w w' := by
  have HB : Hid (∀ o1 o2 o3, Below w.heap.size w (((w.alloc o1).alloc o2).alloc o3)) := fun o1 o2 o3 => below3' w o1 o2 o3
  unfold Ak.cells
  go_enter Tryz.func146, Tryz.ntmps146
  go_wp2_with fail
  refine bodyPost_ret (v := .agg (({ x with to := ByteArray.empty, r := Gate.noRule } : Ak).cells a0 a1 none c0 c1 0)) (by simp [results, Tryz.results146, go_sem]; rfl) rfl ⟨rfl, ?_⟩
  exact HB.out _ _ _

set_option maxHeartbeats 1000000 in
theorem takeRest_any (x : Ak) (a0 a1 a2 : Option Addr) (c0 c1 c2 : Nat) (w : World) :
    Calls Tryz.prog 153 #[.agg #[], .agg (x.cells a0 a1 a2 c0 c1 c2)] w fun e w' => e = .returned (.agg (({ x with no := 0 } : Ak).cells a0 a1 a2 c0 c1 c2)) ∧ Below w.heap.size w w' := by
  have HB : Hid (∀ o1 o2 o3, Below w.heap.size w (((w.alloc o1).alloc o2).alloc o3)) := fun o1 o2 o3 => below3' w o1 o2 o3
  unfold Ak.cells
  go_enter Tryz.func153, Tryz.ntmps153
  go_wp2_with fail
  refine bodyPost_ret (v := .agg (({ x with no := 0 } : Ak).cells a0 a1 a2 c0 c1 c2)) (by simp [results, Tryz.results153, go_sem]; rfl) rfl ⟨rfl, ?_⟩
  exact HB.out _ _ _

end Go.Proofs.YtpmlngcljbkchaaGreat
