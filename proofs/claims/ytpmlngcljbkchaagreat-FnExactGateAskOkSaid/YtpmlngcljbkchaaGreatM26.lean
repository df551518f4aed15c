import Derived.Test.YtpmlngcljbkchaaGreatM22
import Derived.Test.YtpmlngcljbkchaaGreatM21
namespace Go.Proofs.YtpmlngcljbkchaaGreat
open Go.RowKit

set_option maxHeartbeats 1000000 in
theorem l8Rest_1 (who kd nm tm : ByteArray) (vs hs : List ByteArray) (sn : Int) (hd to : ByteArray) (r : Rl) (no : Int) (a0 a1 a2 : Option Addr) (c0 c1 c2 : Nat) (w : World) :
    Calls Tryz.prog 40 #[.agg ((⟨who, 1, kd, nm, tm, vs, hs, sn, hd, to, r, no⟩ : Ak).cells a0 a1 a2 c0 c1 c2)] w fun e w' => e = .returned (.agg ((⟨ByteArray.empty, 1, ByteArray.empty, ByteArray.empty, ByteArray.empty, [], [], sn, hd, to, r, no⟩ : Ak).cells none none a2 0 0 c2)) ∧ Below w.heap.size w w' := by
  have HB : Hid (∀ o1 o2, Below w.heap.size w ((w.alloc o1).alloc o2)) := fun o1 o2 => below2' w o1 o2
  unfold Ak.cells
  dsimp only
  go_enter Tryz.func40, Tryz.ntmps40
  go_wp2_with fail
  refine bodyPost_ret (v := .agg ((⟨ByteArray.empty, 1, ByteArray.empty, ByteArray.empty, ByteArray.empty, [], [], sn, hd, to, r, no⟩ : Ak).cells none none a2 0 0 c2)) (by simp [results, Tryz.results40, go_sem]; rfl) rfl ⟨rfl, ?_⟩
  exact HB.out _ _

set_option maxHeartbeats 1000000 in
theorem l8Rest_2 (who kd nm tm : ByteArray) (vs hs : List ByteArray) (sn : Int) (hd to : ByteArray) (r : Rl) (no : Int) (a0 a1 a2 : Option Addr) (c0 c1 c2 : Nat) (w : World) :
    Calls Tryz.prog 40 #[.agg ((⟨who, 2, kd, nm, tm, vs, hs, sn, hd, to, r, no⟩ : Ak).cells a0 a1 a2 c0 c1 c2)] w fun e w' => e = .returned (.agg ((⟨ByteArray.empty, 2, ByteArray.empty, ByteArray.empty, tm, [], hs, 0, hd, to, r, no⟩ : Ak).cells none a1 a2 0 c1 c2)) ∧ Below w.heap.size w w' := by
  have HB : Hid (∀ o1 o2, Below w.heap.size w ((w.alloc o1).alloc o2)) := fun o1 o2 => below2' w o1 o2
  unfold Ak.cells
  dsimp only
  go_enter Tryz.func40, Tryz.ntmps40
  go_wp2_with fail
  refine bodyPost_ret (v := .agg ((⟨ByteArray.empty, 2, ByteArray.empty, ByteArray.empty, tm, [], hs, 0, hd, to, r, no⟩ : Ak).cells none a1 a2 0 c1 c2)) (by simp [results, Tryz.results40, go_sem]; rfl) rfl ⟨rfl, ?_⟩
  exact HB.out _ _

set_option maxHeartbeats 1000000 in
theorem l8Rest_3 (who kd nm tm : ByteArray) (vs hs : List ByteArray) (sn : Int) (hd to : ByteArray) (r : Rl) (no : Int) (a0 a1 a2 : Option Addr) (c0 c1 c2 : Nat) (w : World) :
    Calls Tryz.prog 40 #[.agg ((⟨who, 3, kd, nm, tm, vs, hs, sn, hd, to, r, no⟩ : Ak).cells a0 a1 a2 c0 c1 c2)] w fun e w' => e = .returned (.agg ((⟨ByteArray.empty, 3, ByteArray.empty, ByteArray.empty, tm, vs, hs, 0, hd, to, r, no⟩ : Ak).cells a0 a1 a2 c0 c1 c2)) ∧ Below w.heap.size w w' := by
  have HB : Hid (∀ o1 o2, Below w.heap.size w ((w.alloc o1).alloc o2)) := fun o1 o2 => below2' w o1 o2
  unfold Ak.cells
  dsimp only
  go_enter Tryz.func40, Tryz.ntmps40
  go_wp2_with fail
  refine bodyPost_ret (v := .agg ((⟨ByteArray.empty, 3, ByteArray.empty, ByteArray.empty, tm, vs, hs, 0, hd, to, r, no⟩ : Ak).cells a0 a1 a2 c0 c1 c2)) (by simp [results, Tryz.results40, go_sem]; rfl) rfl ⟨rfl, ?_⟩
  exact HB.out _ _

set_option maxHeartbeats 1000000 in
theorem l8Rest_4 (who kd nm tm : ByteArray) (vs hs : List ByteArray) (sn : Int) (hd to : ByteArray) (r : Rl) (no : Int) (a0 a1 a2 : Option Addr) (c0 c1 c2 : Nat) (w : World) :
    Calls Tryz.prog 40 #[.agg ((⟨who, 4, kd, nm, tm, vs, hs, sn, hd, to, r, no⟩ : Ak).cells a0 a1 a2 c0 c1 c2)] w fun e w' => e = .returned (.agg ((⟨ByteArray.empty, 4, ByteArray.empty, ByteArray.empty, tm, vs, hs, sn, ByteArray.empty, to, r, no⟩ : Ak).cells a0 a1 a2 c0 c1 c2)) ∧ Below w.heap.size w w' := by
  have HB : Hid (∀ o1 o2, Below w.heap.size w ((w.alloc o1).alloc o2)) := fun o1 o2 => below2' w o1 o2
  unfold Ak.cells
  dsimp only
  go_enter Tryz.func40, Tryz.ntmps40
  go_wp2_with fail
  refine bodyPost_ret (v := .agg ((⟨ByteArray.empty, 4, ByteArray.empty, ByteArray.empty, tm, vs, hs, sn, ByteArray.empty, to, r, no⟩ : Ak).cells a0 a1 a2 c0 c1 c2)) (by simp [results, Tryz.results40, go_sem]; rfl) rfl ⟨rfl, ?_⟩
  exact HB.out _ _

set_option maxHeartbeats 1000000 in
theorem l8Rest_5 (who kd nm tm : ByteArray) (vs hs : List ByteArray) (sn : Int) (hd to : ByteArray) (r : Rl) (no : Int) (a0 a1 a2 : Option Addr) (c0 c1 c2 : Nat) (w : World) :
    Calls Tryz.prog 40 #[.agg ((⟨who, 5, kd, nm, tm, vs, hs, sn, hd, to, r, no⟩ : Ak).cells a0 a1 a2 c0 c1 c2)] w fun e w' => e = .returned (.agg ((⟨ByteArray.empty, 5, kd, nm, tm, vs, hs, sn, hd, ByteArray.empty, Gate.noRule, no⟩ : Ak).cells a0 a1 none c0 c1 0)) ∧ Below w.heap.size w w' := by
  have HB : Hid (∀ o1 o2, Below w.heap.size w ((w.alloc o1).alloc o2)) := fun o1 o2 => below2' w o1 o2
  unfold Ak.cells
  dsimp only
  go_enter Tryz.func40, Tryz.ntmps40
  go_wp2_with fail
  refine bodyPost_ret (v := .agg ((⟨ByteArray.empty, 5, kd, nm, tm, vs, hs, sn, hd, ByteArray.empty, Gate.noRule, no⟩ : Ak).cells a0 a1 none c0 c1 0)) (by simp [results, Tryz.results40, go_sem]; rfl) rfl ⟨rfl, ?_⟩
  exact HB.out _ _

set_option maxHeartbeats 1000000 in
theorem l8Rest_6 (who kd nm tm : ByteArray) (vs hs : List ByteArray) (sn : Int) (hd to : ByteArray) (r : Rl) (no : Int) (a0 a1 a2 : Option Addr) (c0 c1 c2 : Nat) (w : World) :
    Calls Tryz.prog 40 #[.agg ((⟨who, 6, kd, nm, tm, vs, hs, sn, hd, to, r, no⟩ : Ak).cells a0 a1 a2 c0 c1 c2)] w fun e w' => e = .returned (.agg ((⟨ByteArray.empty, 6, kd, nm, tm, vs, hs, sn, hd, to, r, 0⟩ : Ak).cells a0 a1 a2 c0 c1 c2)) ∧ Below w.heap.size w w' := by
  have HB : Hid (∀ o1 o2, Below w.heap.size w ((w.alloc o1).alloc o2)) := fun o1 o2 => below2' w o1 o2
  unfold Ak.cells
  dsimp only
  go_enter Tryz.func40, Tryz.ntmps40
  go_wp2_with fail
  refine bodyPost_ret (v := .agg ((⟨ByteArray.empty, 6, kd, nm, tm, vs, hs, sn, hd, to, r, 0⟩ : Ak).cells a0 a1 a2 c0 c1 c2)) (by simp [results, Tryz.results40, go_sem]; rfl) rfl ⟨rfl, ?_⟩
  exact HB.out _ _

theorem verb_six {v : Int} (h : Gate.within v 1 6 = true) : v = 1 ∨ v = 2 ∨ v = 3 ∨ v = 4 ∨ v = 5 ∨ v = 6 := by
  unfold Gate.within at h; simp at h; omega

theorem l8Rest_any (x : Ak) (a0 a1 a2 : Option Addr) (c0 c1 c2 : Nat) (w : World) (hv : Gate.within x.vb 1 6 = true) :
    Calls Tryz.prog 40 #[.agg (x.cells a0 a1 a2 c0 c1 c2)] w fun e w' => ∃ y b0 b1 b2 d0 d1 d2, e = .returned (.agg (Ak.cells y b0 b1 b2 d0 d1 d2)) ∧ Gate.unused y = Gate.unused (Gate.restOf x) ∧ Below w.heap.size w w' := by
  obtain ⟨who, vb, kd, nm, tm, vs, hs, sn, hd, to, r, no⟩ := x
  rcases verb_six hv with e | e | e | e | e | e <;> (dsimp only at e; subst e)
  · refine (l8Rest_1 who kd nm tm vs hs sn hd to r no a0 a1 a2 c0 c1 c2 w).mono ?_
    rintro e w1 ⟨rfl, hb⟩
    exact ⟨_, none, none, a2, 0, 0, c2, rfl, rfl, hb⟩
  · refine (l8Rest_2 who kd nm tm vs hs sn hd to r no a0 a1 a2 c0 c1 c2 w).mono ?_
    rintro e w1 ⟨rfl, hb⟩
    exact ⟨_, none, a1, a2, 0, c1, c2, rfl, rfl, hb⟩
  · refine (l8Rest_3 who kd nm tm vs hs sn hd to r no a0 a1 a2 c0 c1 c2 w).mono ?_
    rintro e w1 ⟨rfl, hb⟩
    exact ⟨_, a0, a1, a2, c0, c1, c2, rfl, rfl, hb⟩
  · refine (l8Rest_4 who kd nm tm vs hs sn hd to r no a0 a1 a2 c0 c1 c2 w).mono ?_
    rintro e w1 ⟨rfl, hb⟩
    exact ⟨_, a0, a1, a2, c0, c1, c2, rfl, rfl, hb⟩
  · refine (l8Rest_5 who kd nm tm vs hs sn hd to r no a0 a1 a2 c0 c1 c2 w).mono ?_
    rintro e w1 ⟨rfl, hb⟩
    exact ⟨_, a0, a1, none, c0, c1, 0, rfl, rfl, hb⟩
  · refine (l8Rest_6 who kd nm tm vs hs sn hd to r no a0 a1 a2 c0 c1 c2 w).mono ?_
    rintro e w1 ⟨rfl, hb⟩
    exact ⟨_, a0, a1, a2, c0, c1, c2, rfl, rfl, hb⟩

end Go.Proofs.YtpmlngcljbkchaaGreat
