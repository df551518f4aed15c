import Derived.Test.YthclaldbcfljfabGreatDoorWF
import Derived.Test.YthclaldbcfljfabGreatDoorMX
namespace Go.Proofs.YthclaldbcfljfabGreatDoor
open Go.RowKit

def kindEs : Array MapEntry := #[⟨.int .i64 1, .func (.func 44) #[] #[], 0⟩, ⟨.int .i64 2, .func (.func 45) #[] #[], 1⟩, ⟨.int .i64 3, .func (.func 46) #[] #[], 2⟩, ⟨.int .i64 4, .func (.func 47) #[] #[], 3⟩]

set_option maxHeartbeats 400000 in
theorem fieldKinds_any (w : World) :
    Calls Tryz.prog 28 #[] w fun e w' => e = .returned (.map (some w.heap.size)) ∧ w' = w.alloc (.map kindEs 4) := by
  have hmm := @run_makeMap Tryz.prog
  have i1 := run_update_last (P := Tryz.prog) Tryz.underlying63 Tryz.underlying3 (.int .i64 1) (.func (.func 44) #[] #[]) rfl #[] 0 rfl
  have i2 := run_update_last (P := Tryz.prog) Tryz.underlying63 Tryz.underlying3 (.int .i64 2) (.func (.func 45) #[] #[]) rfl #[⟨.int .i64 1, .func (.func 44) #[] #[], 0⟩] 1 rfl
  have i3 := run_update_last (P := Tryz.prog) Tryz.underlying63 Tryz.underlying3 (.int .i64 3) (.func (.func 46) #[] #[]) rfl #[⟨.int .i64 1, .func (.func 44) #[] #[], 0⟩, ⟨.int .i64 2, .func (.func 45) #[] #[], 1⟩] 2 rfl
  have i4 := run_update_last (P := Tryz.prog) Tryz.underlying63 Tryz.underlying3 (.int .i64 4) (.func (.func 47) #[] #[]) rfl #[⟨.int .i64 1, .func (.func 44) #[] #[], 0⟩, ⟨.int .i64 2, .func (.func 45) #[] #[], 1⟩, ⟨.int .i64 3, .func (.func 46) #[] #[], 2⟩] 3 rfl
  simp only [List.push_toArray, List.cons_append, List.nil_append, Nat.zero_add, Nat.reduceAdd] at i1 i2 i3 i4
  go_enter Tryz.func28, Tryz.ntmps28
  go_wp2
  go_ret
  exact ⟨rfl, rfl⟩

set_option maxHeartbeats 400000 in
theorem kind1_any (nm : ByteArray) (kd ls ms : Int) (a : Option Addr) (n cap : Nat) (to : ByteArray) (rl : Int) (mu fx : Bool) (df wg : ByteArray) (w : World) :
    Calls Tryz.prog 44 #[.agg #[.string nm, .int .i64 kd, .int .i64 ls, .int .i64 ms, .slice a n cap, .string to, .int .i64 rl, .bool mu, .bool fx, .string df, .string wg]] w
      fun e w' => e = .returned (.iface 87 (.agg #[.string nm, .int .i64 kd, .int .i64 ls, .int .i64 ms, .slice a n cap, .string to, .int .i64 rl, .bool mu, .bool fx, .string df, .string wg])) ∧ Below w.heap.size w w' := by
  go_enter Tryz.func44, Tryz.ntmps44
  go_wp2
  go_ret
  exact ⟨rfl, (Below.refl _ _).alloc (Nat.le_refl _) _⟩

set_option maxHeartbeats 400000 in
theorem kind2_any (nm : ByteArray) (kd ls ms : Int) (a : Option Addr) (n cap : Nat) (to : ByteArray) (rl : Int) (mu fx : Bool) (df wg : ByteArray) (w : World) :
    Calls Tryz.prog 45 #[.agg #[.string nm, .int .i64 kd, .int .i64 ls, .int .i64 ms, .slice a n cap, .string to, .int .i64 rl, .bool mu, .bool fx, .string df, .string wg]] w
      fun e w' => e = .returned (.iface 89 (.agg #[.string nm, .int .i64 kd, .int .i64 ls, .int .i64 ms, .slice a n cap, .string to, .int .i64 rl, .bool mu, .bool fx, .string df, .string wg])) ∧ Below w.heap.size w w' := by
  go_enter Tryz.func45, Tryz.ntmps45
  go_wp2
  go_ret
  exact ⟨rfl, (Below.refl _ _).alloc (Nat.le_refl _) _⟩

set_option maxHeartbeats 400000 in
theorem kind3_any (nm : ByteArray) (kd ls ms : Int) (a : Option Addr) (n cap : Nat) (to : ByteArray) (rl : Int) (mu fx : Bool) (df wg : ByteArray) (w : World) :
    Calls Tryz.prog 46 #[.agg #[.string nm, .int .i64 kd, .int .i64 ls, .int .i64 ms, .slice a n cap, .string to, .int .i64 rl, .bool mu, .bool fx, .string df, .string wg]] w
      fun e w' => e = .returned (.iface 90 (.agg #[.string nm, .int .i64 kd, .int .i64 ls, .int .i64 ms, .slice a n cap, .string to, .int .i64 rl, .bool mu, .bool fx, .string df, .string wg])) ∧ Below w.heap.size w w' := by
  go_enter Tryz.func46, Tryz.ntmps46
  go_wp2
  go_ret
  exact ⟨rfl, (Below.refl _ _).alloc (Nat.le_refl _) _⟩

set_option maxHeartbeats 400000 in
theorem kind4_any (nm : ByteArray) (kd ls ms : Int) (a : Option Addr) (n cap : Nat) (to : ByteArray) (rl : Int) (mu fx : Bool) (df wg : ByteArray) (w : World) :
    Calls Tryz.prog 47 #[.agg #[.string nm, .int .i64 kd, .int .i64 ls, .int .i64 ms, .slice a n cap, .string to, .int .i64 rl, .bool mu, .bool fx, .string df, .string wg]] w
      fun e w' => e = .returned (.iface 91 (.agg #[.string nm, .int .i64 kd, .int .i64 ls, .int .i64 ms, .slice a n cap, .string to, .int .i64 rl, .bool mu, .bool fx, .string df, .string wg])) ∧ Below w.heap.size w w' := by
  go_enter Tryz.func47, Tryz.ntmps47
  go_wp2
  go_ret
  exact ⟨rfl, (Below.refl _ _).alloc (Nat.le_refl _) _⟩


theorem method_fits1 (x : Value) (w : World) : (method 264 87 x "loop.example/wharfgate/impl.fits").run Tryz.prog w = .ok (93, x) w := by kernel_rfl

theorem method_fits2 (x : Value) (w : World) : (method 264 89 x "loop.example/wharfgate/impl.fits").run Tryz.prog w = .ok (98, x) w := by kernel_rfl

theorem method_fits3 (x : Value) (w : World) : (method 264 90 x "loop.example/wharfgate/impl.fits").run Tryz.prog w = .ok (103, x) w := by kernel_rfl

theorem method_fits4 (x : Value) (w : World) : (method 264 91 x "loop.example/wharfgate/impl.fits").run Tryz.prog w = .ok (106, x) w := by kernel_rfl

set_option maxHeartbeats 400000 in
theorem tableFits_1 (r : Nat) (nm : ByteArray) (ls ms : Int) (a : Option Addr) (cap : Nat) (ws : List ByteArray) (to : ByteArray) (rl : Int) (mu fx : Bool) (df wg : ByteArray) (v : ByteArray) (w : World) (hr : w.heap[r]? = some (.map kindEs 4)) (hv : v.size ≤ maxLen) (hz : ¬ v.size = 0) :
    Calls Tryz.prog 73 #[.map (some r), .agg #[.string nm, .int .i64 1, .int .i64 ls, .int .i64 ms, .slice a ws.length cap, .string to, .int .i64 rl, .bool mu, .bool fx, .string df, .string wg], .string v] w
      fun e w' => e = .returned (.bool (Gate.fits 1 ls ms ws v)) ∧ Below w.heap.size w w' := by
  rw [Gate.fits_1 ls ms ws v hz]
  have hne : v.toList.isEmpty = false := by rw [Gate.isEmpty_of_size]; simp [hz]
  have hlt : r < w.heap.size := (Array.getElem?_eq_some_iff.1 hr).1
  have hlk : ∀ o, (Instr.lookup 63 (.map (some r)) (.int .i64 1) true).run Tryz.prog (w.alloc o) = .ok (.tuple #[.func (.func 44) #[] #[], .bool true]) (w.alloc o) :=
    fun o => run_lookup_hit Tryz.underlying63 Tryz.underlying3 (.int .i64 1) _ rfl kindEs 4 0 rfl (w.alloc o) r ((Below.heap_alloc w o r hlt).trans hr)
  clear hr
  have hmt := method_fits1
  go_enter Tryz.func73, Tryz.ntmps73
  go_wp2_with (first
    | (go_at_call 44; refine (kind1_any _ _ _ _ _ _ _ _ _ _ _ _ _ _).mono ?_; rintro e w1 ⟨rfl, hb1⟩)
    | (go_at_call 93; refine (numberFits_any _ _ _ _ _ _ _ _ _ _ _ _ _ hv).mono ?_; rintro e w2 ⟨rfl, hb2⟩))
  go_ret
  exact ⟨rfl, (((Below.refl _ _).alloc (Nat.le_refl _) _).trans (hb1.mono (by simp))).trans (hb2.mono (by have := hb1.size; simp at this; omega))⟩

set_option maxHeartbeats 400000 in
theorem tableFits_2 (r : Nat) (nm : ByteArray) (ls ms : Int) (a : Option Addr) (cap : Nat) (ws : List ByteArray) (to : ByteArray) (rl : Int) (mu fx : Bool) (df wg : ByteArray) (v : ByteArray) (w : World) (hr : w.heap[r]? = some (.map kindEs 4)) (hws : StrsAt w a ws) (hz : ¬ v.size = 0) :
    Calls Tryz.prog 73 #[.map (some r), .agg #[.string nm, .int .i64 2, .int .i64 ls, .int .i64 ms, .slice a ws.length cap, .string to, .int .i64 rl, .bool mu, .bool fx, .string df, .string wg], .string v] w
      fun e w' => e = .returned (.bool (Gate.fits 2 ls ms ws v)) ∧ Below w.heap.size w w' := by
  rw [Gate.fits_2 ls ms ws v hz]
  have hne : v.toList.isEmpty = false := by rw [Gate.isEmpty_of_size]; simp [hz]
  have hlt : r < w.heap.size := (Array.getElem?_eq_some_iff.1 hr).1
  have hlk : ∀ o, (Instr.lookup 63 (.map (some r)) (.int .i64 2) true).run Tryz.prog (w.alloc o) = .ok (.tuple #[.func (.func 45) #[] #[], .bool true]) (w.alloc o) :=
    fun o => run_lookup_hit Tryz.underlying63 Tryz.underlying3 (.int .i64 2) _ rfl kindEs 4 1 rfl (w.alloc o) r ((Below.heap_alloc w o r hlt).trans hr)
  clear hr
  have hmt := method_fits2
  go_enter Tryz.func73, Tryz.ntmps73
  go_wp2_with (first
    | (go_at_call 45; refine (kind2_any _ _ _ _ _ _ _ _ _ _ _ _ _ _).mono ?_; rintro e w1 ⟨rfl, hb1⟩; have hws1 := (hws.mono ((Below.refl _ _).alloc (Nat.le_refl _) _)).mono hb1)
    | (go_at_call 98; refine (wordFits_any _ _ _ _ _ _ _ _ _ _ _ _ _ _ _ (by exact hws1)).mono ?_; rintro e w2 ⟨rfl, hb2⟩))
  go_ret
  exact ⟨rfl, (((Below.refl _ _).alloc (Nat.le_refl _) _).trans (hb1.mono (by simp))).trans (hb2.mono (by have := hb1.size; simp at this; omega))⟩

set_option maxHeartbeats 400000 in
theorem tableFits_3 (r : Nat) (nm : ByteArray) (ls ms : Int) (a : Option Addr) (cap : Nat) (ws : List ByteArray) (to : ByteArray) (rl : Int) (mu fx : Bool) (df wg : ByteArray) (v : ByteArray) (w : World) (hr : w.heap[r]? = some (.map kindEs 4)) (hv : v.size ≤ maxLen) (hz : ¬ v.size = 0) :
    Calls Tryz.prog 73 #[.map (some r), .agg #[.string nm, .int .i64 3, .int .i64 ls, .int .i64 ms, .slice a ws.length cap, .string to, .int .i64 rl, .bool mu, .bool fx, .string df, .string wg], .string v] w
      fun e w' => e = .returned (.bool (Gate.fits 3 ls ms ws v)) ∧ Below w.heap.size w w' := by
  rw [Gate.fits_3 ls ms ws v hz]
  have hne : v.toList.isEmpty = false := by rw [Gate.isEmpty_of_size]; simp [hz]
  have hlt : r < w.heap.size := (Array.getElem?_eq_some_iff.1 hr).1
  have hlk : ∀ o, (Instr.lookup 63 (.map (some r)) (.int .i64 3) true).run Tryz.prog (w.alloc o) = .ok (.tuple #[.func (.func 46) #[] #[], .bool true]) (w.alloc o) :=
    fun o => run_lookup_hit Tryz.underlying63 Tryz.underlying3 (.int .i64 3) _ rfl kindEs 4 2 rfl (w.alloc o) r ((Below.heap_alloc w o r hlt).trans hr)
  clear hr
  have hmt := method_fits3
  go_enter Tryz.func73, Tryz.ntmps73
  go_wp2_with (first
    | (go_at_call 46; refine (kind3_any _ _ _ _ _ _ _ _ _ _ _ _ _ _).mono ?_; rintro e w1 ⟨rfl, hb1⟩)
    | (go_at_call 103; refine (textFits_any _ _ _ _ _ _ _ _ _ _ _ _ _ hv).mono ?_; rintro e w2 ⟨rfl, hb2⟩))
  go_ret
  exact ⟨rfl, (((Below.refl _ _).alloc (Nat.le_refl _) _).trans (hb1.mono (by simp))).trans (hb2.mono (by have := hb1.size; simp at this; omega))⟩

set_option maxHeartbeats 400000 in
theorem tableFits_4 (r : Nat) (nm : ByteArray) (ls ms : Int) (a : Option Addr) (cap : Nat) (ws : List ByteArray) (to : ByteArray) (rl : Int) (mu fx : Bool) (df wg : ByteArray) (v : ByteArray) (w : World) (hr : w.heap[r]? = some (.map kindEs 4)) (hv : v.size ≤ maxLen) (hz : ¬ v.size = 0) :
    Calls Tryz.prog 73 #[.map (some r), .agg #[.string nm, .int .i64 4, .int .i64 ls, .int .i64 ms, .slice a ws.length cap, .string to, .int .i64 rl, .bool mu, .bool fx, .string df, .string wg], .string v] w
      fun e w' => e = .returned (.bool (Gate.fits 4 ls ms ws v)) ∧ Below w.heap.size w w' := by
  rw [Gate.fits_4 ls ms ws v hz]
  have hne : v.toList.isEmpty = false := by rw [Gate.isEmpty_of_size]; simp [hz]
  have hlt : r < w.heap.size := (Array.getElem?_eq_some_iff.1 hr).1
  have hlk : ∀ o, (Instr.lookup 63 (.map (some r)) (.int .i64 4) true).run Tryz.prog (w.alloc o) = .ok (.tuple #[.func (.func 47) #[] #[], .bool true]) (w.alloc o) :=
    fun o => run_lookup_hit Tryz.underlying63 Tryz.underlying3 (.int .i64 4) _ rfl kindEs 4 3 rfl (w.alloc o) r ((Below.heap_alloc w o r hlt).trans hr)
  clear hr
  have hmt := method_fits4
  go_enter Tryz.func73, Tryz.ntmps73
  go_wp2_with (first
    | (go_at_call 47; refine (kind4_any _ _ _ _ _ _ _ _ _ _ _ _ _ _).mono ?_; rintro e w1 ⟨rfl, hb1⟩)
    | (go_at_call 106; refine (linkFits_any _ _ _ _ _ _ _ _ _ _ _ _ _ hv).mono ?_; rintro e w2 ⟨rfl, hb2⟩))
  go_ret
  exact ⟨rfl, (((Below.refl _ _).alloc (Nat.le_refl _) _).trans (hb1.mono (by simp))).trans (hb2.mono (by have := hb1.size; simp at this; omega))⟩

theorem kind_zero (w : World) : (zeroValue 88).run Tryz.prog w = .ok .nilFunc w := by kernel_rfl

theorem kind_find (kd : Int) (h1 : kd ≠ 1) (h2 : kd ≠ 2) (h3 : kd ≠ 3) (h4 : kd ≠ 4) : Instr.findNow (.int .i64) (.int .i64 kd) kindEs.toList 0 = some none := by
  have e1 : (kd == 1) = false := by simpa using h1
  have e2 : (kd == 2) = false := by simpa using h2
  have e3 : (kd == 3) = false := by simpa using h3
  have e4 : (kd == 4) = false := by simpa using h4
  simp [Instr.findNow, Instr.sameNow, kindEs, e1, e2, e3, e4]

set_option maxHeartbeats 400000 in
theorem tableFits_other (r : Nat) (nm : ByteArray) (kd ls ms : Int) (a : Option Addr) (cap : Nat) (ws : List ByteArray) (to : ByteArray) (rl : Int) (mu fx : Bool) (df wg : ByteArray) (v : ByteArray) (w : World) (hr : w.heap[r]? = some (.map kindEs 4)) (h1 : kd ≠ 1) (h2 : kd ≠ 2) (h3 : kd ≠ 3) (h4 : kd ≠ 4) :
    Calls Tryz.prog 73 #[.map (some r), .agg #[.string nm, .int .i64 kd, .int .i64 ls, .int .i64 ms, .slice a ws.length cap, .string to, .int .i64 rl, .bool mu, .bool fx, .string df, .string wg], .string v] w
      fun e w' => e = .returned (.bool (Gate.fits kd ls ms ws v)) ∧ Below w.heap.size w w' := by
  rw [Gate.fits_other kd ls ms ws v h1 h2 h3 h4]
  have hlt : r < w.heap.size := (Array.getElem?_eq_some_iff.1 hr).1
  have hlk : ∀ o, (Instr.lookup 63 (.map (some r)) (.int .i64 kd) true).run Tryz.prog (w.alloc o) = .ok (.tuple #[.nilFunc, .bool false]) (w.alloc o) :=
    fun o => run_lookup_miss Tryz.underlying63 Tryz.underlying3 (.int .i64 kd) _ rfl kindEs 4 (kind_find kd h1 h2 h3 h4) (w.alloc o) (kind_zero _) r ((Below.heap_alloc w o r hlt).trans hr)
  clear hr h1 h2 h3 h4
  go_enter Tryz.func73, Tryz.ntmps73
  go_wp2_with fail
  go_ret
  exact ⟨rfl, (Below.refl _ _).alloc (Nat.le_refl _) _⟩

set_option maxHeartbeats 400000 in
theorem tableFits_1_empty (r : Nat) (nm : ByteArray) (ls ms : Int) (a : Option Addr) (cap : Nat) (ws : List ByteArray) (to : ByteArray) (rl : Int) (mu fx : Bool) (df wg : ByteArray) (v : ByteArray) (w : World) (hr : w.heap[r]? = some (.map kindEs 4)) (hz : v.size = 0) :
    Calls Tryz.prog 73 #[.map (some r), .agg #[.string nm, .int .i64 1, .int .i64 ls, .int .i64 ms, .slice a ws.length cap, .string to, .int .i64 rl, .bool mu, .bool fx, .string df, .string wg], .string v] w
      fun e w' => e = .returned (.bool (Gate.fits 1 ls ms ws v)) ∧ Below w.heap.size w w' := by
  rw [Gate.fits_empty 1 ls ms ws v hz]
  have hne : v.toList.isEmpty = true := by rw [Gate.isEmpty_of_size]; simp [hz]
  clear hz
  have hlt : r < w.heap.size := (Array.getElem?_eq_some_iff.1 hr).1
  have hlk : ∀ o, (Instr.lookup 63 (.map (some r)) (.int .i64 1) true).run Tryz.prog (w.alloc o) = .ok (.tuple #[.func (.func 44) #[] #[], .bool true]) (w.alloc o) :=
    fun o => run_lookup_hit Tryz.underlying63 Tryz.underlying3 (.int .i64 1) _ rfl kindEs 4 0 rfl (w.alloc o) r ((Below.heap_alloc w o r hlt).trans hr)
  clear hr
  go_enter Tryz.func73, Tryz.ntmps73
  go_wp2_with fail
  go_ret
  exact ⟨rfl, (Below.refl _ _).alloc (Nat.le_refl _) _⟩

set_option maxHeartbeats 400000 in
theorem tableFits_2_empty (r : Nat) (nm : ByteArray) (ls ms : Int) (a : Option Addr) (cap : Nat) (ws : List ByteArray) (to : ByteArray) (rl : Int) (mu fx : Bool) (df wg : ByteArray) (v : ByteArray) (w : World) (hr : w.heap[r]? = some (.map kindEs 4)) (hz : v.size = 0) :
    Calls Tryz.prog 73 #[.map (some r), .agg #[.string nm, .int .i64 2, .int .i64 ls, .int .i64 ms, .slice a ws.length cap, .string to, .int .i64 rl, .bool mu, .bool fx, .string df, .string wg], .string v] w
      fun e w' => e = .returned (.bool (Gate.fits 2 ls ms ws v)) ∧ Below w.heap.size w w' := by
  rw [Gate.fits_empty 2 ls ms ws v hz]
  have hne : v.toList.isEmpty = true := by rw [Gate.isEmpty_of_size]; simp [hz]
  clear hz
  have hlt : r < w.heap.size := (Array.getElem?_eq_some_iff.1 hr).1
  have hlk : ∀ o, (Instr.lookup 63 (.map (some r)) (.int .i64 2) true).run Tryz.prog (w.alloc o) = .ok (.tuple #[.func (.func 45) #[] #[], .bool true]) (w.alloc o) :=
    fun o => run_lookup_hit Tryz.underlying63 Tryz.underlying3 (.int .i64 2) _ rfl kindEs 4 1 rfl (w.alloc o) r ((Below.heap_alloc w o r hlt).trans hr)
  clear hr
  go_enter Tryz.func73, Tryz.ntmps73
  go_wp2_with fail
  go_ret
  exact ⟨rfl, (Below.refl _ _).alloc (Nat.le_refl _) _⟩

set_option maxHeartbeats 400000 in
theorem tableFits_3_empty (r : Nat) (nm : ByteArray) (ls ms : Int) (a : Option Addr) (cap : Nat) (ws : List ByteArray) (to : ByteArray) (rl : Int) (mu fx : Bool) (df wg : ByteArray) (v : ByteArray) (w : World) (hr : w.heap[r]? = some (.map kindEs 4)) (hz : v.size = 0) :
    Calls Tryz.prog 73 #[.map (some r), .agg #[.string nm, .int .i64 3, .int .i64 ls, .int .i64 ms, .slice a ws.length cap, .string to, .int .i64 rl, .bool mu, .bool fx, .string df, .string wg], .string v] w
      fun e w' => e = .returned (.bool (Gate.fits 3 ls ms ws v)) ∧ Below w.heap.size w w' := by
  rw [Gate.fits_empty 3 ls ms ws v hz]
  have hne : v.toList.isEmpty = true := by rw [Gate.isEmpty_of_size]; simp [hz]
  clear hz
  have hlt : r < w.heap.size := (Array.getElem?_eq_some_iff.1 hr).1
  have hlk : ∀ o, (Instr.lookup 63 (.map (some r)) (.int .i64 3) true).run Tryz.prog (w.alloc o) = .ok (.tuple #[.func (.func 46) #[] #[], .bool true]) (w.alloc o) :=
    fun o => run_lookup_hit Tryz.underlying63 Tryz.underlying3 (.int .i64 3) _ rfl kindEs 4 2 rfl (w.alloc o) r ((Below.heap_alloc w o r hlt).trans hr)
  clear hr
  go_enter Tryz.func73, Tryz.ntmps73
  go_wp2_with fail
  go_ret
  exact ⟨rfl, (Below.refl _ _).alloc (Nat.le_refl _) _⟩

set_option maxHeartbeats 400000 in
theorem tableFits_4_empty (r : Nat) (nm : ByteArray) (ls ms : Int) (a : Option Addr) (cap : Nat) (ws : List ByteArray) (to : ByteArray) (rl : Int) (mu fx : Bool) (df wg : ByteArray) (v : ByteArray) (w : World) (hr : w.heap[r]? = some (.map kindEs 4)) (hz : v.size = 0) :
    Calls Tryz.prog 73 #[.map (some r), .agg #[.string nm, .int .i64 4, .int .i64 ls, .int .i64 ms, .slice a ws.length cap, .string to, .int .i64 rl, .bool mu, .bool fx, .string df, .string wg], .string v] w
      fun e w' => e = .returned (.bool (Gate.fits 4 ls ms ws v)) ∧ Below w.heap.size w w' := by
  rw [Gate.fits_empty 4 ls ms ws v hz]
  have hne : v.toList.isEmpty = true := by rw [Gate.isEmpty_of_size]; simp [hz]
  clear hz
  have hlt : r < w.heap.size := (Array.getElem?_eq_some_iff.1 hr).1
  have hlk : ∀ o, (Instr.lookup 63 (.map (some r)) (.int .i64 4) true).run Tryz.prog (w.alloc o) = .ok (.tuple #[.func (.func 47) #[] #[], .bool true]) (w.alloc o) :=
    fun o => run_lookup_hit Tryz.underlying63 Tryz.underlying3 (.int .i64 4) _ rfl kindEs 4 3 rfl (w.alloc o) r ((Below.heap_alloc w o r hlt).trans hr)
  clear hr
  go_enter Tryz.func73, Tryz.ntmps73
  go_wp2_with fail
  go_ret
  exact ⟨rfl, (Below.refl _ _).alloc (Nat.le_refl _) _⟩

theorem tableFits_any (r : Nat) (nm : ByteArray) (kd ls ms : Int) (a : Option Addr) (cap : Nat) (ws : List ByteArray) (to : ByteArray) (rl : Int) (mu fx : Bool) (df wg : ByteArray) (v : ByteArray) (w : World) (hr : w.heap[r]? = some (.map kindEs 4)) (hv : v.size ≤ maxLen) (hws : StrsAt w a ws) :
    Calls Tryz.prog 73 #[.map (some r), .agg #[.string nm, .int .i64 kd, .int .i64 ls, .int .i64 ms, .slice a ws.length cap, .string to, .int .i64 rl, .bool mu, .bool fx, .string df, .string wg], .string v] w
      fun e w' => e = .returned (.bool (Gate.fits kd ls ms ws v)) ∧ Below w.heap.size w w' := by
  by_cases h1 : kd = 1
  · subst h1; by_cases hz : v.size = 0
    · exact tableFits_1_empty r nm ls ms a cap ws to rl mu fx df wg v w hr hz
    · exact tableFits_1 r nm ls ms a cap ws to rl mu fx df wg v w hr hv hz
  by_cases h2 : kd = 2
  · subst h2; by_cases hz : v.size = 0
    · exact tableFits_2_empty r nm ls ms a cap ws to rl mu fx df wg v w hr hz
    · exact tableFits_2 r nm ls ms a cap ws to rl mu fx df wg v w hr hws hz
  by_cases h3 : kd = 3
  · subst h3; by_cases hz : v.size = 0
    · exact tableFits_3_empty r nm ls ms a cap ws to rl mu fx df wg v w hr hz
    · exact tableFits_3 r nm ls ms a cap ws to rl mu fx df wg v w hr hv hz
  by_cases h4 : kd = 4
  · subst h4; by_cases hz : v.size = 0
    · exact tableFits_4_empty r nm ls ms a cap ws to rl mu fx df wg v w hr hz
    · exact tableFits_4 r nm ls ms a cap ws to rl mu fx df wg v w hr hv hz
  exact tableFits_other r nm kd ls ms a cap ws to rl mu fx df wg v w hr h1 h2 h3 h4

end Go.Proofs.YthclaldbcfljfabGreatDoor
