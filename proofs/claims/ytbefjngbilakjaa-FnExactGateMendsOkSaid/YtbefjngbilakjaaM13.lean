import Derived.Test.YtbefjngbilakjaaM12
import Derived.Test.YtbefjngbilakjaaM08
import Derived.Test.YtbefjngbilakjaaM05
namespace Go.Proofs.Ytbefjngbilakjaa
open Go.RowKit

def kindEs : Array MapEntry := #[⟨.int .i64 1, .func (.func 62) #[] #[], 0⟩, ⟨.int .i64 2, .func (.func 63) #[] #[], 1⟩, ⟨.int .i64 3, .func (.func 64) #[] #[], 2⟩, ⟨.int .i64 4, .func (.func 65) #[] #[], 3⟩]

set_option maxHeartbeats 400000 in
theorem fieldKinds_any (w : World) :
    Calls Try.prog 36 #[] w fun e w' => e = .returned (.map (some w.heap.size)) ∧ w' = w.alloc (.map kindEs 4) := by
  have hmm := @run_makeMap Try.prog
  have i1 := run_update_last (P := Try.prog) Try.underlying62 Try.underlying3 (.int .i64 1) (.func (.func 62) #[] #[]) rfl #[] 0 rfl
  have i2 := run_update_last (P := Try.prog) Try.underlying62 Try.underlying3 (.int .i64 2) (.func (.func 63) #[] #[]) rfl #[⟨.int .i64 1, .func (.func 62) #[] #[], 0⟩] 1 rfl
  have i3 := run_update_last (P := Try.prog) Try.underlying62 Try.underlying3 (.int .i64 3) (.func (.func 64) #[] #[]) rfl #[⟨.int .i64 1, .func (.func 62) #[] #[], 0⟩, ⟨.int .i64 2, .func (.func 63) #[] #[], 1⟩] 2 rfl
  have i4 := run_update_last (P := Try.prog) Try.underlying62 Try.underlying3 (.int .i64 4) (.func (.func 65) #[] #[]) rfl #[⟨.int .i64 1, .func (.func 62) #[] #[], 0⟩, ⟨.int .i64 2, .func (.func 63) #[] #[], 1⟩, ⟨.int .i64 3, .func (.func 64) #[] #[], 2⟩] 3 rfl
  simp only [List.push_toArray, List.cons_append, List.nil_append, Nat.zero_add, Nat.reduceAdd] at i1 i2 i3 i4
  go_enter Try.func36, Try.ntmps36
  go_wp2
  go_ret
  exact ⟨rfl, rfl⟩

set_option maxHeartbeats 400000 in
theorem kind1_any (nm : ByteArray) (kd ls ms : Int) (a : Option Addr) (n cap : Nat) (to : ByteArray) (rl : Int) (mu fx : Bool) (df wg : ByteArray) (w : World) :
    Calls Try.prog 62 #[.agg #[.string nm, .int .i64 kd, .int .i64 ls, .int .i64 ms, .slice a n cap, .string to, .int .i64 rl, .bool mu, .bool fx, .string df, .string wg]] w
      fun e w' => e = .returned (.iface 97 (.agg #[.string nm, .int .i64 kd, .int .i64 ls, .int .i64 ms, .slice a n cap, .string to, .int .i64 rl, .bool mu, .bool fx, .string df, .string wg])) ∧ Below w.heap.size w w' := by
  go_enter Try.func62, Try.ntmps62
  go_wp2
  go_ret
  exact ⟨rfl, (Below.refl _ _).alloc (Nat.le_refl _) _⟩

set_option maxHeartbeats 400000 in
theorem kind2_any (nm : ByteArray) (kd ls ms : Int) (a : Option Addr) (n cap : Nat) (to : ByteArray) (rl : Int) (mu fx : Bool) (df wg : ByteArray) (w : World) :
    Calls Try.prog 63 #[.agg #[.string nm, .int .i64 kd, .int .i64 ls, .int .i64 ms, .slice a n cap, .string to, .int .i64 rl, .bool mu, .bool fx, .string df, .string wg]] w
      fun e w' => e = .returned (.iface 99 (.agg #[.string nm, .int .i64 kd, .int .i64 ls, .int .i64 ms, .slice a n cap, .string to, .int .i64 rl, .bool mu, .bool fx, .string df, .string wg])) ∧ Below w.heap.size w w' := by
  go_enter Try.func63, Try.ntmps63
  go_wp2
  go_ret
  exact ⟨rfl, (Below.refl _ _).alloc (Nat.le_refl _) _⟩

set_option maxHeartbeats 400000 in
theorem kind3_any (nm : ByteArray) (kd ls ms : Int) (a : Option Addr) (n cap : Nat) (to : ByteArray) (rl : Int) (mu fx : Bool) (df wg : ByteArray) (w : World) :
    Calls Try.prog 64 #[.agg #[.string nm, .int .i64 kd, .int .i64 ls, .int .i64 ms, .slice a n cap, .string to, .int .i64 rl, .bool mu, .bool fx, .string df, .string wg]] w
      fun e w' => e = .returned (.iface 100 (.agg #[.string nm, .int .i64 kd, .int .i64 ls, .int .i64 ms, .slice a n cap, .string to, .int .i64 rl, .bool mu, .bool fx, .string df, .string wg])) ∧ Below w.heap.size w w' := by
  go_enter Try.func64, Try.ntmps64
  go_wp2
  go_ret
  exact ⟨rfl, (Below.refl _ _).alloc (Nat.le_refl _) _⟩

set_option maxHeartbeats 400000 in
theorem kind4_any (nm : ByteArray) (kd ls ms : Int) (a : Option Addr) (n cap : Nat) (to : ByteArray) (rl : Int) (mu fx : Bool) (df wg : ByteArray) (w : World) :
    Calls Try.prog 65 #[.agg #[.string nm, .int .i64 kd, .int .i64 ls, .int .i64 ms, .slice a n cap, .string to, .int .i64 rl, .bool mu, .bool fx, .string df, .string wg]] w
      fun e w' => e = .returned (.iface 101 (.agg #[.string nm, .int .i64 kd, .int .i64 ls, .int .i64 ms, .slice a n cap, .string to, .int .i64 rl, .bool mu, .bool fx, .string df, .string wg])) ∧ Below w.heap.size w w' := by
  go_enter Try.func65, Try.ntmps65
  go_wp2
  go_ret
  exact ⟨rfl, (Below.refl _ _).alloc (Nat.le_refl _) _⟩


theorem method_fits1 (x : Value) (w : World) : (method 250 97 x "loop.example/wharfgate/impl.fits").run Try.prog w = .ok (106, x) w := by kernel_rfl

theorem method_fits2 (x : Value) (w : World) : (method 250 99 x "loop.example/wharfgate/impl.fits").run Try.prog w = .ok (111, x) w := by kernel_rfl

theorem method_fits3 (x : Value) (w : World) : (method 250 100 x "loop.example/wharfgate/impl.fits").run Try.prog w = .ok (117, x) w := by kernel_rfl

theorem method_fits4 (x : Value) (w : World) : (method 250 101 x "loop.example/wharfgate/impl.fits").run Try.prog w = .ok (120, x) w := by kernel_rfl

set_option maxHeartbeats 400000 in
theorem tableFits_1 (r : Nat) (nm : ByteArray) (ls ms : Int) (a : Option Addr) (cap : Nat) (ws : List ByteArray) (to : ByteArray) (rl : Int) (mu fx : Bool) (df wg : ByteArray) (v : ByteArray) (w : World) (hr : w.heap[r]? = some (.map kindEs 4)) (hv : v.size ≤ maxLen) (hz : ¬ v.size = 0) :
    Calls Try.prog 37 #[.map (some r), .agg #[.string nm, .int .i64 1, .int .i64 ls, .int .i64 ms, .slice a ws.length cap, .string to, .int .i64 rl, .bool mu, .bool fx, .string df, .string wg], .string v] w
      fun e w' => e = .returned (.bool (Gate.fits 1 ls ms ws v)) ∧ Below w.heap.size w w' := by
  rw [Gate.fits_1 ls ms ws v hz]
  have hne : v.toList.isEmpty = false := by rw [Gate.isEmpty_of_size]; simp [hz]
  have hlt : r < w.heap.size := (Array.getElem?_eq_some_iff.1 hr).1
  have hlk : ∀ o, (Instr.lookup 62 (.map (some r)) (.int .i64 1) true).run Try.prog (w.alloc o) = .ok (.tuple #[.func (.func 62) #[] #[], .bool true]) (w.alloc o) :=
    fun o => run_lookup_hit Try.underlying62 Try.underlying3 (.int .i64 1) _ rfl kindEs 4 0 rfl (w.alloc o) r ((Below.heap_alloc w o r hlt).trans hr)
  clear hr
  have hmt := method_fits1
  go_enter Try.func37, Try.ntmps37
  go_wp2_with (first
    | (go_at_call 62; refine (kind1_any _ _ _ _ _ _ _ _ _ _ _ _ _ _).mono ?_; rintro e w1 ⟨rfl, hb1⟩)
    | (go_at_call 106; refine (numberFits_any _ _ _ _ _ _ _ _ _ _ _ _ _ hv).mono ?_; rintro e w2 ⟨rfl, hb2⟩))
  go_ret
  exact ⟨rfl, (((Below.refl _ _).alloc (Nat.le_refl _) _).trans (hb1.mono (by simp))).trans (hb2.mono (by have := hb1.size; simp at this; omega))⟩

set_option maxHeartbeats 400000 in
theorem tableFits_2 (r : Nat) (nm : ByteArray) (ls ms : Int) (a : Option Addr) (cap : Nat) (ws : List ByteArray) (to : ByteArray) (rl : Int) (mu fx : Bool) (df wg : ByteArray) (v : ByteArray) (w : World) (hr : w.heap[r]? = some (.map kindEs 4)) (hws : StrsAt w a ws) (hz : ¬ v.size = 0) :
    Calls Try.prog 37 #[.map (some r), .agg #[.string nm, .int .i64 2, .int .i64 ls, .int .i64 ms, .slice a ws.length cap, .string to, .int .i64 rl, .bool mu, .bool fx, .string df, .string wg], .string v] w
      fun e w' => e = .returned (.bool (Gate.fits 2 ls ms ws v)) ∧ Below w.heap.size w w' := by
  rw [Gate.fits_2 ls ms ws v hz]
  have hne : v.toList.isEmpty = false := by rw [Gate.isEmpty_of_size]; simp [hz]
  have hlt : r < w.heap.size := (Array.getElem?_eq_some_iff.1 hr).1
  have hlk : ∀ o, (Instr.lookup 62 (.map (some r)) (.int .i64 2) true).run Try.prog (w.alloc o) = .ok (.tuple #[.func (.func 63) #[] #[], .bool true]) (w.alloc o) :=
    fun o => run_lookup_hit Try.underlying62 Try.underlying3 (.int .i64 2) _ rfl kindEs 4 1 rfl (w.alloc o) r ((Below.heap_alloc w o r hlt).trans hr)
  clear hr
  have hmt := method_fits2
  go_enter Try.func37, Try.ntmps37
  go_wp2_with (first
    | (go_at_call 63; refine (kind2_any _ _ _ _ _ _ _ _ _ _ _ _ _ _).mono ?_; rintro e w1 ⟨rfl, hb1⟩; have hws1 := (hws.mono ((Below.refl _ _).alloc (Nat.le_refl _) _)).mono hb1)
    | (go_at_call 111; refine (wordFits_any _ _ _ _ _ _ _ _ _ _ _ _ _ _ _ (by exact hws1)).mono ?_; rintro e w2 ⟨rfl, hb2⟩))
  go_ret
  exact ⟨rfl, (((Below.refl _ _).alloc (Nat.le_refl _) _).trans (hb1.mono (by simp))).trans (hb2.mono (by have := hb1.size; simp at this; omega))⟩

set_option maxHeartbeats 400000 in
theorem tableFits_3 (r : Nat) (nm : ByteArray) (ls ms : Int) (a : Option Addr) (cap : Nat) (ws : List ByteArray) (to : ByteArray) (rl : Int) (mu fx : Bool) (df wg : ByteArray) (v : ByteArray) (w : World) (hr : w.heap[r]? = some (.map kindEs 4)) (hv : v.size ≤ maxLen) (hz : ¬ v.size = 0) :
    Calls Try.prog 37 #[.map (some r), .agg #[.string nm, .int .i64 3, .int .i64 ls, .int .i64 ms, .slice a ws.length cap, .string to, .int .i64 rl, .bool mu, .bool fx, .string df, .string wg], .string v] w
      fun e w' => e = .returned (.bool (Gate.fits 3 ls ms ws v)) ∧ Below w.heap.size w w' := by
  rw [Gate.fits_3 ls ms ws v hz]
  have hne : v.toList.isEmpty = false := by rw [Gate.isEmpty_of_size]; simp [hz]
  have hlt : r < w.heap.size := (Array.getElem?_eq_some_iff.1 hr).1
  have hlk : ∀ o, (Instr.lookup 62 (.map (some r)) (.int .i64 3) true).run Try.prog (w.alloc o) = .ok (.tuple #[.func (.func 64) #[] #[], .bool true]) (w.alloc o) :=
    fun o => run_lookup_hit Try.underlying62 Try.underlying3 (.int .i64 3) _ rfl kindEs 4 2 rfl (w.alloc o) r ((Below.heap_alloc w o r hlt).trans hr)
  clear hr
  have hmt := method_fits3
  go_enter Try.func37, Try.ntmps37
  go_wp2_with (first
    | (go_at_call 64; refine (kind3_any _ _ _ _ _ _ _ _ _ _ _ _ _ _).mono ?_; rintro e w1 ⟨rfl, hb1⟩)
    | (go_at_call 117; refine (textFits_any _ _ _ _ _ _ _ _ _ _ _ _ _ hv).mono ?_; rintro e w2 ⟨rfl, hb2⟩))
  go_ret
  exact ⟨rfl, (((Below.refl _ _).alloc (Nat.le_refl _) _).trans (hb1.mono (by simp))).trans (hb2.mono (by have := hb1.size; simp at this; omega))⟩

set_option maxHeartbeats 400000 in
theorem tableFits_4 (r : Nat) (nm : ByteArray) (ls ms : Int) (a : Option Addr) (cap : Nat) (ws : List ByteArray) (to : ByteArray) (rl : Int) (mu fx : Bool) (df wg : ByteArray) (v : ByteArray) (w : World) (hr : w.heap[r]? = some (.map kindEs 4)) (hv : v.size ≤ maxLen) (hz : ¬ v.size = 0) :
    Calls Try.prog 37 #[.map (some r), .agg #[.string nm, .int .i64 4, .int .i64 ls, .int .i64 ms, .slice a ws.length cap, .string to, .int .i64 rl, .bool mu, .bool fx, .string df, .string wg], .string v] w
      fun e w' => e = .returned (.bool (Gate.fits 4 ls ms ws v)) ∧ Below w.heap.size w w' := by
  rw [Gate.fits_4 ls ms ws v hz]
  have hne : v.toList.isEmpty = false := by rw [Gate.isEmpty_of_size]; simp [hz]
  have hlt : r < w.heap.size := (Array.getElem?_eq_some_iff.1 hr).1
  have hlk : ∀ o, (Instr.lookup 62 (.map (some r)) (.int .i64 4) true).run Try.prog (w.alloc o) = .ok (.tuple #[.func (.func 65) #[] #[], .bool true]) (w.alloc o) :=
    fun o => run_lookup_hit Try.underlying62 Try.underlying3 (.int .i64 4) _ rfl kindEs 4 3 rfl (w.alloc o) r ((Below.heap_alloc w o r hlt).trans hr)
  clear hr
  have hmt := method_fits4
  go_enter Try.func37, Try.ntmps37
  go_wp2_with (first
    | (go_at_call 65; refine (kind4_any _ _ _ _ _ _ _ _ _ _ _ _ _ _).mono ?_; rintro e w1 ⟨rfl, hb1⟩)
    | (go_at_call 120; refine (linkFits_any _ _ _ _ _ _ _ _ _ _ _ _ _ hv).mono ?_; rintro e w2 ⟨rfl, hb2⟩))
  go_ret
  exact ⟨rfl, (((Below.refl _ _).alloc (Nat.le_refl _) _).trans (hb1.mono (by simp))).trans (hb2.mono (by have := hb1.size; simp at this; omega))⟩

theorem kind_zero (w : World) : (zeroValue 98).run Try.prog w = .ok .nilFunc w := by kernel_rfl

theorem kind_find (kd : Int) (h1 : kd ≠ 1) (h2 : kd ≠ 2) (h3 : kd ≠ 3) (h4 : kd ≠ 4) : Instr.findNow (.int .i64) (.int .i64 kd) kindEs.toList 0 = some none := by
  have e1 : (kd == 1) = false := by simpa using h1
  have e2 : (kd == 2) = false := by simpa using h2
  have e3 : (kd == 3) = false := by simpa using h3
  have e4 : (kd == 4) = false := by simpa using h4
  simp [Instr.findNow, Instr.sameNow, kindEs, e1, e2, e3, e4]

set_option maxHeartbeats 400000 in
theorem tableFits_other (r : Nat) (nm : ByteArray) (kd ls ms : Int) (a : Option Addr) (cap : Nat) (ws : List ByteArray) (to : ByteArray) (rl : Int) (mu fx : Bool) (df wg : ByteArray) (v : ByteArray) (w : World) (hr : w.heap[r]? = some (.map kindEs 4)) (h1 : kd ≠ 1) (h2 : kd ≠ 2) (h3 : kd ≠ 3) (h4 : kd ≠ 4) :
    Calls Try.prog 37 #[.map (some r), .agg #[.string nm, .int .i64 kd, .int .i64 ls, .int .i64 ms, .slice a ws.length cap, .string to, .int .i64 rl, .bool mu, .bool fx, .string df, .string wg], .string v] w
      fun e w' => e = .returned (.bool (Gate.fits kd ls ms ws v)) ∧ Below w.heap.size w w' := by
  rw [Gate.fits_other kd ls ms ws v h1 h2 h3 h4]
  have hlt : r < w.heap.size := (Array.getElem?_eq_some_iff.1 hr).1
  have hlk : ∀ o, (Instr.lookup 62 (.map (some r)) (.int .i64 kd) true).run Try.prog (w.alloc o) = .ok (.tuple #[.nilFunc, .bool false]) (w.alloc o) :=
    fun o => run_lookup_miss Try.underlying62 Try.underlying3 (.int .i64 kd) _ rfl kindEs 4 (kind_find kd h1 h2 h3 h4) (w.alloc o) (kind_zero _) r ((Below.heap_alloc w o r hlt).trans hr)
  clear hr h1 h2 h3 h4
  go_enter Try.func37, Try.ntmps37
  go_wp2_with fail
  go_ret
  exact ⟨rfl, (Below.refl _ _).alloc (Nat.le_refl _) _⟩

set_option maxHeartbeats 400000 in
theorem tableFits_1_empty (r : Nat) (nm : ByteArray) (ls ms : Int) (a : Option Addr) (cap : Nat) (ws : List ByteArray) (to : ByteArray) (rl : Int) (mu fx : Bool) (df wg : ByteArray) (v : ByteArray) (w : World) (hr : w.heap[r]? = some (.map kindEs 4)) (hz : v.size = 0) :
    Calls Try.prog 37 #[.map (some r), .agg #[.string nm, .int .i64 1, .int .i64 ls, .int .i64 ms, .slice a ws.length cap, .string to, .int .i64 rl, .bool mu, .bool fx, .string df, .string wg], .string v] w
      fun e w' => e = .returned (.bool (Gate.fits 1 ls ms ws v)) ∧ Below w.heap.size w w' := by
  rw [Gate.fits_empty 1 ls ms ws v hz]
  have hne : v.toList.isEmpty = true := by rw [Gate.isEmpty_of_size]; simp [hz]
  clear hz
  have hlt : r < w.heap.size := (Array.getElem?_eq_some_iff.1 hr).1
  have hlk : ∀ o, (Instr.lookup 62 (.map (some r)) (.int .i64 1) true).run Try.prog (w.alloc o) = .ok (.tuple #[.func (.func 62) #[] #[], .bool true]) (w.alloc o) :=
    fun o => run_lookup_hit Try.underlying62 Try.underlying3 (.int .i64 1) _ rfl kindEs 4 0 rfl (w.alloc o) r ((Below.heap_alloc w o r hlt).trans hr)
  clear hr
  go_enter Try.func37, Try.ntmps37
  go_wp2_with fail
  go_ret
  exact ⟨rfl, (Below.refl _ _).alloc (Nat.le_refl _) _⟩

set_option maxHeartbeats 400000 in
theorem tableFits_2_empty (r : Nat) (nm : ByteArray) (ls ms : Int) (a : Option Addr) (cap : Nat) (ws : List ByteArray) (to : ByteArray) (rl : Int) (mu fx : Bool) (df wg : ByteArray) (v : ByteArray) (w : World) (hr : w.heap[r]? = some (.map kindEs 4)) (hz : v.size = 0) :
    Calls Try.prog 37 #[.map (some r), .agg #[.string nm, .int .i64 2, .int .i64 ls, .int .i64 ms, .slice a ws.length cap, .string to, .int .i64 rl, .bool mu, .bool fx, .string df, .string wg], .string v] w
      fun e w' => e = .returned (.bool (Gate.fits 2 ls ms ws v)) ∧ Below w.heap.size w w' := by
  rw [Gate.fits_empty 2 ls ms ws v hz]
  have hne : v.toList.isEmpty = true := by rw [Gate.isEmpty_of_size]; simp [hz]
  clear hz
  have hlt : r < w.heap.size := (Array.getElem?_eq_some_iff.1 hr).1
  have hlk : ∀ o, (Instr.lookup 62 (.map (some r)) (.int .i64 2) true).run Try.prog (w.alloc o) = .ok (.tuple #[.func (.func 63) #[] #[], .bool true]) (w.alloc o) :=
    fun o => run_lookup_hit Try.underlying62 Try.underlying3 (.int .i64 2) _ rfl kindEs 4 1 rfl (w.alloc o) r ((Below.heap_alloc w o r hlt).trans hr)
  clear hr
  go_enter Try.func37, Try.ntmps37
  go_wp2_with fail
  go_ret
  exact ⟨rfl, (Below.refl _ _).alloc (Nat.le_refl _) _⟩

set_option maxHeartbeats 400000 in
theorem tableFits_3_empty (r : Nat) (nm : ByteArray) (ls ms : Int) (a : Option Addr) (cap : Nat) (ws : List ByteArray) (to : ByteArray) (rl : Int) (mu fx : Bool) (df wg : ByteArray) (v : ByteArray) (w : World) (hr : w.heap[r]? = some (.map kindEs 4)) (hz : v.size = 0) :
    Calls Try.prog 37 #[.map (some r), .agg #[.string nm, .int .i64 3, .int .i64 ls, .int .i64 ms, .slice a ws.length cap, .string to, .int .i64 rl, .bool mu, .bool fx, .string df, .string wg], .string v] w
      fun e w' => e = .returned (.bool (Gate.fits 3 ls ms ws v)) ∧ Below w.heap.size w w' := by
  rw [Gate.fits_empty 3 ls ms ws v hz]
  have hne : v.toList.isEmpty = true := by rw [Gate.isEmpty_of_size]; simp [hz]
  clear hz
  have hlt : r < w.heap.size := (Array.getElem?_eq_some_iff.1 hr).1
  have hlk : ∀ o, (Instr.lookup 62 (.map (some r)) (.int .i64 3) true).run Try.prog (w.alloc o) = .ok (.tuple #[.func (.func 64) #[] #[], .bool true]) (w.alloc o) :=
    fun o => run_lookup_hit Try.underlying62 Try.underlying3 (.int .i64 3) _ rfl kindEs 4 2 rfl (w.alloc o) r ((Below.heap_alloc w o r hlt).trans hr)
  clear hr
  go_enter Try.func37, Try.ntmps37
  go_wp2_with fail
  go_ret
  exact ⟨rfl, (Below.refl _ _).alloc (Nat.le_refl _) _⟩

set_option maxHeartbeats 400000 in
theorem tableFits_4_empty (r : Nat) (nm : ByteArray) (ls ms : Int) (a : Option Addr) (cap : Nat) (ws : List ByteArray) (to : ByteArray) (rl : Int) (mu fx : Bool) (df wg : ByteArray) (v : ByteArray) (w : World) (hr : w.heap[r]? = some (.map kindEs 4)) (hz : v.size = 0) :
    Calls Try.prog 37 #[.map (some r), .agg #[.string nm, .int .i64 4, .int .i64 ls, .int .i64 ms, .slice a ws.length cap, .string to, .int .i64 rl, .bool mu, .bool fx, .string df, .string wg], .string v] w
      fun e w' => e = .returned (.bool (Gate.fits 4 ls ms ws v)) ∧ Below w.heap.size w w' := by
  rw [Gate.fits_empty 4 ls ms ws v hz]
  have hne : v.toList.isEmpty = true := by rw [Gate.isEmpty_of_size]; simp [hz]
  clear hz
  have hlt : r < w.heap.size := (Array.getElem?_eq_some_iff.1 hr).1
  have hlk : ∀ o, (Instr.lookup 62 (.map (some r)) (.int .i64 4) true).run Try.prog (w.alloc o) = .ok (.tuple #[.func (.func 65) #[] #[], .bool true]) (w.alloc o) :=
    fun o => run_lookup_hit Try.underlying62 Try.underlying3 (.int .i64 4) _ rfl kindEs 4 3 rfl (w.alloc o) r ((Below.heap_alloc w o r hlt).trans hr)
  clear hr
  go_enter Try.func37, Try.ntmps37
  go_wp2_with fail
  go_ret
  exact ⟨rfl, (Below.refl _ _).alloc (Nat.le_refl _) _⟩

theorem tableFits_any (r : Nat) (nm : ByteArray) (kd ls ms : Int) (a : Option Addr) (cap : Nat) (ws : List ByteArray) (to : ByteArray) (rl : Int) (mu fx : Bool) (df wg : ByteArray) (v : ByteArray) (w : World) (hr : w.heap[r]? = some (.map kindEs 4)) (hv : v.size ≤ maxLen) (hws : StrsAt w a ws) :
    Calls Try.prog 37 #[.map (some r), .agg #[.string nm, .int .i64 kd, .int .i64 ls, .int .i64 ms, .slice a ws.length cap, .string to, .int .i64 rl, .bool mu, .bool fx, .string df, .string wg], .string v] w
      fun e w' => e = .returned (.bool (Gate.fits kd ls ms ws v)) ∧ Below w.heap.size w w' := by
  by_cases h1 : kd = 1
  · subst h1; by_cases hz : v.size = 0
    · exact tableFits_1_empty r nm ls ms a cap ws to rl mu fx df wg v w hr hz
    · exact tableFits_1 r nm ls ms a cap ws to rl mu fx df wg v w hr hv hz
  by_cases h2 : kd = 2
  · subst h2; by_cases hz : v.size = 0
    · exact tableFits_2_empty r nm ls ms a cap ws to rl mu fx df wg v w hr hz
    · exact tableFits_2 r nm ls ms a cap ws to rl mu fx df wg v w hr hws hz
  by_cases h3 : kd = 3
  · subst h3; by_cases hz : v.size = 0
    · exact tableFits_3_empty r nm ls ms a cap ws to rl mu fx df wg v w hr hz
    · exact tableFits_3 r nm ls ms a cap ws to rl mu fx df wg v w hr hv hz
  by_cases h4 : kd = 4
  · subst h4; by_cases hz : v.size = 0
    · exact tableFits_4_empty r nm ls ms a cap ws to rl mu fx df wg v w hr hz
    · exact tableFits_4 r nm ls ms a cap ws to rl mu fx df wg v w hr hv hz
  exact tableFits_other r nm kd ls ms a cap ws to rl mu fx df wg v w hr h1 h2 h3 h4

end Go.Proofs.Ytbefjngbilakjaa

namespace Go.Proofs.Ytbefjngbilakjaa
open Go.RowKit

theorem method_bare1 (x : Value) (w : World) : (method 250 97 x "loop.example/wharfgate/impl.bare").run Try.prog w = .ok (105, x) w := by kernel_rfl
theorem method_sound1 (x : Value) (w : World) : (method 250 97 x "loop.example/wharfgate/impl.sound").run Try.prog w = .ok (107, x) w := by kernel_rfl
theorem method_bare2 (x : Value) (w : World) : (method 250 99 x "loop.example/wharfgate/impl.bare").run Try.prog w = .ok (110, x) w := by kernel_rfl
theorem method_sound2 (x : Value) (w : World) : (method 250 99 x "loop.example/wharfgate/impl.sound").run Try.prog w = .ok (112, x) w := by kernel_rfl
theorem method_bare3 (x : Value) (w : World) : (method 250 100 x "loop.example/wharfgate/impl.bare").run Try.prog w = .ok (116, x) w := by kernel_rfl
theorem method_sound3 (x : Value) (w : World) : (method 250 100 x "loop.example/wharfgate/impl.sound").run Try.prog w = .ok (118, x) w := by kernel_rfl
theorem method_bare4 (x : Value) (w : World) : (method 250 101 x "loop.example/wharfgate/impl.bare").run Try.prog w = .ok (119, x) w := by kernel_rfl
theorem method_sound4 (x : Value) (w : World) : (method 250 101 x "loop.example/wharfgate/impl.sound").run Try.prog w = .ok (121, x) w := by kernel_rfl

set_option maxHeartbeats 1000000 in
theorem fieldOk_1 (r : Nat) (nm : ByteArray) (ls ms : Int) (a : Option Addr) (cap : Nat) (ws : List ByteArray) (to : ByteArray) (rl : Int) (mu fx : Bool) (df wg : ByteArray) (a0 : Option Addr) (cap0 : Nat) (ss : List Shp) (w : World) (hr : w.heap[r]? = some (.map kindEs 4)) (hdf : df.size ≤ maxLen) (hwg : wg.size ≤ maxLen) :
    Calls Try.prog 73 #[.map (some r), .slice a0 ss.length cap0, .agg #[.string nm, .int .i64 1, .int .i64 ls, .int .i64 ms, .slice a ws.length cap, .string to, .int .i64 rl, .bool mu, .bool fx, .string df, .string wg]] w
      fun e w' => e = .returned (.bool (Gate.fieldOk ss ⟨nm, 1, ls, ms, ws, to, rl, mu, fx, df, wg⟩)) ∧ Below w.heap.size w w' := by
  have HO : Hid (Gate.fieldOk ss ⟨nm, 1, ls, ms, ws, to, rl, mu, fx, df, wg⟩ = (Gate.bareOf 1 ls ms ws.length to rl wg && Gate.soundOf ss ⟨nm, 1, ls, ms, ws, to, rl, mu, fx, df, wg⟩ && (df.toList.isEmpty || Gate.fits 1 ls ms ws df))) := rfl
  have hlt : r < w.heap.size := (Array.getElem?_eq_some_iff.1 hr).1
  have hlk : ∀ o, (Instr.lookup 62 (.map (some r)) (.int .i64 1) true).run Try.prog (w.alloc o) = .ok (.tuple #[.func (.func 62) #[] #[], .bool true]) (w.alloc o) :=
    fun o => run_lookup_hit Try.underlying62 Try.underlying3 (.int .i64 1) _ rfl kindEs 4 0 rfl (w.alloc o) r ((Below.heap_alloc w o r hlt).trans hr)
  clear hr
  have hm1 := method_bare1
  have hm2 := method_sound1
  have hm3 := method_fits1
  by_cases hbare : Gate.bareOf 1 ls ms ws.length to rl wg = true
  rotate_left
  · have HBare : Hid (Gate.bareOf 1 ls ms ws.length to rl wg = false) := by simpa [Hid] using hbare
    clear hbare hm2 hm3
    go_enter Try.func73, Try.ntmps73
    go_wp2_with fail
    refine (kind1_any _ _ _ _ _ _ _ _ _ _ _ _ _ _).mono ?_
    rintro e w1 ⟨rfl, hb1⟩
    have hX1 := box_later (box_new w _ _) (by simp) hb1
    have hz1 : w.heap.size < w1.heap.size := by have := hb1.size; simp at this; omega
    have hB1 : Below w.heap.size w w1 := ((Below.refl _ _).alloc (Nat.le_refl _) _).trans (hb1.mono (by simp))
    clear hb1 hlk
    go_wp2_with fail
    refine (as_bool HBare.out (numberBare_any _ _ _ _ _ _ _ _ _ _ _ _ _ _)).mono ?_
    rintro e w2 ⟨rfl, hb2⟩
    have hX2 := box_later hX1 hz1 hb2
    have hz2 : w.heap.size < w2.heap.size := by have := hb2.size; omega
    have hB2 : Below w.heap.size w w2 := hB1.trans (hb2.mono (by omega))
    clear hb2 hX1 hz1 hB1
    go_wp2_with fail
    go_ret
    exact ⟨ret_bool (by rw [HO.out, HBare.out]; rfl), hB2⟩
  have HBare : Hid (Gate.bareOf 1 ls ms ws.length to rl wg = true) := hbare
  clear hbare
  by_cases hsnd : Gate.soundOf ss ⟨nm, 1, ls, ms, ws, to, rl, mu, fx, df, wg⟩ = true
  rotate_left
  · have HSnd : Hid (Gate.soundOf ss ⟨nm, 1, ls, ms, ws, to, rl, mu, fx, df, wg⟩ = false) := by simpa [Hid] using hsnd
    clear hsnd hm3
    go_enter Try.func73, Try.ntmps73
    go_wp2_with fail
    refine (kind1_any _ _ _ _ _ _ _ _ _ _ _ _ _ _).mono ?_
    rintro e w1 ⟨rfl, hb1⟩
    have hX1 := box_later (box_new w _ _) (by simp) hb1
    have hz1 : w.heap.size < w1.heap.size := by have := hb1.size; simp at this; omega
    have hB1 : Below w.heap.size w w1 := ((Below.refl _ _).alloc (Nat.le_refl _) _).trans (hb1.mono (by simp))
    clear hb1 hlk
    go_wp2_with fail
    refine (as_bool HBare.out (numberBare_any _ _ _ _ _ _ _ _ _ _ _ _ _ _)).mono ?_
    rintro e w2 ⟨rfl, hb2⟩
    have hX2 := box_later hX1 hz1 hb2
    have hz2 : w.heap.size < w2.heap.size := by have := hb2.size; omega
    have hB2 : Below w.heap.size w w2 := hB1.trans (hb2.mono (by omega))
    clear hb2 hX1 hz1 hB1
    go_wp2_with fail
    refine (as_bool HSnd.out (numberSound_any _ _ _ _ _ _ _ _ _ _ _ _ _ _ _ _ hwg)).mono ?_
    rintro e w3 ⟨rfl, hb3⟩
    have hX3 := box_later hX2 hz2 hb3
    have hz3 : w.heap.size < w3.heap.size := by have := hb3.size; omega
    have hB3 : Below w.heap.size w w3 := hB2.trans (hb3.mono (by omega))
    clear hb3 hX2 hz2 hB2
    go_wp2_with fail
    go_ret
    exact ⟨ret_bool (by rw [HO.out, HBare.out, HSnd.out]; rfl), hB3⟩
  have HSnd : Hid (Gate.soundOf ss ⟨nm, 1, ls, ms, ws, to, rl, mu, fx, df, wg⟩ = true) := hsnd
  clear hsnd
  by_cases hd : df.toList.isEmpty = true
  · have HD : Hid (df.toList.isEmpty = true) := hd
    go_enter Try.func73, Try.ntmps73
    go_wp2_with fail
    refine (kind1_any _ _ _ _ _ _ _ _ _ _ _ _ _ _).mono ?_
    rintro e w1 ⟨rfl, hb1⟩
    have hX1 := box_later (box_new w _ _) (by simp) hb1
    have hz1 : w.heap.size < w1.heap.size := by have := hb1.size; simp at this; omega
    have hB1 : Below w.heap.size w w1 := ((Below.refl _ _).alloc (Nat.le_refl _) _).trans (hb1.mono (by simp))
    clear hb1 hlk
    go_wp2_with fail
    refine (as_bool HBare.out (numberBare_any _ _ _ _ _ _ _ _ _ _ _ _ _ _)).mono ?_
    rintro e w2 ⟨rfl, hb2⟩
    have hX2 := box_later hX1 hz1 hb2
    have hz2 : w.heap.size < w2.heap.size := by have := hb2.size; omega
    have hB2 : Below w.heap.size w w2 := hB1.trans (hb2.mono (by omega))
    clear hb2 hX1 hz1 hB1
    go_wp2_with fail
    refine (as_bool HSnd.out (numberSound_any _ _ _ _ _ _ _ _ _ _ _ _ _ _ _ _ hwg)).mono ?_
    rintro e w3 ⟨rfl, hb3⟩
    have hX3 := box_later hX2 hz2 hb3
    have hz3 : w.heap.size < w3.heap.size := by have := hb3.size; omega
    have hB3 : Below w.heap.size w w3 := hB2.trans (hb3.mono (by omega))
    clear hb3 hX2 hz2 hB2
    go_wp2_with fail
    go_ret
    exact ⟨ret_bool (by rw [HO.out, HBare.out, HSnd.out, HD.out]; rfl), hB3⟩
  · have hd' : df.toList.isEmpty = false := by simpa using hd
    have HD : Hid (df.toList.isEmpty = false) := hd'
    have HZ : Hid (Gate.fits 1 ls ms ws df = Gate.numFits ls ms df) := Gate.fits_1 ls ms ws df (by intro h; rw [Gate.isEmpty_of_size] at hd'; simp [h] at hd')
    clear hd
    go_enter Try.func73, Try.ntmps73
    go_wp2_with fail
    refine (kind1_any _ _ _ _ _ _ _ _ _ _ _ _ _ _).mono ?_
    rintro e w1 ⟨rfl, hb1⟩
    have hX1 := box_later (box_new w _ _) (by simp) hb1
    have hz1 : w.heap.size < w1.heap.size := by have := hb1.size; simp at this; omega
    have hB1 : Below w.heap.size w w1 := ((Below.refl _ _).alloc (Nat.le_refl _) _).trans (hb1.mono (by simp))
    clear hb1 hlk
    go_wp2_with fail
    refine (as_bool HBare.out (numberBare_any _ _ _ _ _ _ _ _ _ _ _ _ _ _)).mono ?_
    rintro e w2 ⟨rfl, hb2⟩
    have hX2 := box_later hX1 hz1 hb2
    have hz2 : w.heap.size < w2.heap.size := by have := hb2.size; omega
    have hB2 : Below w.heap.size w w2 := hB1.trans (hb2.mono (by omega))
    clear hb2 hX1 hz1 hB1
    go_wp2_with fail
    refine (as_bool HSnd.out (numberSound_any _ _ _ _ _ _ _ _ _ _ _ _ _ _ _ _ hwg)).mono ?_
    rintro e w3 ⟨rfl, hb3⟩
    have hX3 := box_later hX2 hz2 hb3
    have hz3 : w.heap.size < w3.heap.size := by have := hb3.size; omega
    have hB3 : Below w.heap.size w w3 := hB2.trans (hb3.mono (by omega))
    clear hb3 hX2 hz2 hB2
    go_wp2_with fail
    refine (numberFits_any _ _ _ _ _ _ _ _ _ _ _ _ _ hdf).mono ?_
    rintro e w4 ⟨rfl, hb4⟩
    have hB4 : Below w.heap.size w w4 := hB3.trans (hb4.mono (by omega))
    clear hb4
    go_wp2_with fail
    go_ret
    exact ⟨ret_bool (by rw [HO.out, HBare.out, HSnd.out, HD.out, HZ.out]; rfl), hB4⟩

set_option maxHeartbeats 1000000 in
theorem fieldOk_2 (r : Nat) (nm : ByteArray) (ls ms : Int) (a : Option Addr) (cap : Nat) (ws : List ByteArray) (to : ByteArray) (rl : Int) (mu fx : Bool) (df wg : ByteArray) (a0 : Option Addr) (cap0 : Nat) (ss : List Shp) (w : World) (hr : w.heap[r]? = some (.map kindEs 4)) (hws : StrsAt w a ws) :
    Calls Try.prog 73 #[.map (some r), .slice a0 ss.length cap0, .agg #[.string nm, .int .i64 2, .int .i64 ls, .int .i64 ms, .slice a ws.length cap, .string to, .int .i64 rl, .bool mu, .bool fx, .string df, .string wg]] w
      fun e w' => e = .returned (.bool (Gate.fieldOk ss ⟨nm, 2, ls, ms, ws, to, rl, mu, fx, df, wg⟩)) ∧ Below w.heap.size w w' := by
  have HO : Hid (Gate.fieldOk ss ⟨nm, 2, ls, ms, ws, to, rl, mu, fx, df, wg⟩ = (Gate.bareOf 2 ls ms ws.length to rl wg && Gate.soundOf ss ⟨nm, 2, ls, ms, ws, to, rl, mu, fx, df, wg⟩ && (df.toList.isEmpty || Gate.fits 2 ls ms ws df))) := rfl
  have hlt : r < w.heap.size := (Array.getElem?_eq_some_iff.1 hr).1
  have hlk : ∀ o, (Instr.lookup 62 (.map (some r)) (.int .i64 2) true).run Try.prog (w.alloc o) = .ok (.tuple #[.func (.func 63) #[] #[], .bool true]) (w.alloc o) :=
    fun o => run_lookup_hit Try.underlying62 Try.underlying3 (.int .i64 2) _ rfl kindEs 4 1 rfl (w.alloc o) r ((Below.heap_alloc w o r hlt).trans hr)
  clear hr
  have hm1 := method_bare2
  have hm2 := method_sound2
  have hm3 := method_fits2
  by_cases hbare : Gate.bareOf 2 ls ms ws.length to rl wg = true
  rotate_left
  · have HBare : Hid (Gate.bareOf 2 ls ms ws.length to rl wg = false) := by simpa [Hid] using hbare
    clear hbare hm2 hm3
    go_enter Try.func73, Try.ntmps73
    go_wp2_with fail
    refine (kind2_any _ _ _ _ _ _ _ _ _ _ _ _ _ _).mono ?_
    rintro e w1 ⟨rfl, hb1⟩
    have hX1 := box_later (box_new w _ _) (by simp) hb1
    have hz1 : w.heap.size < w1.heap.size := by have := hb1.size; simp at this; omega
    have hB1 : Below w.heap.size w w1 := ((Below.refl _ _).alloc (Nat.le_refl _) _).trans (hb1.mono (by simp))
    clear hb1 hlk
    go_wp2_with fail
    refine (as_bool HBare.out (wordBare_any _ _ _ _ _ _ _ _ _ _ _ _ _ _)).mono ?_
    rintro e w2 ⟨rfl, hb2⟩
    have hX2 := box_later hX1 hz1 hb2
    have hz2 : w.heap.size < w2.heap.size := by have := hb2.size; omega
    have hB2 : Below w.heap.size w w2 := hB1.trans (hb2.mono (by omega))
    clear hb2 hX1 hz1 hB1
    go_wp2_with fail
    go_ret
    exact ⟨ret_bool (by rw [HO.out, HBare.out]; rfl), hB2⟩
  have HBare : Hid (Gate.bareOf 2 ls ms ws.length to rl wg = true) := hbare
  clear hbare
  by_cases hsnd : Gate.soundOf ss ⟨nm, 2, ls, ms, ws, to, rl, mu, fx, df, wg⟩ = true
  rotate_left
  · have HSnd : Hid (Gate.soundOf ss ⟨nm, 2, ls, ms, ws, to, rl, mu, fx, df, wg⟩ = false) := by simpa [Hid] using hsnd
    clear hsnd hm3
    go_enter Try.func73, Try.ntmps73
    go_wp2_with fail
    refine (kind2_any _ _ _ _ _ _ _ _ _ _ _ _ _ _).mono ?_
    rintro e w1 ⟨rfl, hb1⟩
    have hX1 := box_later (box_new w _ _) (by simp) hb1
    have hz1 : w.heap.size < w1.heap.size := by have := hb1.size; simp at this; omega
    have hB1 : Below w.heap.size w w1 := ((Below.refl _ _).alloc (Nat.le_refl _) _).trans (hb1.mono (by simp))
    clear hb1 hlk
    go_wp2_with fail
    refine (as_bool HBare.out (wordBare_any _ _ _ _ _ _ _ _ _ _ _ _ _ _)).mono ?_
    rintro e w2 ⟨rfl, hb2⟩
    have hX2 := box_later hX1 hz1 hb2
    have hz2 : w.heap.size < w2.heap.size := by have := hb2.size; omega
    have hB2 : Below w.heap.size w w2 := hB1.trans (hb2.mono (by omega))
    clear hb2 hX1 hz1 hB1
    go_wp2_with fail
    refine (as_bool HSnd.out (wordSound_any _ _ _ _ _ _ _ _ _ _ _ _ _ _ _ _ (by exact hws.mono hB2))).mono ?_
    rintro e w3 ⟨rfl, hb3⟩
    have hX3 := box_later hX2 hz2 hb3
    have hz3 : w.heap.size < w3.heap.size := by have := hb3.size; omega
    have hB3 : Below w.heap.size w w3 := hB2.trans (hb3.mono (by omega))
    clear hb3 hX2 hz2 hB2
    go_wp2_with fail
    go_ret
    exact ⟨ret_bool (by rw [HO.out, HBare.out, HSnd.out]; rfl), hB3⟩
  have HSnd : Hid (Gate.soundOf ss ⟨nm, 2, ls, ms, ws, to, rl, mu, fx, df, wg⟩ = true) := hsnd
  clear hsnd
  by_cases hd : df.toList.isEmpty = true
  · have HD : Hid (df.toList.isEmpty = true) := hd
    go_enter Try.func73, Try.ntmps73
    go_wp2_with fail
    refine (kind2_any _ _ _ _ _ _ _ _ _ _ _ _ _ _).mono ?_
    rintro e w1 ⟨rfl, hb1⟩
    have hX1 := box_later (box_new w _ _) (by simp) hb1
    have hz1 : w.heap.size < w1.heap.size := by have := hb1.size; simp at this; omega
    have hB1 : Below w.heap.size w w1 := ((Below.refl _ _).alloc (Nat.le_refl _) _).trans (hb1.mono (by simp))
    clear hb1 hlk
    go_wp2_with fail
    refine (as_bool HBare.out (wordBare_any _ _ _ _ _ _ _ _ _ _ _ _ _ _)).mono ?_
    rintro e w2 ⟨rfl, hb2⟩
    have hX2 := box_later hX1 hz1 hb2
    have hz2 : w.heap.size < w2.heap.size := by have := hb2.size; omega
    have hB2 : Below w.heap.size w w2 := hB1.trans (hb2.mono (by omega))
    clear hb2 hX1 hz1 hB1
    go_wp2_with fail
    refine (as_bool HSnd.out (wordSound_any _ _ _ _ _ _ _ _ _ _ _ _ _ _ _ _ (by exact hws.mono hB2))).mono ?_
    rintro e w3 ⟨rfl, hb3⟩
    have hX3 := box_later hX2 hz2 hb3
    have hz3 : w.heap.size < w3.heap.size := by have := hb3.size; omega
    have hB3 : Below w.heap.size w w3 := hB2.trans (hb3.mono (by omega))
    clear hb3 hX2 hz2 hB2
    go_wp2_with fail
    go_ret
    exact ⟨ret_bool (by rw [HO.out, HBare.out, HSnd.out, HD.out]; rfl), hB3⟩
  · have hd' : df.toList.isEmpty = false := by simpa using hd
    have HD : Hid (df.toList.isEmpty = false) := hd'
    have HZ : Hid (Gate.fits 2 ls ms ws df = Gate.has ws df) := Gate.fits_2 ls ms ws df (by intro h; rw [Gate.isEmpty_of_size] at hd'; simp [h] at hd')
    clear hd
    go_enter Try.func73, Try.ntmps73
    go_wp2_with fail
    refine (kind2_any _ _ _ _ _ _ _ _ _ _ _ _ _ _).mono ?_
    rintro e w1 ⟨rfl, hb1⟩
    have hX1 := box_later (box_new w _ _) (by simp) hb1
    have hz1 : w.heap.size < w1.heap.size := by have := hb1.size; simp at this; omega
    have hB1 : Below w.heap.size w w1 := ((Below.refl _ _).alloc (Nat.le_refl _) _).trans (hb1.mono (by simp))
    clear hb1 hlk
    go_wp2_with fail
    refine (as_bool HBare.out (wordBare_any _ _ _ _ _ _ _ _ _ _ _ _ _ _)).mono ?_
    rintro e w2 ⟨rfl, hb2⟩
    have hX2 := box_later hX1 hz1 hb2
    have hz2 : w.heap.size < w2.heap.size := by have := hb2.size; omega
    have hB2 : Below w.heap.size w w2 := hB1.trans (hb2.mono (by omega))
    clear hb2 hX1 hz1 hB1
    go_wp2_with fail
    refine (as_bool HSnd.out (wordSound_any _ _ _ _ _ _ _ _ _ _ _ _ _ _ _ _ (by exact hws.mono hB2))).mono ?_
    rintro e w3 ⟨rfl, hb3⟩
    have hX3 := box_later hX2 hz2 hb3
    have hz3 : w.heap.size < w3.heap.size := by have := hb3.size; omega
    have hB3 : Below w.heap.size w w3 := hB2.trans (hb3.mono (by omega))
    clear hb3 hX2 hz2 hB2
    go_wp2_with fail
    refine (wordFits_any _ _ _ _ _ _ _ _ _ _ _ _ _ _ _ (by exact hws.mono hB3)).mono ?_
    rintro e w4 ⟨rfl, hb4⟩
    have hB4 : Below w.heap.size w w4 := hB3.trans (hb4.mono (by omega))
    clear hb4
    go_wp2_with fail
    go_ret
    exact ⟨ret_bool (by rw [HO.out, HBare.out, HSnd.out, HD.out, HZ.out]; rfl), hB4⟩

set_option maxHeartbeats 1000000 in
theorem fieldOk_3 (r : Nat) (nm : ByteArray) (ls ms : Int) (a : Option Addr) (cap : Nat) (ws : List ByteArray) (to : ByteArray) (rl : Int) (mu fx : Bool) (df wg : ByteArray) (a0 : Option Addr) (cap0 : Nat) (ss : List Shp) (w : World) (hr : w.heap[r]? = some (.map kindEs 4)) (hdf : df.size ≤ maxLen) :
    Calls Try.prog 73 #[.map (some r), .slice a0 ss.length cap0, .agg #[.string nm, .int .i64 3, .int .i64 ls, .int .i64 ms, .slice a ws.length cap, .string to, .int .i64 rl, .bool mu, .bool fx, .string df, .string wg]] w
      fun e w' => e = .returned (.bool (Gate.fieldOk ss ⟨nm, 3, ls, ms, ws, to, rl, mu, fx, df, wg⟩)) ∧ Below w.heap.size w w' := by
  have HO : Hid (Gate.fieldOk ss ⟨nm, 3, ls, ms, ws, to, rl, mu, fx, df, wg⟩ = (Gate.bareOf 3 ls ms ws.length to rl wg && Gate.soundOf ss ⟨nm, 3, ls, ms, ws, to, rl, mu, fx, df, wg⟩ && (df.toList.isEmpty || Gate.fits 3 ls ms ws df))) := rfl
  have hlt : r < w.heap.size := (Array.getElem?_eq_some_iff.1 hr).1
  have hlk : ∀ o, (Instr.lookup 62 (.map (some r)) (.int .i64 3) true).run Try.prog (w.alloc o) = .ok (.tuple #[.func (.func 64) #[] #[], .bool true]) (w.alloc o) :=
    fun o => run_lookup_hit Try.underlying62 Try.underlying3 (.int .i64 3) _ rfl kindEs 4 2 rfl (w.alloc o) r ((Below.heap_alloc w o r hlt).trans hr)
  clear hr
  have hm1 := method_bare3
  have hm2 := method_sound3
  have hm3 := method_fits3
  by_cases hbare : Gate.bareOf 3 ls ms ws.length to rl wg = true
  rotate_left
  · have HBare : Hid (Gate.bareOf 3 ls ms ws.length to rl wg = false) := by simpa [Hid] using hbare
    clear hbare hm2 hm3
    go_enter Try.func73, Try.ntmps73
    go_wp2_with fail
    refine (kind3_any _ _ _ _ _ _ _ _ _ _ _ _ _ _).mono ?_
    rintro e w1 ⟨rfl, hb1⟩
    have hX1 := box_later (box_new w _ _) (by simp) hb1
    have hz1 : w.heap.size < w1.heap.size := by have := hb1.size; simp at this; omega
    have hB1 : Below w.heap.size w w1 := ((Below.refl _ _).alloc (Nat.le_refl _) _).trans (hb1.mono (by simp))
    clear hb1 hlk
    go_wp2_with fail
    refine (as_bool HBare.out (textBare_any _ _ _ _ _ _ _ _ _ _ _ _ _ _)).mono ?_
    rintro e w2 ⟨rfl, hb2⟩
    have hX2 := box_later hX1 hz1 hb2
    have hz2 : w.heap.size < w2.heap.size := by have := hb2.size; omega
    have hB2 : Below w.heap.size w w2 := hB1.trans (hb2.mono (by omega))
    clear hb2 hX1 hz1 hB1
    go_wp2_with fail
    go_ret
    exact ⟨ret_bool (by rw [HO.out, HBare.out]; rfl), hB2⟩
  have HBare : Hid (Gate.bareOf 3 ls ms ws.length to rl wg = true) := hbare
  clear hbare
  by_cases hsnd : Gate.soundOf ss ⟨nm, 3, ls, ms, ws, to, rl, mu, fx, df, wg⟩ = true
  rotate_left
  · have HSnd : Hid (Gate.soundOf ss ⟨nm, 3, ls, ms, ws, to, rl, mu, fx, df, wg⟩ = false) := by simpa [Hid] using hsnd
    clear hsnd hm3
    go_enter Try.func73, Try.ntmps73
    go_wp2_with fail
    refine (kind3_any _ _ _ _ _ _ _ _ _ _ _ _ _ _).mono ?_
    rintro e w1 ⟨rfl, hb1⟩
    have hX1 := box_later (box_new w _ _) (by simp) hb1
    have hz1 : w.heap.size < w1.heap.size := by have := hb1.size; simp at this; omega
    have hB1 : Below w.heap.size w w1 := ((Below.refl _ _).alloc (Nat.le_refl _) _).trans (hb1.mono (by simp))
    clear hb1 hlk
    go_wp2_with fail
    refine (as_bool HBare.out (textBare_any _ _ _ _ _ _ _ _ _ _ _ _ _ _)).mono ?_
    rintro e w2 ⟨rfl, hb2⟩
    have hX2 := box_later hX1 hz1 hb2
    have hz2 : w.heap.size < w2.heap.size := by have := hb2.size; omega
    have hB2 : Below w.heap.size w w2 := hB1.trans (hb2.mono (by omega))
    clear hb2 hX1 hz1 hB1
    go_wp2_with fail
    refine (as_bool HSnd.out (textSound_any _ _ _ _ _ _ _ _ _ _ _ _ _ _ _ _)).mono ?_
    rintro e w3 ⟨rfl, hb3⟩
    have hX3 := box_later hX2 hz2 hb3
    have hz3 : w.heap.size < w3.heap.size := by have := hb3.size; omega
    have hB3 : Below w.heap.size w w3 := hB2.trans (hb3.mono (by omega))
    clear hb3 hX2 hz2 hB2
    go_wp2_with fail
    go_ret
    exact ⟨ret_bool (by rw [HO.out, HBare.out, HSnd.out]; rfl), hB3⟩
  have HSnd : Hid (Gate.soundOf ss ⟨nm, 3, ls, ms, ws, to, rl, mu, fx, df, wg⟩ = true) := hsnd
  clear hsnd
  by_cases hd : df.toList.isEmpty = true
  · have HD : Hid (df.toList.isEmpty = true) := hd
    go_enter Try.func73, Try.ntmps73
    go_wp2_with fail
    refine (kind3_any _ _ _ _ _ _ _ _ _ _ _ _ _ _).mono ?_
    rintro e w1 ⟨rfl, hb1⟩
    have hX1 := box_later (box_new w _ _) (by simp) hb1
    have hz1 : w.heap.size < w1.heap.size := by have := hb1.size; simp at this; omega
    have hB1 : Below w.heap.size w w1 := ((Below.refl _ _).alloc (Nat.le_refl _) _).trans (hb1.mono (by simp))
    clear hb1 hlk
    go_wp2_with fail
    refine (as_bool HBare.out (textBare_any _ _ _ _ _ _ _ _ _ _ _ _ _ _)).mono ?_
    rintro e w2 ⟨rfl, hb2⟩
    have hX2 := box_later hX1 hz1 hb2
    have hz2 : w.heap.size < w2.heap.size := by have := hb2.size; omega
    have hB2 : Below w.heap.size w w2 := hB1.trans (hb2.mono (by omega))
    clear hb2 hX1 hz1 hB1
    go_wp2_with fail
    refine (as_bool HSnd.out (textSound_any _ _ _ _ _ _ _ _ _ _ _ _ _ _ _ _)).mono ?_
    rintro e w3 ⟨rfl, hb3⟩
    have hX3 := box_later hX2 hz2 hb3
    have hz3 : w.heap.size < w3.heap.size := by have := hb3.size; omega
    have hB3 : Below w.heap.size w w3 := hB2.trans (hb3.mono (by omega))
    clear hb3 hX2 hz2 hB2
    go_wp2_with fail
    go_ret
    exact ⟨ret_bool (by rw [HO.out, HBare.out, HSnd.out, HD.out]; rfl), hB3⟩
  · have hd' : df.toList.isEmpty = false := by simpa using hd
    have HD : Hid (df.toList.isEmpty = false) := hd'
    have HZ : Hid (Gate.fits 3 ls ms ws df = Gate.textFits ls ms df) := Gate.fits_3 ls ms ws df (by intro h; rw [Gate.isEmpty_of_size] at hd'; simp [h] at hd')
    clear hd
    go_enter Try.func73, Try.ntmps73
    go_wp2_with fail
    refine (kind3_any _ _ _ _ _ _ _ _ _ _ _ _ _ _).mono ?_
    rintro e w1 ⟨rfl, hb1⟩
    have hX1 := box_later (box_new w _ _) (by simp) hb1
    have hz1 : w.heap.size < w1.heap.size := by have := hb1.size; simp at this; omega
    have hB1 : Below w.heap.size w w1 := ((Below.refl _ _).alloc (Nat.le_refl _) _).trans (hb1.mono (by simp))
    clear hb1 hlk
    go_wp2_with fail
    refine (as_bool HBare.out (textBare_any _ _ _ _ _ _ _ _ _ _ _ _ _ _)).mono ?_
    rintro e w2 ⟨rfl, hb2⟩
    have hX2 := box_later hX1 hz1 hb2
    have hz2 : w.heap.size < w2.heap.size := by have := hb2.size; omega
    have hB2 : Below w.heap.size w w2 := hB1.trans (hb2.mono (by omega))
    clear hb2 hX1 hz1 hB1
    go_wp2_with fail
    refine (as_bool HSnd.out (textSound_any _ _ _ _ _ _ _ _ _ _ _ _ _ _ _ _)).mono ?_
    rintro e w3 ⟨rfl, hb3⟩
    have hX3 := box_later hX2 hz2 hb3
    have hz3 : w.heap.size < w3.heap.size := by have := hb3.size; omega
    have hB3 : Below w.heap.size w w3 := hB2.trans (hb3.mono (by omega))
    clear hb3 hX2 hz2 hB2
    go_wp2_with fail
    refine (textFits_any _ _ _ _ _ _ _ _ _ _ _ _ _ hdf).mono ?_
    rintro e w4 ⟨rfl, hb4⟩
    have hB4 : Below w.heap.size w w4 := hB3.trans (hb4.mono (by omega))
    clear hb4
    go_wp2_with fail
    go_ret
    exact ⟨ret_bool (by rw [HO.out, HBare.out, HSnd.out, HD.out, HZ.out]; rfl), hB4⟩

set_option maxHeartbeats 1000000 in
theorem fieldOk_4 (r : Nat) (nm : ByteArray) (ls ms : Int) (a : Option Addr) (cap : Nat) (ws : List ByteArray) (to : ByteArray) (rl : Int) (mu fx : Bool) (df wg : ByteArray) (a0 : Option Addr) (cap0 : Nat) (ss : List Shp) (w : World) (hr : w.heap[r]? = some (.map kindEs 4)) (hdf : df.size ≤ maxLen) (hss : ShpsAt w a0 ss) :
    Calls Try.prog 73 #[.map (some r), .slice a0 ss.length cap0, .agg #[.string nm, .int .i64 4, .int .i64 ls, .int .i64 ms, .slice a ws.length cap, .string to, .int .i64 rl, .bool mu, .bool fx, .string df, .string wg]] w
      fun e w' => e = .returned (.bool (Gate.fieldOk ss ⟨nm, 4, ls, ms, ws, to, rl, mu, fx, df, wg⟩)) ∧ Below w.heap.size w w' := by
  have HO : Hid (Gate.fieldOk ss ⟨nm, 4, ls, ms, ws, to, rl, mu, fx, df, wg⟩ = (Gate.bareOf 4 ls ms ws.length to rl wg && Gate.soundOf ss ⟨nm, 4, ls, ms, ws, to, rl, mu, fx, df, wg⟩ && (df.toList.isEmpty || Gate.fits 4 ls ms ws df))) := rfl
  have hlt : r < w.heap.size := (Array.getElem?_eq_some_iff.1 hr).1
  have hlk : ∀ o, (Instr.lookup 62 (.map (some r)) (.int .i64 4) true).run Try.prog (w.alloc o) = .ok (.tuple #[.func (.func 65) #[] #[], .bool true]) (w.alloc o) :=
    fun o => run_lookup_hit Try.underlying62 Try.underlying3 (.int .i64 4) _ rfl kindEs 4 3 rfl (w.alloc o) r ((Below.heap_alloc w o r hlt).trans hr)
  clear hr
  have hm1 := method_bare4
  have hm2 := method_sound4
  have hm3 := method_fits4
  by_cases hbare : Gate.bareOf 4 ls ms ws.length to rl wg = true
  rotate_left
  · have HBare : Hid (Gate.bareOf 4 ls ms ws.length to rl wg = false) := by simpa [Hid] using hbare
    clear hbare hm2 hm3
    go_enter Try.func73, Try.ntmps73
    go_wp2_with fail
    refine (kind4_any _ _ _ _ _ _ _ _ _ _ _ _ _ _).mono ?_
    rintro e w1 ⟨rfl, hb1⟩
    have hX1 := box_later (box_new w _ _) (by simp) hb1
    have hz1 : w.heap.size < w1.heap.size := by have := hb1.size; simp at this; omega
    have hB1 : Below w.heap.size w w1 := ((Below.refl _ _).alloc (Nat.le_refl _) _).trans (hb1.mono (by simp))
    clear hb1 hlk
    go_wp2_with fail
    refine (as_bool HBare.out (linkBare_any _ _ _ _ _ _ _ _ _ _ _ _ _ _)).mono ?_
    rintro e w2 ⟨rfl, hb2⟩
    have hX2 := box_later hX1 hz1 hb2
    have hz2 : w.heap.size < w2.heap.size := by have := hb2.size; omega
    have hB2 : Below w.heap.size w w2 := hB1.trans (hb2.mono (by omega))
    clear hb2 hX1 hz1 hB1
    go_wp2_with fail
    go_ret
    exact ⟨ret_bool (by rw [HO.out, HBare.out]; rfl), hB2⟩
  have HBare : Hid (Gate.bareOf 4 ls ms ws.length to rl wg = true) := hbare
  clear hbare
  by_cases hsnd : Gate.soundOf ss ⟨nm, 4, ls, ms, ws, to, rl, mu, fx, df, wg⟩ = true
  rotate_left
  · have HSnd : Hid (Gate.soundOf ss ⟨nm, 4, ls, ms, ws, to, rl, mu, fx, df, wg⟩ = false) := by simpa [Hid] using hsnd
    clear hsnd hm3
    go_enter Try.func73, Try.ntmps73
    go_wp2_with fail
    refine (kind4_any _ _ _ _ _ _ _ _ _ _ _ _ _ _).mono ?_
    rintro e w1 ⟨rfl, hb1⟩
    have hX1 := box_later (box_new w _ _) (by simp) hb1
    have hz1 : w.heap.size < w1.heap.size := by have := hb1.size; simp at this; omega
    have hB1 : Below w.heap.size w w1 := ((Below.refl _ _).alloc (Nat.le_refl _) _).trans (hb1.mono (by simp))
    clear hb1 hlk
    go_wp2_with fail
    refine (as_bool HBare.out (linkBare_any _ _ _ _ _ _ _ _ _ _ _ _ _ _)).mono ?_
    rintro e w2 ⟨rfl, hb2⟩
    have hX2 := box_later hX1 hz1 hb2
    have hz2 : w.heap.size < w2.heap.size := by have := hb2.size; omega
    have hB2 : Below w.heap.size w w2 := hB1.trans (hb2.mono (by omega))
    clear hb2 hX1 hz1 hB1
    go_wp2_with fail
    refine (as_bool HSnd.out (linkSound_any _ _ _ _ _ _ _ _ _ _ _ _ _ _ _ _ (by exact hss.mono hB2))).mono ?_
    rintro e w3 ⟨rfl, hb3⟩
    have hX3 := box_later hX2 hz2 hb3
    have hz3 : w.heap.size < w3.heap.size := by have := hb3.size; omega
    have hB3 : Below w.heap.size w w3 := hB2.trans (hb3.mono (by omega))
    clear hb3 hX2 hz2 hB2
    go_wp2_with fail
    go_ret
    exact ⟨ret_bool (by rw [HO.out, HBare.out, HSnd.out]; rfl), hB3⟩
  have HSnd : Hid (Gate.soundOf ss ⟨nm, 4, ls, ms, ws, to, rl, mu, fx, df, wg⟩ = true) := hsnd
  clear hsnd
  by_cases hd : df.toList.isEmpty = true
  · have HD : Hid (df.toList.isEmpty = true) := hd
    go_enter Try.func73, Try.ntmps73
    go_wp2_with fail
    refine (kind4_any _ _ _ _ _ _ _ _ _ _ _ _ _ _).mono ?_
    rintro e w1 ⟨rfl, hb1⟩
    have hX1 := box_later (box_new w _ _) (by simp) hb1
    have hz1 : w.heap.size < w1.heap.size := by have := hb1.size; simp at this; omega
    have hB1 : Below w.heap.size w w1 := ((Below.refl _ _).alloc (Nat.le_refl _) _).trans (hb1.mono (by simp))
    clear hb1 hlk
    go_wp2_with fail
    refine (as_bool HBare.out (linkBare_any _ _ _ _ _ _ _ _ _ _ _ _ _ _)).mono ?_
    rintro e w2 ⟨rfl, hb2⟩
    have hX2 := box_later hX1 hz1 hb2
    have hz2 : w.heap.size < w2.heap.size := by have := hb2.size; omega
    have hB2 : Below w.heap.size w w2 := hB1.trans (hb2.mono (by omega))
    clear hb2 hX1 hz1 hB1
    go_wp2_with fail
    refine (as_bool HSnd.out (linkSound_any _ _ _ _ _ _ _ _ _ _ _ _ _ _ _ _ (by exact hss.mono hB2))).mono ?_
    rintro e w3 ⟨rfl, hb3⟩
    have hX3 := box_later hX2 hz2 hb3
    have hz3 : w.heap.size < w3.heap.size := by have := hb3.size; omega
    have hB3 : Below w.heap.size w w3 := hB2.trans (hb3.mono (by omega))
    clear hb3 hX2 hz2 hB2
    go_wp2_with fail
    go_ret
    exact ⟨ret_bool (by rw [HO.out, HBare.out, HSnd.out, HD.out]; rfl), hB3⟩
  · have hd' : df.toList.isEmpty = false := by simpa using hd
    have HD : Hid (df.toList.isEmpty = false) := hd'
    have HZ : Hid (Gate.fits 4 ls ms ws df = Gate.nameOk df) := Gate.fits_4 ls ms ws df (by intro h; rw [Gate.isEmpty_of_size] at hd'; simp [h] at hd')
    clear hd
    go_enter Try.func73, Try.ntmps73
    go_wp2_with fail
    refine (kind4_any _ _ _ _ _ _ _ _ _ _ _ _ _ _).mono ?_
    rintro e w1 ⟨rfl, hb1⟩
    have hX1 := box_later (box_new w _ _) (by simp) hb1
    have hz1 : w.heap.size < w1.heap.size := by have := hb1.size; simp at this; omega
    have hB1 : Below w.heap.size w w1 := ((Below.refl _ _).alloc (Nat.le_refl _) _).trans (hb1.mono (by simp))
    clear hb1 hlk
    go_wp2_with fail
    refine (as_bool HBare.out (linkBare_any _ _ _ _ _ _ _ _ _ _ _ _ _ _)).mono ?_
    rintro e w2 ⟨rfl, hb2⟩
    have hX2 := box_later hX1 hz1 hb2
    have hz2 : w.heap.size < w2.heap.size := by have := hb2.size; omega
    have hB2 : Below w.heap.size w w2 := hB1.trans (hb2.mono (by omega))
    clear hb2 hX1 hz1 hB1
    go_wp2_with fail
    refine (as_bool HSnd.out (linkSound_any _ _ _ _ _ _ _ _ _ _ _ _ _ _ _ _ (by exact hss.mono hB2))).mono ?_
    rintro e w3 ⟨rfl, hb3⟩
    have hX3 := box_later hX2 hz2 hb3
    have hz3 : w.heap.size < w3.heap.size := by have := hb3.size; omega
    have hB3 : Below w.heap.size w w3 := hB2.trans (hb3.mono (by omega))
    clear hb3 hX2 hz2 hB2
    go_wp2_with fail
    refine (linkFits_any _ _ _ _ _ _ _ _ _ _ _ _ _ hdf).mono ?_
    rintro e w4 ⟨rfl, hb4⟩
    have hB4 : Below w.heap.size w w4 := hB3.trans (hb4.mono (by omega))
    clear hb4
    go_wp2_with fail
    go_ret
    exact ⟨ret_bool (by rw [HO.out, HBare.out, HSnd.out, HD.out, HZ.out]; rfl), hB4⟩

set_option maxHeartbeats 400000 in
theorem fieldOk_other (r : Nat) (nm : ByteArray) (kd ls ms : Int) (a : Option Addr) (cap : Nat) (ws : List ByteArray) (to : ByteArray) (rl : Int) (mu fx : Bool) (df wg : ByteArray) (a0 : Option Addr) (cap0 : Nat) (ss : List Shp) (w : World) (hr : w.heap[r]? = some (.map kindEs 4)) (h1 : kd ≠ 1) (h2 : kd ≠ 2) (h3 : kd ≠ 3) (h4 : kd ≠ 4) :
    Calls Try.prog 73 #[.map (some r), .slice a0 ss.length cap0, .agg #[.string nm, .int .i64 kd, .int .i64 ls, .int .i64 ms, .slice a ws.length cap, .string to, .int .i64 rl, .bool mu, .bool fx, .string df, .string wg]] w
      fun e w' => e = .returned (.bool (Gate.fieldOk ss ⟨nm, kd, ls, ms, ws, to, rl, mu, fx, df, wg⟩)) ∧ Below w.heap.size w w' := by
  have HO : Hid (Gate.fieldOk ss ⟨nm, kd, ls, ms, ws, to, rl, mu, fx, df, wg⟩ = false) := by simp [Hid, Gate.fieldOk, Gate.bare, Gate.bareOf, h1, h2, h3, h4]
  have hlt : r < w.heap.size := (Array.getElem?_eq_some_iff.1 hr).1
  have hlk : ∀ o, (Instr.lookup 62 (.map (some r)) (.int .i64 kd) true).run Try.prog (w.alloc o) = .ok (.tuple #[.nilFunc, .bool false]) (w.alloc o) :=
    fun o => run_lookup_miss Try.underlying62 Try.underlying3 (.int .i64 kd) _ rfl kindEs 4 (kind_find kd h1 h2 h3 h4) (w.alloc o) (kind_zero _) r ((Below.heap_alloc w o r hlt).trans hr)
  clear hr h1 h2 h3 h4
  go_enter Try.func73, Try.ntmps73
  go_wp2_with fail
  go_ret
  exact ⟨ret_bool HO.out.symm, (Below.refl _ _).alloc (Nat.le_refl _) _⟩

theorem fieldOk_any (r : Nat) (nm : ByteArray) (kd ls ms : Int) (a : Option Addr) (cap : Nat) (ws : List ByteArray) (to : ByteArray) (rl : Int) (mu fx : Bool) (df wg : ByteArray) (a0 : Option Addr) (cap0 : Nat) (ss : List Shp) (w : World) (hr : w.heap[r]? = some (.map kindEs 4)) (hdf : df.size ≤ maxLen) (hwg : wg.size ≤ maxLen) (hws : StrsAt w a ws) (hss : ShpsAt w a0 ss) :
    Calls Try.prog 73 #[.map (some r), .slice a0 ss.length cap0, .agg #[.string nm, .int .i64 kd, .int .i64 ls, .int .i64 ms, .slice a ws.length cap, .string to, .int .i64 rl, .bool mu, .bool fx, .string df, .string wg]] w
      fun e w' => e = .returned (.bool (Gate.fieldOk ss ⟨nm, kd, ls, ms, ws, to, rl, mu, fx, df, wg⟩)) ∧ Below w.heap.size w w' := by
  by_cases h1 : kd = 1
  · subst h1; exact fieldOk_1 r nm ls ms a cap ws to rl mu fx df wg a0 cap0 ss w hr hdf hwg
  by_cases h2 : kd = 2
  · subst h2; exact fieldOk_2 r nm ls ms a cap ws to rl mu fx df wg a0 cap0 ss w hr hws
  by_cases h3 : kd = 3
  · subst h3; exact fieldOk_3 r nm ls ms a cap ws to rl mu fx df wg a0 cap0 ss w hr hdf
  by_cases h4 : kd = 4
  · subst h4; exact fieldOk_4 r nm ls ms a cap ws to rl mu fx df wg a0 cap0 ss w hr hdf hss
  exact fieldOk_other r nm kd ls ms a cap ws to rl mu fx df wg a0 cap0 ss w hr h1 h2 h3 h4

end Go.Proofs.Ytbefjngbilakjaa

namespace Go.Proofs.Ytbefjngbilakjaa
open Go.RowKit

theorem place_ne {fs : List Fld} {k : Nat} (h : k < fs.length) (hh : Gate.hasName (fs.take k) fs[k].nm = true) : (Gate.fieldIx fs fs[k].nm != (k : Int)) = true := by
  obtain ⟨j, hj, e⟩ := Gate.hasName_first fs _ k h hh
  rw [e, bne_iff_ne]; omega

theorem place_eq {fs : List Fld} {k : Nat} (h : k < fs.length) (hh : Gate.hasName (fs.take k) fs[k].nm = false) : (Gate.fieldIx fs fs[k].nm != (k : Int)) = false := by
  rw [Gate.fieldIx_at fs _ k h hh rfl]; simp

set_option maxHeartbeats 2000000 in
theorem fieldsOk_any (r : Nat) (a0 : Option Addr) (cap0 : Nat) (ss : List Shp) (a : Option Addr) (cap : Nat) (fs : List Fld) (w : World) (hr : w.heap[r]? = some (.map kindEs 4)) (hss : ShpsAt w a0 ss) (hw : FldsAt w a fs) :
    Calls Try.prog 43 #[.map (some r), .slice a0 ss.length cap0, .slice a fs.length cap] w fun e w' => e = .returned (.bool (Gate.fieldsOk ss fs)) ∧ Below w.heap.size w w' := by
  have hl := hw.len
  unfold maxLen at hl
  have hrlt : r < w.heap.size := (Array.getElem?_eq_some_iff.1 hr).1
  by_cases h6 : fs.length ≤ 6
  rotate_left
  · have HF : Hid (Gate.fieldsOk ss fs = false) := by simp [Hid, Gate.fieldsOk, h6]
    clear hw hr hss
    go_enter Try.func43, Try.ntmps43
    go_wp2
    go_ret
    exact ⟨ret_bool HF.out.symm, Below.refl _ _⟩
  have HG : Hid (Gate.fieldsOk ss fs = Gate.up (Gate.okAt ss fs) fs.length) := by simp [Hid, Gate.fieldsOk, h6]
  have h6I : (fs.length : Int) ≤ 6 := by omega
  go_enter Try.func43, Try.ntmps43
  go_wp2
  go_loopw [14] (fun i wr => ∃ k : Nat, k ≤ fs.length ∧ i = .int .i64 k ∧ Gate.up (Gate.okAt ss fs) k = true ∧ Below w.heap.size w wr) (fun i _ => fs.length - (intOf i).toNat)
  case atStart => exact ⟨0, Nat.zero_le _, rfl, rfl, Below.refl _ _⟩
  case round =>
    obtain ⟨k, hk, rfl, hup, hB⟩ := hrel
    have hsz := hB.size
    by_cases hlt : k < fs.length
    · obtain ⟨b, off, rfl, hb, hrw⟩ := hw.rows (by rintro rfl; simp at hlt)
      obtain ⟨wa, wcap, hf⟩ := hrw k hlt
      obtain ⟨c0, c1, c2, c3, c4, c5, c6, c7, c8, c9, c10⟩ := (hf.mono hb hB).load
      have hsm := hf.small
      have hst := hf.strs.mono hB
      have hfa : FldsAt wr (some ⟨b, off, none⟩) fs := hw.mono hB
      have hsa : ShpsAt wr a0 ss := hss.mono hB
      have hra : wr.heap[r]? = some (.map kindEs 4) := (hB.block r hrlt).trans hr
      have HO : Hid (Gate.okAt ss fs k = (Gate.nameOk fs[k].nm && !Gate.hasName (fs.take k) fs[k].nm && Gate.fieldOk ss fs[k])) := Gate.okAt_eq ss fs k hlt
      have HS : Hid (Gate.okAt ss fs k = true → Gate.up (Gate.okAt ss fs) (k + 1) = true) := fun h => by rw [Gate.up_succ, hup, h]; rfl
      have HN : Hid (Gate.okAt ss fs k = false → Gate.fieldsOk ss fs = false) := fun h => by rw [HG.out]; exact Gate.up_not hlt h
      clear hw hrw hf hup hss hr
      by_cases hn : Gate.nameOk fs[k].nm = true
      rotate_left
      · have HNm : Hid (Gate.nameOk fs[k].nm = false) := by simpa [Hid] using hn
        clear hn
        go_wp2_with fail
        refine (as_bool HNm.out (isName_any _ _ hsm.nm)).mono ?_
        rintro e w1 ⟨rfl, rfl⟩
        go_wp2_with fail
        go_ret
        exact ⟨ret_bool (HN.out (by rw [HO.out, HNm.out]; rfl)).symm, hB.alloc hsz _⟩
      have HNm : Hid (Gate.nameOk fs[k].nm = true) := hn
      clear hn
      by_cases hh : Gate.hasName (fs.take k) fs[k].nm = true
      · have HH : Hid (Gate.hasName (fs.take k) fs[k].nm = true) := hh
        have hpl := place_ne hlt hh
        clear hh
        go_wp2_with fail
        refine (as_bool HNm.out (isName_any _ _ hsm.nm)).mono ?_
        rintro e w1 ⟨rfl, rfl⟩
        go_wp2_with fail
        refine (fieldPlace_any _ _ _ _ _ (hfa.mono ((Below.refl _ _).alloc (Nat.le_refl _) _))).mono ?_
        rintro e w2 ⟨rfl, hb2⟩
        have hB2 : Below w.heap.size w w2 := (hB.alloc hsz _).trans (hb2.mono (by simp; omega))
        clear hb2
        go_wp2_with fail
        go_ret
        exact ⟨ret_bool (HN.out (by rw [HO.out, HNm.out, HH.out]; rfl)).symm, hB2⟩
      · have HH : Hid (Gate.hasName (fs.take k) fs[k].nm = false) := by simpa [Hid] using hh
        have hpl := place_eq hlt HH.out
        clear hh
        by_cases hok : Gate.fieldOk ss fs[k] = true
        all_goals
          first
            | (have HK : Hid (Gate.fieldOk ss fs[k] = true) := hok)
            | (have HK : Hid (Gate.fieldOk ss fs[k] = false) := by simpa [Hid] using hok)
          clear hok
          go_wp2_with fail
          refine (as_bool HNm.out (isName_any _ _ hsm.nm)).mono ?_
          rintro e w1 ⟨rfl, rfl⟩
          go_wp2_with fail
          refine (fieldPlace_any _ _ _ _ _ (hfa.mono ((Below.refl _ _).alloc (Nat.le_refl _) _))).mono ?_
          rintro e w2 ⟨rfl, hb2⟩
          have hX2 := box_later (box_new wr _ _) (by simp) hb2
          have hz2 : wr.heap.size < w2.heap.size := by have := hb2.size; simp at this; omega
          have hbr2 : Below wr.heap.size wr w2 := ((Below.refl _ _).alloc (Nat.le_refl _) _).trans (hb2.mono (by simp))
          have hB2 : Below w.heap.size w w2 := hB.trans (hbr2.mono hsz)
          have hra2 : w2.heap[r]? = some (.map kindEs 4) := (hbr2.block r (by omega)).trans hra
          clear hb2
          go_wp2_with fail
          refine (as_bool HK.out (fieldOk_any _ _ _ _ _ _ _ _ _ _ _ _ _ _ _ _ _ _ hra2 hsm.df hsm.wg (hst.mono hbr2) (hsa.mono hbr2))).mono ?_
          rintro e w3 ⟨rfl, hb3⟩
          have hB3 : Below w.heap.size w w3 := hB2.trans (hb3.mono (by omega))
          clear hb3 hX2
          go_wp2_with fail
        · exact ⟨⟨k + 1, by omega, by go_num, HS.out (by rw [HO.out, HNm.out, HH.out, HK.out]; rfl), hB3⟩, by simp [intOf]; omega⟩
        · go_ret
          exact ⟨ret_bool (HN.out (by rw [HO.out, HNm.out, HH.out, HK.out]; rfl)).symm, hB3⟩
    · have HF : Hid (Gate.fieldsOk ss fs = true) := by
        have e : k = fs.length := by omega
        subst e; rw [HG.out]; exact hup
      clear hup hw
      go_wp2
      go_ret
      exact ⟨ret_bool HF.out.symm, hB⟩

end Go.Proofs.Ytbefjngbilakjaa
