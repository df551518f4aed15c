import Derived.WalkKit
import Derived.MapKept
import Derived.Test.YtmmopakjaeokaaaDoorM07
import Derived.Test.YtmmopakjaeokaaaDoorM05
namespace Go.Proofs.YtmmopakjaeokaaaDoor
open Go.RowKit

theorem alloc_set (w : World) (o o' : Obj) : { (w.alloc o) with heap := (w.alloc o).heap.setIfInBounds w.heap.size o' } = w.alloc o' := by
  show ({ w with heap := (w.heap.push o).setIfInBounds w.heap.size o' } : World) = { w with heap := w.heap.push o' }
  congr 1
  apply Array.ext_getElem?
  intro i
  simp only [Array.getElem?_setIfInBounds, Array.getElem?_push, Array.size_push]
  by_cases h : w.heap.size = i
  · subst h; simp
  · rw [if_neg h, if_neg (fun e => h e.symm), if_neg (fun e => h e.symm)]

theorem alloc_at (w : World) (o : Obj) : (w.alloc o).heap[w.heap.size]? = some o := by
  show (w.heap.push o)[w.heap.size]? = some o
  simp

/-- A new key into a map that is the last block. -/
theorem run_update_last {P : Program} {mty kt et : TypeId} {d : TypeDesc} (hm : P.underlying mty = some (.map kt et)) (hd : P.underlying kt = some d) (key val : Value) (hk : MapKept.IsKey d key)
    (es : Array MapEntry) (clock : Nat) (hf : Instr.findNow d key es.toList 0 = some none) (w : World) :
    (Instr.mapUpdate mty (.map (some w.heap.size)) key val).run P (w.alloc (.map es clock)) = .ok () (w.alloc (.map (es.push ⟨key, val, clock⟩) (clock + 1))) := by
  have hb := alloc_at w (.map es clock)
  have hc := MapKept.run_checkKey (P := P) (w := w.alloc (.map es clock)) hd hk false 9999
  simp [Instr.mapUpdate, run_underlying hm, MapKept.run_getObj_map hb, hc, MapKept.run_findKey hd hf, MapKept.run_setObj_map _ hb, Result.andThen, ← alloc_set w (.map es clock) (.map (es.push ⟨key, val, clock⟩) (clock + 1))]

theorem run_lookup_hit {P : Program} {mty kt et : TypeId} {d : TypeDesc} (hm : P.underlying mty = some (.map kt et)) (hd : P.underlying kt = some d) (key val : Value) (hk : MapKept.IsKey d key)
    (es : Array MapEntry) (clock i : Nat) (hf : Instr.findNow d key es.toList 0 = some (some (i, val))) (w : World) (r : Nat) (hb : w.heap[r]? = some (.map es clock)) :
    (Instr.lookup mty (.map (some r)) key true).run P w = .ok (.tuple #[val, .bool true]) w := by
  have hc := MapKept.run_checkKey (P := P) (w := w) hd hk es.isEmpty 9999
  simp [Instr.lookup, run_underlying hm, MapKept.run_getObj_map hb, hc, MapKept.run_findKey hd hf, Result.andThen]

theorem run_lookup_miss {P : Program} {mty kt et : TypeId} {d : TypeDesc} (hm : P.underlying mty = some (.map kt et)) (hd : P.underlying kt = some d) (key z : Value) (hk : MapKept.IsKey d key)
    (es : Array MapEntry) (clock : Nat) (hf : Instr.findNow d key es.toList 0 = some none) (w : World) (hz : (zeroValue et).run P w = .ok z w) (r : Nat) (hb : w.heap[r]? = some (.map es clock)) :
    (Instr.lookup mty (.map (some r)) key true).run P w = .ok (.tuple #[z, .bool false]) w := by
  have hc := MapKept.run_checkKey (P := P) (w := w) hd hk es.isEmpty 9999
  simp [Instr.lookup, run_underlying hm, MapKept.run_getObj_map hb, hc, MapKept.run_findKey hd hf, hz, Result.andThen]

end Go.Proofs.YtmmopakjaeokaaaDoor

namespace Go.Proofs.YtmmopakjaeokaaaDoor
open Go.RowKit

def kindEs : Array MapEntry := #[⟨.int .i64 1, .func (.func 48) #[] #[], 0⟩, ⟨.int .i64 2, .func (.func 49) #[] #[], 1⟩, ⟨.int .i64 3, .func (.func 50) #[] #[], 2⟩, ⟨.int .i64 4, .func (.func 51) #[] #[], 3⟩]

set_option maxHeartbeats 400000 in
theorem fieldKinds_any (w : World) :
    Calls Tryd.prog 31 #[] w fun e w' => e = .returned (.map (some w.heap.size)) ∧ w' = w.alloc (.map kindEs 4) := by
  have hmm := @run_makeMap Tryd.prog
  have i1 := run_update_last (P := Tryd.prog) Tryd.underlying66 Tryd.underlying3 (.int .i64 1) (.func (.func 48) #[] #[]) rfl #[] 0 rfl
  have i2 := run_update_last (P := Tryd.prog) Tryd.underlying66 Tryd.underlying3 (.int .i64 2) (.func (.func 49) #[] #[]) rfl #[⟨.int .i64 1, .func (.func 48) #[] #[], 0⟩] 1 rfl
  have i3 := run_update_last (P := Tryd.prog) Tryd.underlying66 Tryd.underlying3 (.int .i64 3) (.func (.func 50) #[] #[]) rfl #[⟨.int .i64 1, .func (.func 48) #[] #[], 0⟩, ⟨.int .i64 2, .func (.func 49) #[] #[], 1⟩] 2 rfl
  have i4 := run_update_last (P := Tryd.prog) Tryd.underlying66 Tryd.underlying3 (.int .i64 4) (.func (.func 51) #[] #[]) rfl #[⟨.int .i64 1, .func (.func 48) #[] #[], 0⟩, ⟨.int .i64 2, .func (.func 49) #[] #[], 1⟩, ⟨.int .i64 3, .func (.func 50) #[] #[], 2⟩] 3 rfl
  simp only [List.push_toArray, List.cons_append, List.nil_append, Nat.zero_add, Nat.reduceAdd] at i1 i2 i3 i4
  go_enter Tryd.func31, Tryd.ntmps31
  go_wp2
  go_ret
  exact ⟨rfl, rfl⟩

set_option maxHeartbeats 400000 in
theorem kind1_any (nm : ByteArray) (kd ls ms : Int) (a : Option Addr) (n cap : Nat) (to : ByteArray) (rl : Int) (mu fx : Bool) (df wg : ByteArray) (w : World) :
    Calls Tryd.prog 48 #[.agg #[.string nm, .int .i64 kd, .int .i64 ls, .int .i64 ms, .slice a n cap, .string to, .int .i64 rl, .bool mu, .bool fx, .string df, .string wg]] w
      fun e w' => e = .returned (.iface 86 (.agg #[.string nm, .int .i64 kd, .int .i64 ls, .int .i64 ms, .slice a n cap, .string to, .int .i64 rl, .bool mu, .bool fx, .string df, .string wg])) ∧ Below w.heap.size w w' := by
  go_enter Tryd.func48, Tryd.ntmps48
  go_wp2
  go_ret
  exact ⟨rfl, (Below.refl _ _).alloc (Nat.le_refl _) _⟩

set_option maxHeartbeats 400000 in
theorem kind2_any (nm : ByteArray) (kd ls ms : Int) (a : Option Addr) (n cap : Nat) (to : ByteArray) (rl : Int) (mu fx : Bool) (df wg : ByteArray) (w : World) :
    Calls Tryd.prog 49 #[.agg #[.string nm, .int .i64 kd, .int .i64 ls, .int .i64 ms, .slice a n cap, .string to, .int .i64 rl, .bool mu, .bool fx, .string df, .string wg]] w
      fun e w' => e = .returned (.iface 88 (.agg #[.string nm, .int .i64 kd, .int .i64 ls, .int .i64 ms, .slice a n cap, .string to, .int .i64 rl, .bool mu, .bool fx, .string df, .string wg])) ∧ Below w.heap.size w w' := by
  go_enter Tryd.func49, Tryd.ntmps49
  go_wp2
  go_ret
  exact ⟨rfl, (Below.refl _ _).alloc (Nat.le_refl _) _⟩

set_option maxHeartbeats 400000 in
theorem kind3_any (nm : ByteArray) (kd ls ms : Int) (a : Option Addr) (n cap : Nat) (to : ByteArray) (rl : Int) (mu fx : Bool) (df wg : ByteArray) (w : World) :
    Calls Tryd.prog 50 #[.agg #[.string nm, .int .i64 kd, .int .i64 ls, .int .i64 ms, .slice a n cap, .string to, .int .i64 rl, .bool mu, .bool fx, .string df, .string wg]] w
      fun e w' => e = .returned (.iface 89 (.agg #[.string nm, .int .i64 kd, .int .i64 ls, .int .i64 ms, .slice a n cap, .string to, .int .i64 rl, .bool mu, .bool fx, .string df, .string wg])) ∧ Below w.heap.size w w' := by
  go_enter Tryd.func50, Tryd.ntmps50
  go_wp2
  go_ret
  exact ⟨rfl, (Below.refl _ _).alloc (Nat.le_refl _) _⟩

set_option maxHeartbeats 400000 in
theorem kind4_any (nm : ByteArray) (kd ls ms : Int) (a : Option Addr) (n cap : Nat) (to : ByteArray) (rl : Int) (mu fx : Bool) (df wg : ByteArray) (w : World) :
    Calls Tryd.prog 51 #[.agg #[.string nm, .int .i64 kd, .int .i64 ls, .int .i64 ms, .slice a n cap, .string to, .int .i64 rl, .bool mu, .bool fx, .string df, .string wg]] w
      fun e w' => e = .returned (.iface 90 (.agg #[.string nm, .int .i64 kd, .int .i64 ls, .int .i64 ms, .slice a n cap, .string to, .int .i64 rl, .bool mu, .bool fx, .string df, .string wg])) ∧ Below w.heap.size w w' := by
  go_enter Tryd.func51, Tryd.ntmps51
  go_wp2
  go_ret
  exact ⟨rfl, (Below.refl _ _).alloc (Nat.le_refl _) _⟩


theorem method_fits1 (x : Value) (w : World) : (method 262 86 x "loop.example/wharfgate/impl.fits").run Tryd.prog w = .ok (90, x) w := by kernel_rfl

theorem method_fits2 (x : Value) (w : World) : (method 262 88 x "loop.example/wharfgate/impl.fits").run Tryd.prog w = .ok (95, x) w := by kernel_rfl

theorem method_fits3 (x : Value) (w : World) : (method 262 89 x "loop.example/wharfgate/impl.fits").run Tryd.prog w = .ok (100, x) w := by kernel_rfl

theorem method_fits4 (x : Value) (w : World) : (method 262 90 x "loop.example/wharfgate/impl.fits").run Tryd.prog w = .ok (103, x) w := by kernel_rfl

set_option maxHeartbeats 400000 in
theorem tableFits_1 (r : Nat) (nm : ByteArray) (ls ms : Int) (a : Option Addr) (cap : Nat) (ws : List ByteArray) (to : ByteArray) (rl : Int) (mu fx : Bool) (df wg : ByteArray) (v : ByteArray) (w : World) (hr : w.heap[r]? = some (.map kindEs 4)) (hv : v.size ≤ maxLen) (hz : ¬ v.size = 0) :
    Calls Tryd.prog 62 #[.map (some r), .agg #[.string nm, .int .i64 1, .int .i64 ls, .int .i64 ms, .slice a ws.length cap, .string to, .int .i64 rl, .bool mu, .bool fx, .string df, .string wg], .string v] w
      fun e w' => e = .returned (.bool (Gate.fits 1 ls ms ws v)) ∧ Below w.heap.size w w' := by
  rw [Gate.fits_1 ls ms ws v hz]
  have hne : v.toList.isEmpty = false := by rw [Gate.isEmpty_of_size]; simp [hz]
  have hlt : r < w.heap.size := (Array.getElem?_eq_some_iff.1 hr).1
  have hlk : ∀ o, (Instr.lookup 66 (.map (some r)) (.int .i64 1) true).run Tryd.prog (w.alloc o) = .ok (.tuple #[.func (.func 48) #[] #[], .bool true]) (w.alloc o) :=
    fun o => run_lookup_hit Tryd.underlying66 Tryd.underlying3 (.int .i64 1) _ rfl kindEs 4 0 rfl (w.alloc o) r ((Below.heap_alloc w o r hlt).trans hr)
  clear hr
  have hmt := method_fits1
  go_enter Tryd.func62, Tryd.ntmps62
  go_wp2_with (first
    | (go_at_call 48; refine (kind1_any _ _ _ _ _ _ _ _ _ _ _ _ _ _).mono ?_; rintro e w1 ⟨rfl, hb1⟩)
    | (go_at_call 90; refine (numberFits_any _ _ _ _ _ _ _ _ _ _ _ _ _ hv).mono ?_; rintro e w2 ⟨rfl, hb2⟩))
  go_ret
  exact ⟨rfl, (((Below.refl _ _).alloc (Nat.le_refl _) _).trans (hb1.mono (by simp))).trans (hb2.mono (by have := hb1.size; simp at this; omega))⟩

set_option maxHeartbeats 400000 in
theorem tableFits_2 (r : Nat) (nm : ByteArray) (ls ms : Int) (a : Option Addr) (cap : Nat) (ws : List ByteArray) (to : ByteArray) (rl : Int) (mu fx : Bool) (df wg : ByteArray) (v : ByteArray) (w : World) (hr : w.heap[r]? = some (.map kindEs 4)) (hws : StrsAt w a ws) (hz : ¬ v.size = 0) :
    Calls Tryd.prog 62 #[.map (some r), .agg #[.string nm, .int .i64 2, .int .i64 ls, .int .i64 ms, .slice a ws.length cap, .string to, .int .i64 rl, .bool mu, .bool fx, .string df, .string wg], .string v] w
      fun e w' => e = .returned (.bool (Gate.fits 2 ls ms ws v)) ∧ Below w.heap.size w w' := by
  rw [Gate.fits_2 ls ms ws v hz]
  have hne : v.toList.isEmpty = false := by rw [Gate.isEmpty_of_size]; simp [hz]
  have hlt : r < w.heap.size := (Array.getElem?_eq_some_iff.1 hr).1
  have hlk : ∀ o, (Instr.lookup 66 (.map (some r)) (.int .i64 2) true).run Tryd.prog (w.alloc o) = .ok (.tuple #[.func (.func 49) #[] #[], .bool true]) (w.alloc o) :=
    fun o => run_lookup_hit Tryd.underlying66 Tryd.underlying3 (.int .i64 2) _ rfl kindEs 4 1 rfl (w.alloc o) r ((Below.heap_alloc w o r hlt).trans hr)
  clear hr
  have hmt := method_fits2
  go_enter Tryd.func62, Tryd.ntmps62
  go_wp2_with (first
    | (go_at_call 49; refine (kind2_any _ _ _ _ _ _ _ _ _ _ _ _ _ _).mono ?_; rintro e w1 ⟨rfl, hb1⟩; have hws1 := (hws.mono ((Below.refl _ _).alloc (Nat.le_refl _) _)).mono hb1)
    | (go_at_call 95; refine (wordFits_any _ _ _ _ _ _ _ _ _ _ _ _ _ _ _ (by exact hws1)).mono ?_; rintro e w2 ⟨rfl, hb2⟩))
  go_ret
  exact ⟨rfl, (((Below.refl _ _).alloc (Nat.le_refl _) _).trans (hb1.mono (by simp))).trans (hb2.mono (by have := hb1.size; simp at this; omega))⟩

set_option maxHeartbeats 400000 in
theorem tableFits_3 (r : Nat) (nm : ByteArray) (ls ms : Int) (a : Option Addr) (cap : Nat) (ws : List ByteArray) (to : ByteArray) (rl : Int) (mu fx : Bool) (df wg : ByteArray) (v : ByteArray) (w : World) (hr : w.heap[r]? = some (.map kindEs 4)) (hv : v.size ≤ maxLen) (hz : ¬ v.size = 0) :
    Calls Tryd.prog 62 #[.map (some r), .agg #[.string nm, .int .i64 3, .int .i64 ls, .int .i64 ms, .slice a ws.length cap, .string to, .int .i64 rl, .bool mu, .bool fx, .string df, .string wg], .string v] w
      fun e w' => e = .returned (.bool (Gate.fits 3 ls ms ws v)) ∧ Below w.heap.size w w' := by
  rw [Gate.fits_3 ls ms ws v hz]
  have hne : v.toList.isEmpty = false := by rw [Gate.isEmpty_of_size]; simp [hz]
  have hlt : r < w.heap.size := (Array.getElem?_eq_some_iff.1 hr).1
  have hlk : ∀ o, (Instr.lookup 66 (.map (some r)) (.int .i64 3) true).run Tryd.prog (w.alloc o) = .ok (.tuple #[.func (.func 50) #[] #[], .bool true]) (w.alloc o) :=
    fun o => run_lookup_hit Tryd.underlying66 Tryd.underlying3 (.int .i64 3) _ rfl kindEs 4 2 rfl (w.alloc o) r ((Below.heap_alloc w o r hlt).trans hr)
  clear hr
  have hmt := method_fits3
  go_enter Tryd.func62, Tryd.ntmps62
  go_wp2_with (first
    | (go_at_call 50; refine (kind3_any _ _ _ _ _ _ _ _ _ _ _ _ _ _).mono ?_; rintro e w1 ⟨rfl, hb1⟩)
    | (go_at_call 100; refine (textFits_any _ _ _ _ _ _ _ _ _ _ _ _ _ hv).mono ?_; rintro e w2 ⟨rfl, hb2⟩))
  go_ret
  exact ⟨rfl, (((Below.refl _ _).alloc (Nat.le_refl _) _).trans (hb1.mono (by simp))).trans (hb2.mono (by have := hb1.size; simp at this; omega))⟩

set_option maxHeartbeats 400000 in
theorem tableFits_4 (r : Nat) (nm : ByteArray) (ls ms : Int) (a : Option Addr) (cap : Nat) (ws : List ByteArray) (to : ByteArray) (rl : Int) (mu fx : Bool) (df wg : ByteArray) (v : ByteArray) (w : World) (hr : w.heap[r]? = some (.map kindEs 4)) (hv : v.size ≤ maxLen) (hz : ¬ v.size = 0) :
    Calls Tryd.prog 62 #[.map (some r), .agg #[.string nm, .int .i64 4, .int .i64 ls, .int .i64 ms, .slice a ws.length cap, .string to, .int .i64 rl, .bool mu, .bool fx, .string df, .string wg], .string v] w
      fun e w' => e = .returned (.bool (Gate.fits 4 ls ms ws v)) ∧ Below w.heap.size w w' := by
  rw [Gate.fits_4 ls ms ws v hz]
  have hne : v.toList.isEmpty = false := by rw [Gate.isEmpty_of_size]; simp [hz]
  have hlt : r < w.heap.size := (Array.getElem?_eq_some_iff.1 hr).1
  have hlk : ∀ o, (Instr.lookup 66 (.map (some r)) (.int .i64 4) true).run Tryd.prog (w.alloc o) = .ok (.tuple #[.func (.func 51) #[] #[], .bool true]) (w.alloc o) :=
    fun o => run_lookup_hit Tryd.underlying66 Tryd.underlying3 (.int .i64 4) _ rfl kindEs 4 3 rfl (w.alloc o) r ((Below.heap_alloc w o r hlt).trans hr)
  clear hr
  have hmt := method_fits4
  go_enter Tryd.func62, Tryd.ntmps62
  go_wp2_with (first
    | (go_at_call 51; refine (kind4_any _ _ _ _ _ _ _ _ _ _ _ _ _ _).mono ?_; rintro e w1 ⟨rfl, hb1⟩)
    | (go_at_call 103; refine (linkFits_any _ _ _ _ _ _ _ _ _ _ _ _ _ hv).mono ?_; rintro e w2 ⟨rfl, hb2⟩))
  go_ret
  exact ⟨rfl, (((Below.refl _ _).alloc (Nat.le_refl _) _).trans (hb1.mono (by simp))).trans (hb2.mono (by have := hb1.size; simp at this; omega))⟩

theorem kind_zero (w : World) : (zeroValue 87).run Tryd.prog w = .ok .nilFunc w := by kernel_rfl

theorem kind_find (kd : Int) (h1 : kd ≠ 1) (h2 : kd ≠ 2) (h3 : kd ≠ 3) (h4 : kd ≠ 4) : Instr.findNow (.int .i64) (.int .i64 kd) kindEs.toList 0 = some none := by
  have e1 : (kd == 1) = false := by simpa using h1
  have e2 : (kd == 2) = false := by simpa using h2
  have e3 : (kd == 3) = false := by simpa using h3
  have e4 : (kd == 4) = false := by simpa using h4
  simp [Instr.findNow, Instr.sameNow, kindEs, e1, e2, e3, e4]

set_option maxHeartbeats 400000 in
theorem tableFits_other (r : Nat) (nm : ByteArray) (kd ls ms : Int) (a : Option Addr) (cap : Nat) (ws : List ByteArray) (to : ByteArray) (rl : Int) (mu fx : Bool) (df wg : ByteArray) (v : ByteArray) (w : World) (hr : w.heap[r]? = some (.map kindEs 4)) (h1 : kd ≠ 1) (h2 : kd ≠ 2) (h3 : kd ≠ 3) (h4 : kd ≠ 4) :
    Calls Tryd.prog 62 #[.map (some r), .agg #[.string nm, .int .i64 kd, .int .i64 ls, .int .i64 ms, .slice a ws.length cap, .string to, .int .i64 rl, .bool mu, .bool fx, .string df, .string wg], .string v] w
      fun e w' => e = .returned (.bool (Gate.fits kd ls ms ws v)) ∧ Below w.heap.size w w' := by
  rw [Gate.fits_other kd ls ms ws v h1 h2 h3 h4]
  have hlt : r < w.heap.size := (Array.getElem?_eq_some_iff.1 hr).1
  have hlk : ∀ o, (Instr.lookup 66 (.map (some r)) (.int .i64 kd) true).run Tryd.prog (w.alloc o) = .ok (.tuple #[.nilFunc, .bool false]) (w.alloc o) :=
    fun o => run_lookup_miss Tryd.underlying66 Tryd.underlying3 (.int .i64 kd) _ rfl kindEs 4 (kind_find kd h1 h2 h3 h4) (w.alloc o) (kind_zero _) r ((Below.heap_alloc w o r hlt).trans hr)
  clear hr h1 h2 h3 h4
  go_enter Tryd.func62, Tryd.ntmps62
  go_wp2_with fail
  go_ret
  exact ⟨rfl, (Below.refl _ _).alloc (Nat.le_refl _) _⟩

set_option maxHeartbeats 400000 in
theorem tableFits_1_empty (r : Nat) (nm : ByteArray) (ls ms : Int) (a : Option Addr) (cap : Nat) (ws : List ByteArray) (to : ByteArray) (rl : Int) (mu fx : Bool) (df wg : ByteArray) (v : ByteArray) (w : World) (hr : w.heap[r]? = some (.map kindEs 4)) (hz : v.size = 0) :
    Calls Tryd.prog 62 #[.map (some r), .agg #[.string nm, .int .i64 1, .int .i64 ls, .int .i64 ms, .slice a ws.length cap, .string to, .int .i64 rl, .bool mu, .bool fx, .string df, .string wg], .string v] w
      fun e w' => e = .returned (.bool (Gate.fits 1 ls ms ws v)) ∧ Below w.heap.size w w' := by
  rw [Gate.fits_empty 1 ls ms ws v hz]
  have hne : v.toList.isEmpty = true := by rw [Gate.isEmpty_of_size]; simp [hz]
  clear hz
  have hlt : r < w.heap.size := (Array.getElem?_eq_some_iff.1 hr).1
  have hlk : ∀ o, (Instr.lookup 66 (.map (some r)) (.int .i64 1) true).run Tryd.prog (w.alloc o) = .ok (.tuple #[.func (.func 48) #[] #[], .bool true]) (w.alloc o) :=
    fun o => run_lookup_hit Tryd.underlying66 Tryd.underlying3 (.int .i64 1) _ rfl kindEs 4 0 rfl (w.alloc o) r ((Below.heap_alloc w o r hlt).trans hr)
  clear hr
  go_enter Tryd.func62, Tryd.ntmps62
  go_wp2_with fail
  go_ret
  exact ⟨rfl, (Below.refl _ _).alloc (Nat.le_refl _) _⟩

set_option maxHeartbeats 400000 in
theorem tableFits_2_empty (r : Nat) (nm : ByteArray) (ls ms : Int) (a : Option Addr) (cap : Nat) (ws : List ByteArray) (to : ByteArray) (rl : Int) (mu fx : Bool) (df wg : ByteArray) (v : ByteArray) (w : World) (hr : w.heap[r]? = some (.map kindEs 4)) (hz : v.size = 0) :
    Calls Tryd.prog 62 #[.map (some r), .agg #[.string nm, .int .i64 2, .int .i64 ls, .int .i64 ms, .slice a ws.length cap, .string to, .int .i64 rl, .bool mu, .bool fx, .string df, .string wg], .string v] w
      fun e w' => e = .returned (.bool (Gate.fits 2 ls ms ws v)) ∧ Below w.heap.size w w' := by
  rw [Gate.fits_empty 2 ls ms ws v hz]
  have hne : v.toList.isEmpty = true := by rw [Gate.isEmpty_of_size]; simp [hz]
  clear hz
  have hlt : r < w.heap.size := (Array.getElem?_eq_some_iff.1 hr).1
  have hlk : ∀ o, (Instr.lookup 66 (.map (some r)) (.int .i64 2) true).run Tryd.prog (w.alloc o) = .ok (.tuple #[.func (.func 49) #[] #[], .bool true]) (w.alloc o) :=
    fun o => run_lookup_hit Tryd.underlying66 Tryd.underlying3 (.int .i64 2) _ rfl kindEs 4 1 rfl (w.alloc o) r ((Below.heap_alloc w o r hlt).trans hr)
  clear hr
  go_enter Tryd.func62, Tryd.ntmps62
  go_wp2_with fail
  go_ret
  exact ⟨rfl, (Below.refl _ _).alloc (Nat.le_refl _) _⟩

set_option maxHeartbeats 400000 in
theorem tableFits_3_empty (r : Nat) (nm : ByteArray) (ls ms : Int) (a : Option Addr) (cap : Nat) (ws : List ByteArray) (to : ByteArray) (rl : Int) (mu fx : Bool) (df wg : ByteArray) (v : ByteArray) (w : World) (hr : w.heap[r]? = some (.map kindEs 4)) (hz : v.size = 0) :
    Calls Tryd.prog 62 #[.map (some r), .agg #[.string nm, .int .i64 3, .int .i64 ls, .int .i64 ms, .slice a ws.length cap, .string to, .int .i64 rl, .bool mu, .bool fx, .string df, .string wg], .string v] w
      fun e w' => e = .returned (.bool (Gate.fits 3 ls ms ws v)) ∧ Below w.heap.size w w' := by
  rw [Gate.fits_empty 3 ls ms ws v hz]
  have hne : v.toList.isEmpty = true := by rw [Gate.isEmpty_of_size]; simp [hz]
  clear hz
  have hlt : r < w.heap.size := (Array.getElem?_eq_some_iff.1 hr).1
  have hlk : ∀ o, (Instr.lookup 66 (.map (some r)) (.int .i64 3) true).run Tryd.prog (w.alloc o) = .ok (.tuple #[.func (.func 50) #[] #[], .bool true]) (w.alloc o) :=
    fun o => run_lookup_hit Tryd.underlying66 Tryd.underlying3 (.int .i64 3) _ rfl kindEs 4 2 rfl (w.alloc o) r ((Below.heap_alloc w o r hlt).trans hr)
  clear hr
  go_enter Tryd.func62, Tryd.ntmps62
  go_wp2_with fail
  go_ret
  exact ⟨rfl, (Below.refl _ _).alloc (Nat.le_refl _) _⟩

set_option maxHeartbeats 400000 in
theorem tableFits_4_empty (r : Nat) (nm : ByteArray) (ls ms : Int) (a : Option Addr) (cap : Nat) (ws : List ByteArray) (to : ByteArray) (rl : Int) (mu fx : Bool) (df wg : ByteArray) (v : ByteArray) (w : World) (hr : w.heap[r]? = some (.map kindEs 4)) (hz : v.size = 0) :
    Calls Tryd.prog 62 #[.map (some r), .agg #[.string nm, .int .i64 4, .int .i64 ls, .int .i64 ms, .slice a ws.length cap, .string to, .int .i64 rl, .bool mu, .bool fx, .string df, .string wg], .string v] w
      fun e w' => e = .returned (.bool (Gate.fits 4 ls ms ws v)) ∧ Below w.heap.size w w' := by
  rw [Gate.fits_empty 4 ls ms ws v hz]
  have hne : v.toList.isEmpty = true := by rw [Gate.isEmpty_of_size]; simp [hz]
  clear hz
  have hlt : r < w.heap.size := (Array.getElem?_eq_some_iff.1 hr).1
  have hlk : ∀ o, (Instr.lookup 66 (.map (some r)) (.int .i64 4) true).run Tryd.prog (w.alloc o) = .ok (.tuple #[.func (.func 51) #[] #[], .bool true]) (w.alloc o) :=
    fun o => run_lookup_hit Tryd.underlying66 Tryd.underlying3 (.int .i64 4) _ rfl kindEs 4 3 rfl (w.alloc o) r ((Below.heap_alloc w o r hlt).trans hr)
  clear hr
  go_enter Tryd.func62, Tryd.ntmps62
  go_wp2_with fail
  go_ret
  exact ⟨rfl, (Below.refl _ _).alloc (Nat.le_refl _) _⟩

theorem tableFits_any (r : Nat) (nm : ByteArray) (kd ls ms : Int) (a : Option Addr) (cap : Nat) (ws : List ByteArray) (to : ByteArray) (rl : Int) (mu fx : Bool) (df wg : ByteArray) (v : ByteArray) (w : World) (hr : w.heap[r]? = some (.map kindEs 4)) (hv : v.size ≤ maxLen) (hws : StrsAt w a ws) :
    Calls Tryd.prog 62 #[.map (some r), .agg #[.string nm, .int .i64 kd, .int .i64 ls, .int .i64 ms, .slice a ws.length cap, .string to, .int .i64 rl, .bool mu, .bool fx, .string df, .string wg], .string v] w
      fun e w' => e = .returned (.bool (Gate.fits kd ls ms ws v)) ∧ Below w.heap.size w w' := by
  by_cases h1 : kd = 1
  · subst h1; by_cases hz : v.size = 0
    · exact tableFits_1_empty r nm ls ms a cap ws to rl mu fx df wg v w hr hz
    · exact tableFits_1 r nm ls ms a cap ws to rl mu fx df wg v w hr hv hz
  by_cases h2 : kd = 2
  · subst h2; by_cases hz : v.size = 0
    · exact tableFits_2_empty r nm ls ms a cap ws to rl mu fx df wg v w hr hz
    · exact tableFits_2 r nm ls ms a cap ws to rl mu fx df wg v w hr hws hz
  by_cases h3 : kd = 3
  · subst h3; by_cases hz : v.size = 0
    · exact tableFits_3_empty r nm ls ms a cap ws to rl mu fx df wg v w hr hz
    · exact tableFits_3 r nm ls ms a cap ws to rl mu fx df wg v w hr hv hz
  by_cases h4 : kd = 4
  · subst h4; by_cases hz : v.size = 0
    · exact tableFits_4_empty r nm ls ms a cap ws to rl mu fx df wg v w hr hz
    · exact tableFits_4 r nm ls ms a cap ws to rl mu fx df wg v w hr hv hz
  exact tableFits_other r nm kd ls ms a cap ws to rl mu fx df wg v w hr h1 h2 h3 h4

end Go.Proofs.YtmmopakjaeokaaaDoor

namespace Go.Proofs.YtmmopakjaeokaaaDoor
open Go.RowKit

theorem method_bare1 (x : Value) (w : World) : (method 262 86 x "loop.example/wharfgate/impl.bare").run Tryd.prog w = .ok (89, x) w := by kernel_rfl
theorem method_sound1 (x : Value) (w : World) : (method 262 86 x "loop.example/wharfgate/impl.sound").run Tryd.prog w = .ok (91, x) w := by kernel_rfl
theorem method_bare2 (x : Value) (w : World) : (method 262 88 x "loop.example/wharfgate/impl.bare").run Tryd.prog w = .ok (94, x) w := by kernel_rfl
theorem method_sound2 (x : Value) (w : World) : (method 262 88 x "loop.example/wharfgate/impl.sound").run Tryd.prog w = .ok (96, x) w := by kernel_rfl
theorem method_bare3 (x : Value) (w : World) : (method 262 89 x "loop.example/wharfgate/impl.bare").run Tryd.prog w = .ok (99, x) w := by kernel_rfl
theorem method_sound3 (x : Value) (w : World) : (method 262 89 x "loop.example/wharfgate/impl.sound").run Tryd.prog w = .ok (101, x) w := by kernel_rfl
theorem method_bare4 (x : Value) (w : World) : (method 262 90 x "loop.example/wharfgate/impl.bare").run Tryd.prog w = .ok (102, x) w := by kernel_rfl
theorem method_sound4 (x : Value) (w : World) : (method 262 90 x "loop.example/wharfgate/impl.sound").run Tryd.prog w = .ok (104, x) w := by kernel_rfl

set_option maxHeartbeats 1000000 in
theorem fieldOk_1 (r : Nat) (nm : ByteArray) (ls ms : Int) (a : Option Addr) (cap : Nat) (ws : List ByteArray) (to : ByteArray) (rl : Int) (mu fx : Bool) (df wg : ByteArray) (a0 : Option Addr) (cap0 : Nat) (ss : List Shp) (w : World) (hr : w.heap[r]? = some (.map kindEs 4)) (hdf : df.size ≤ maxLen) (hwg : wg.size ≤ maxLen) :
    Calls Tryd.prog 54 #[.map (some r), .slice a0 ss.length cap0, .agg #[.string nm, .int .i64 1, .int .i64 ls, .int .i64 ms, .slice a ws.length cap, .string to, .int .i64 rl, .bool mu, .bool fx, .string df, .string wg]] w
      fun e w' => e = .returned (.bool (Gate.fieldOk ss ⟨nm, 1, ls, ms, ws, to, rl, mu, fx, df, wg⟩)) ∧ Below w.heap.size w w' := by
  have HO : Hid (Gate.fieldOk ss ⟨nm, 1, ls, ms, ws, to, rl, mu, fx, df, wg⟩ = (Gate.bareOf 1 ls ms ws.length to rl wg && Gate.soundOf ss ⟨nm, 1, ls, ms, ws, to, rl, mu, fx, df, wg⟩ && (df.toList.isEmpty || Gate.fits 1 ls ms ws df))) := rfl
  have hlt : r < w.heap.size := (Array.getElem?_eq_some_iff.1 hr).1
  have hlk : ∀ o, (Instr.lookup 66 (.map (some r)) (.int .i64 1) true).run Tryd.prog (w.alloc o) = .ok (.tuple #[.func (.func 48) #[] #[], .bool true]) (w.alloc o) :=
    fun o => run_lookup_hit Tryd.underlying66 Tryd.underlying3 (.int .i64 1) _ rfl kindEs 4 0 rfl (w.alloc o) r ((Below.heap_alloc w o r hlt).trans hr)
  clear hr
  have hm1 := method_bare1
  have hm2 := method_sound1
  have hm3 := method_fits1
  by_cases hbare : Gate.bareOf 1 ls ms ws.length to rl wg = true
  rotate_left
  · have HBare : Hid (Gate.bareOf 1 ls ms ws.length to rl wg = false) := by simpa [Hid] using hbare
    clear hbare hm2 hm3
    go_enter Tryd.func54, Tryd.ntmps54
    go_wp2_with fail
    refine (kind1_any _ _ _ _ _ _ _ _ _ _ _ _ _ _).mono ?_
    rintro e w1 ⟨rfl, hb1⟩
    have hX1 := box_later (box_new w _ _) (by simp) hb1
    have hz1 : w.heap.size < w1.heap.size := by have := hb1.size; simp at this; omega
    have hB1 : Below w.heap.size w w1 := ((Below.refl _ _).alloc (Nat.le_refl _) _).trans (hb1.mono (by simp))
    clear hb1 hlk
    go_wp2_with fail
    refine (as_bool HBare.out (numberBare_any _ _ _ _ _ _ _ _ _ _ _ _ _ _)).mono ?_
    rintro e w2 ⟨rfl, hb2⟩
    have hX2 := box_later hX1 hz1 hb2
    have hz2 : w.heap.size < w2.heap.size := by have := hb2.size; omega
    have hB2 : Below w.heap.size w w2 := hB1.trans (hb2.mono (by omega))
    clear hb2 hX1 hz1 hB1
    go_wp2_with fail
    go_ret
    exact ⟨ret_bool (by rw [HO.out, HBare.out]; rfl), hB2⟩
  have HBare : Hid (Gate.bareOf 1 ls ms ws.length to rl wg = true) := hbare
  clear hbare
  by_cases hsnd : Gate.soundOf ss ⟨nm, 1, ls, ms, ws, to, rl, mu, fx, df, wg⟩ = true
  rotate_left
  · have HSnd : Hid (Gate.soundOf ss ⟨nm, 1, ls, ms, ws, to, rl, mu, fx, df, wg⟩ = false) := by simpa [Hid] using hsnd
    clear hsnd hm3
    go_enter Tryd.func54, Tryd.ntmps54
    go_wp2_with fail
    refine (kind1_any _ _ _ _ _ _ _ _ _ _ _ _ _ _).mono ?_
    rintro e w1 ⟨rfl, hb1⟩
    have hX1 := box_later (box_new w _ _) (by simp) hb1
    have hz1 : w.heap.size < w1.heap.size := by have := hb1.size; simp at this; omega
    have hB1 : Below w.heap.size w w1 := ((Below.refl _ _).alloc (Nat.le_refl _) _).trans (hb1.mono (by simp))
    clear hb1 hlk
    go_wp2_with fail
    refine (as_bool HBare.out (numberBare_any _ _ _ _ _ _ _ _ _ _ _ _ _ _)).mono ?_
    rintro e w2 ⟨rfl, hb2⟩
    have hX2 := box_later hX1 hz1 hb2
    have hz2 : w.heap.size < w2.heap.size := by have := hb2.size; omega
    have hB2 : Below w.heap.size w w2 := hB1.trans (hb2.mono (by omega))
    clear hb2 hX1 hz1 hB1
    go_wp2_with fail
    refine (as_bool HSnd.out (numberSound_any _ _ _ _ _ _ _ _ _ _ _ _ _ _ _ _ hwg)).mono ?_
    rintro e w3 ⟨rfl, hb3⟩
    have hX3 := box_later hX2 hz2 hb3
    have hz3 : w.heap.size < w3.heap.size := by have := hb3.size; omega
    have hB3 : Below w.heap.size w w3 := hB2.trans (hb3.mono (by omega))
    clear hb3 hX2 hz2 hB2
    go_wp2_with fail
    go_ret
    exact ⟨ret_bool (by rw [HO.out, HBare.out, HSnd.out]; rfl), hB3⟩
  have HSnd : Hid (Gate.soundOf ss ⟨nm, 1, ls, ms, ws, to, rl, mu, fx, df, wg⟩ = true) := hsnd
  clear hsnd
  by_cases hd : df.toList.isEmpty = true
  · have HD : Hid (df.toList.isEmpty = true) := hd
    go_enter Tryd.func54, Tryd.ntmps54
    go_wp2_with fail
    refine (kind1_any _ _ _ _ _ _ _ _ _ _ _ _ _ _).mono ?_
    rintro e w1 ⟨rfl, hb1⟩
    have hX1 := box_later (box_new w _ _) (by simp) hb1
    have hz1 : w.heap.size < w1.heap.size := by have := hb1.size; simp at this; omega
    have hB1 : Below w.heap.size w w1 := ((Below.refl _ _).alloc (Nat.le_refl _) _).trans (hb1.mono (by simp))
    clear hb1 hlk
    go_wp2_with fail
    refine (as_bool HBare.out (numberBare_any _ _ _ _ _ _ _ _ _ _ _ _ _ _)).mono ?_
    rintro e w2 ⟨rfl, hb2⟩
    have hX2 := box_later hX1 hz1 hb2
    have hz2 : w.heap.size < w2.heap.size := by have := hb2.size; omega
    have hB2 : Below w.heap.size w w2 := hB1.trans (hb2.mono (by omega))
    clear hb2 hX1 hz1 hB1
    go_wp2_with fail
    refine (as_bool HSnd.out (numberSound_any _ _ _ _ _ _ _ _ _ _ _ _ _ _ _ _ hwg)).mono ?_
    rintro e w3 ⟨rfl, hb3⟩
    have hX3 := box_later hX2 hz2 hb3
    have hz3 : w.heap.size < w3.heap.size := by have := hb3.size; omega
    have hB3 : Below w.heap.size w w3 := hB2.trans (hb3.mono (by omega))
    clear hb3 hX2 hz2 hB2
    go_wp2_with fail
    go_ret
    exact ⟨ret_bool (by rw [HO.out, HBare.out, HSnd.out, HD.out]; rfl), hB3⟩
  · have hd' : df.toList.isEmpty = false := by simpa using hd
    have HD : Hid (df.toList.isEmpty = false) := hd'
    have HZ : Hid (Gate.fits 1 ls ms ws df = Gate.numFits ls ms df) := Gate.fits_1 ls ms ws df (by intro h; rw [Gate.isEmpty_of_size] at hd'; simp [h] at hd')
    clear hd
    go_enter Tryd.func54, Tryd.ntmps54
    go_wp2_with fail
    refine (kind1_any _ _ _ _ _ _ _ _ _ _ _ _ _ _).mono ?_
    rintro e w1 ⟨rfl, hb1⟩
    have hX1 := box_later (box_new w _ _) (by simp) hb1
    have hz1 : w.heap.size < w1.heap.size := by have := hb1.size; simp at this; omega
    have hB1 : Below w.heap.size w w1 := ((Below.refl _ _).alloc (Nat.le_refl _) _).trans (hb1.mono (by simp))
    clear hb1 hlk
    go_wp2_with fail
    refine (as_bool HBare.out (numberBare_any _ _ _ _ _ _ _ _ _ _ _ _ _ _)).mono ?_
    rintro e w2 ⟨rfl, hb2⟩
    have hX2 := box_later hX1 hz1 hb2
    have hz2 : w.heap.size < w2.heap.size := by have := hb2.size; omega
    have hB2 : Below w.heap.size w w2 := hB1.trans (hb2.mono (by omega))
    clear hb2 hX1 hz1 hB1
    go_wp2_with fail
    refine (as_bool HSnd.out (numberSound_any _ _ _ _ _ _ _ _ _ _ _ _ _ _ _ _ hwg)).mono ?_
    rintro e w3 ⟨rfl, hb3⟩
    have hX3 := box_later hX2 hz2 hb3
    have hz3 : w.heap.size < w3.heap.size := by have := hb3.size; omega
    have hB3 : Below w.heap.size w w3 := hB2.trans (hb3.mono (by omega))
    clear hb3 hX2 hz2 hB2
    go_wp2_with fail
    refine (numberFits_any _ _ _ _ _ _ _ _ _ _ _ _ _ hdf).mono ?_
    rintro e w4 ⟨rfl, hb4⟩
    have hB4 : Below w.heap.size w w4 := hB3.trans (hb4.mono (by omega))
    clear hb4
    go_wp2_with fail
    go_ret
    exact ⟨ret_bool (by rw [HO.out, HBare.out, HSnd.out, HD.out, HZ.out]; rfl), hB4⟩

set_option maxHeartbeats 1000000 in
theorem fieldOk_2 (r : Nat) (nm : ByteArray) (ls ms : Int) (a : Option Addr) (cap : Nat) (ws : List ByteArray) (to : ByteArray) (rl : Int) (mu fx : Bool) (df wg : ByteArray) (a0 : Option Addr) (cap0 : Nat) (ss : List Shp) (w : World) (hr : w.heap[r]? = some (.map kindEs 4)) (hws : StrsAt w a ws) :
    Calls Tryd.prog 54 #[.map (some r), .slice a0 ss.length cap0, .agg #[.string nm, .int .i64 2, .int .i64 ls, .int .i64 ms, .slice a ws.length cap, .string to, .int .i64 rl, .bool mu, .bool fx, .string df, .string wg]] w
      fun e w' => e = .returned (.bool (Gate.fieldOk ss ⟨nm, 2, ls, ms, ws, to, rl, mu, fx, df, wg⟩)) ∧ Below w.heap.size w w' := by
  have HO : Hid (Gate.fieldOk ss ⟨nm, 2, ls, ms, ws, to, rl, mu, fx, df, wg⟩ = (Gate.bareOf 2 ls ms ws.length to rl wg && Gate.soundOf ss ⟨nm, 2, ls, ms, ws, to, rl, mu, fx, df, wg⟩ && (df.toList.isEmpty || Gate.fits 2 ls ms ws df))) := rfl
  have hlt : r < w.heap.size := (Array.getElem?_eq_some_iff.1 hr).1
  have hlk : ∀ o, (Instr.lookup 66 (.map (some r)) (.int .i64 2) true).run Tryd.prog (w.alloc o) = .ok (.tuple #[.func (.func 49) #[] #[], .bool true]) (w.alloc o) :=
    fun o => run_lookup_hit Tryd.underlying66 Tryd.underlying3 (.int .i64 2) _ rfl kindEs 4 1 rfl (w.alloc o) r ((Below.heap_alloc w o r hlt).trans hr)
  clear hr
  have hm1 := method_bare2
  have hm2 := method_sound2
  have hm3 := method_fits2
  by_cases hbare : Gate.bareOf 2 ls ms ws.length to rl wg = true
  rotate_left
  · have HBare : Hid (Gate.bareOf 2 ls ms ws.length to rl wg = false) := by simpa [Hid] using hbare
    clear hbare hm2 hm3
    go_enter Tryd.func54, Tryd.ntmps54
    go_wp2_with fail
    refine (kind2_any _ _ _ _ _ _ _ _ _ _ _ _ _ _).mono ?_
    rintro e w1 ⟨rfl, hb1⟩
    have hX1 := box_later (box_new w _ _) (by simp) hb1
    have hz1 : w.heap.size < w1.heap.size := by have := hb1.size; simp at this; omega
    have hB1 : Below w.heap.size w w1 := ((Below.refl _ _).alloc (Nat.le_refl _) _).trans (hb1.mono (by simp))
    clear hb1 hlk
    go_wp2_with fail
    refine (as_bool HBare.out (wordBare_any _ _ _ _ _ _ _ _ _ _ _ _ _ _)).mono ?_
    rintro e w2 ⟨rfl, hb2⟩
    have hX2 := box_later hX1 hz1 hb2
    have hz2 : w.heap.size < w2.heap.size := by have := hb2.size; omega
    have hB2 : Below w.heap.size w w2 := hB1.trans (hb2.mono (by omega))
    clear hb2 hX1 hz1 hB1
    go_wp2_with fail
    go_ret
    exact ⟨ret_bool (by rw [HO.out, HBare.out]; rfl), hB2⟩
  have HBare : Hid (Gate.bareOf 2 ls ms ws.length to rl wg = true) := hbare
  clear hbare
  by_cases hsnd : Gate.soundOf ss ⟨nm, 2, ls, ms, ws, to, rl, mu, fx, df, wg⟩ = true
  rotate_left
  · have HSnd : Hid (Gate.soundOf ss ⟨nm, 2, ls, ms, ws, to, rl, mu, fx, df, wg⟩ = false) := by simpa [Hid] using hsnd
    clear hsnd hm3
    go_enter Tryd.func54, Tryd.ntmps54
    go_wp2_with fail
    refine (kind2_any _ _ _ _ _ _ _ _ _ _ _ _ _ _).mono ?_
    rintro e w1 ⟨rfl, hb1⟩
    have hX1 := box_later (box_new w _ _) (by simp) hb1
    have hz1 : w.heap.size < w1.heap.size := by have := hb1.size; simp at this; omega
    have hB1 : Below w.heap.size w w1 := ((Below.refl _ _).alloc (Nat.le_refl _) _).trans (hb1.mono (by simp))
    clear hb1 hlk
    go_wp2_with fail
    refine (as_bool HBare.out (wordBare_any _ _ _ _ _ _ _ _ _ _ _ _ _ _)).mono ?_
    rintro e w2 ⟨rfl, hb2⟩
    have hX2 := box_later hX1 hz1 hb2
    have hz2 : w.heap.size < w2.heap.size := by have := hb2.size; omega
    have hB2 : Below w.heap.size w w2 := hB1.trans (hb2.mono (by omega))
    clear hb2 hX1 hz1 hB1
    go_wp2_with fail
    refine (as_bool HSnd.out (wordSound_any _ _ _ _ _ _ _ _ _ _ _ _ _ _ _ _ (by exact hws.mono hB2))).mono ?_
    rintro e w3 ⟨rfl, hb3⟩
    have hX3 := box_later hX2 hz2 hb3
    have hz3 : w.heap.size < w3.heap.size := by have := hb3.size; omega
    have hB3 : Below w.heap.size w w3 := hB2.trans (hb3.mono (by omega))
    clear hb3 hX2 hz2 hB2
    go_wp2_with fail
    go_ret
    exact ⟨ret_bool (by rw [HO.out, HBare.out, HSnd.out]; rfl), hB3⟩
  have HSnd : Hid (Gate.soundOf ss ⟨nm, 2, ls, ms, ws, to, rl, mu, fx, df, wg⟩ = true) := hsnd
  clear hsnd
  by_cases hd : df.toList.isEmpty = true
  · have HD : Hid (df.toList.isEmpty = true) := hd
    go_enter Tryd.func54, Tryd.ntmps54
    go_wp2_with fail
    refine (kind2_any _ _ _ _ _ _ _ _ _ _ _ _ _ _).mono ?_
    rintro e w1 ⟨rfl, hb1⟩
    have hX1 := box_later (box_new w _ _) (by simp) hb1
    have hz1 : w.heap.size < w1.heap.size := by have := hb1.size; simp at this; omega
    have hB1 : Below w.heap.size w w1 := ((Below.refl _ _).alloc (Nat.le_refl _) _).trans (hb1.mono (by simp))
    clear hb1 hlk
    go_wp2_with fail
    refine (as_bool HBare.out (wordBare_any _ _ _ _ _ _ _ _ _ _ _ _ _ _)).mono ?_
    rintro e w2 ⟨rfl, hb2⟩
    have hX2 := box_later hX1 hz1 hb2
    have hz2 : w.heap.size < w2.heap.size := by have := hb2.size; omega
    have hB2 : Below w.heap.size w w2 := hB1.trans (hb2.mono (by omega))
    clear hb2 hX1 hz1 hB1
    go_wp2_with fail
    refine (as_bool HSnd.out (wordSound_any _ _ _ _ _ _ _ _ _ _ _ _ _ _ _ _ (by exact hws.mono hB2))).mono ?_
    rintro e w3 ⟨rfl, hb3⟩
    have hX3 := box_later hX2 hz2 hb3
    have hz3 : w.heap.size < w3.heap.size := by have := hb3.size; omega
    have hB3 : Below w.heap.size w w3 := hB2.trans (hb3.mono (by omega))
    clear hb3 hX2 hz2 hB2
    go_wp2_with fail
    go_ret
    exact ⟨ret_bool (by rw [HO.out, HBare.out, HSnd.out, HD.out]; rfl), hB3⟩
  · have hd' : df.toList.isEmpty = false := by simpa using hd
    have HD : Hid (df.toList.isEmpty = false) := hd'
    have HZ : Hid (Gate.fits 2 ls ms ws df = Gate.has ws df) := Gate.fits_2 ls ms ws df (by intro h; rw [Gate.isEmpty_of_size] at hd'; simp [h] at hd')
    clear hd
    go_enter Tryd.func54, Tryd.ntmps54
    go_wp2_with fail
    refine (kind2_any _ _ _ _ _ _ _ _ _ _ _ _ _ _).mono ?_
    rintro e w1 ⟨rfl, hb1⟩
    have hX1 := box_later (box_new w _ _) (by simp) hb1
    have hz1 : w.heap.size < w1.heap.size := by have := hb1.size; simp at this; omega
    have hB1 : Below w.heap.size w w1 := ((Below.refl _ _).alloc (Nat.le_refl _) _).trans (hb1.mono (by simp))
    clear hb1 hlk
    go_wp2_with fail
    refine (as_bool HBare.out (wordBare_any _ _ _ _ _ _ _ _ _ _ _ _ _ _)).mono ?_
    rintro e w2 ⟨rfl, hb2⟩
    have hX2 := box_later hX1 hz1 hb2
    have hz2 : w.heap.size < w2.heap.size := by have := hb2.size; omega
    have hB2 : Below w.heap.size w w2 := hB1.trans (hb2.mono (by omega))
    clear hb2 hX1 hz1 hB1
    go_wp2_with fail
    refine (as_bool HSnd.out (wordSound_any _ _ _ _ _ _ _ _ _ _ _ _ _ _ _ _ (by exact hws.mono hB2))).mono ?_
    rintro e w3 ⟨rfl, hb3⟩
    have hX3 := box_later hX2 hz2 hb3
    have hz3 : w.heap.size < w3.heap.size := by have := hb3.size; omega
    have hB3 : Below w.heap.size w w3 := hB2.trans (hb3.mono (by omega))
    clear hb3 hX2 hz2 hB2
    go_wp2_with fail
    refine (wordFits_any _ _ _ _ _ _ _ _ _ _ _ _ _ _ _ (by exact hws.mono hB3)).mono ?_
    rintro e w4 ⟨rfl, hb4⟩
    have hB4 : Below w.heap.size w w4 := hB3.trans (hb4.mono (by omega))
    clear hb4
    go_wp2_with fail
    go_ret
    exact ⟨ret_bool (by rw [HO.out, HBare.out, HSnd.out, HD.out, HZ.out]; rfl), hB4⟩

set_option maxHeartbeats 1000000 in
theorem fieldOk_3 (r : Nat) (nm : ByteArray) (ls ms : Int) (a : Option Addr) (cap : Nat) (ws : List ByteArray) (to : ByteArray) (rl : Int) (mu fx : Bool) (df wg : ByteArray) (a0 : Option Addr) (cap0 : Nat) (ss : List Shp) (w : World) (hr : w.heap[r]? = some (.map kindEs 4)) (hdf : df.size ≤ maxLen) :
    Calls Tryd.prog 54 #[.map (some r), .slice a0 ss.length cap0, .agg #[.string nm, .int .i64 3, .int .i64 ls, .int .i64 ms, .slice a ws.length cap, .string to, .int .i64 rl, .bool mu, .bool fx, .string df, .string wg]] w
      fun e w' => e = .returned (.bool (Gate.fieldOk ss ⟨nm, 3, ls, ms, ws, to, rl, mu, fx, df, wg⟩)) ∧ Below w.heap.size w w' := by
  have HO : Hid (Gate.fieldOk ss ⟨nm, 3, ls, ms, ws, to, rl, mu, fx, df, wg⟩ = (Gate.bareOf 3 ls ms ws.length to rl wg && Gate.soundOf ss ⟨nm, 3, ls, ms, ws, to, rl, mu, fx, df, wg⟩ && (df.toList.isEmpty || Gate.fits 3 ls ms ws df))) := rfl
  have hlt : r < w.heap.size := (Array.getElem?_eq_some_iff.1 hr).1
  have hlk : ∀ o, (Instr.lookup 66 (.map (some r)) (.int .i64 3) true).run Tryd.prog (w.alloc o) = .ok (.tuple #[.func (.func 50) #[] #[], .bool true]) (w.alloc o) :=
    fun o => run_lookup_hit Tryd.underlying66 Tryd.underlying3 (.int .i64 3) _ rfl kindEs 4 2 rfl (w.alloc o) r ((Below.heap_alloc w o r hlt).trans hr)
  clear hr
  have hm1 := method_bare3
  have hm2 := method_sound3
  have hm3 := method_fits3
  by_cases hbare : Gate.bareOf 3 ls ms ws.length to rl wg = true
  rotate_left
  · have HBare : Hid (Gate.bareOf 3 ls ms ws.length to rl wg = false) := by simpa [Hid] using hbare
    clear hbare hm2 hm3
    go_enter Tryd.func54, Tryd.ntmps54
    go_wp2_with fail
    refine (kind3_any _ _ _ _ _ _ _ _ _ _ _ _ _ _).mono ?_
    rintro e w1 ⟨rfl, hb1⟩
    have hX1 := box_later (box_new w _ _) (by simp) hb1
    have hz1 : w.heap.size < w1.heap.size := by have := hb1.size; simp at this; omega
    have hB1 : Below w.heap.size w w1 := ((Below.refl _ _).alloc (Nat.le_refl _) _).trans (hb1.mono (by simp))
    clear hb1 hlk
    go_wp2_with fail
    refine (as_bool HBare.out (textBare_any _ _ _ _ _ _ _ _ _ _ _ _ _ _)).mono ?_
    rintro e w2 ⟨rfl, hb2⟩
    have hX2 := box_later hX1 hz1 hb2
    have hz2 : w.heap.size < w2.heap.size := by have := hb2.size; omega
    have hB2 : Below w.heap.size w w2 := hB1.trans (hb2.mono (by omega))
    clear hb2 hX1 hz1 hB1
    go_wp2_with fail
    go_ret
    exact ⟨ret_bool (by rw [HO.out, HBare.out]; rfl), hB2⟩
  have HBare : Hid (Gate.bareOf 3 ls ms ws.length to rl wg = true) := hbare
  clear hbare
  by_cases hsnd : Gate.soundOf ss ⟨nm, 3, ls, ms, ws, to, rl, mu, fx, df, wg⟩ = true
  rotate_left
  · have HSnd : Hid (Gate.soundOf ss ⟨nm, 3, ls, ms, ws, to, rl, mu, fx, df, wg⟩ = false) := by simpa [Hid] using hsnd
    clear hsnd hm3
    go_enter Tryd.func54, Tryd.ntmps54
    go_wp2_with fail
    refine (kind3_any _ _ _ _ _ _ _ _ _ _ _ _ _ _).mono ?_
    rintro e w1 ⟨rfl, hb1⟩
    have hX1 := box_later (box_new w _ _) (by simp) hb1
    have hz1 : w.heap.size < w1.heap.size := by have := hb1.size; simp at this; omega
    have hB1 : Below w.heap.size w w1 := ((Below.refl _ _).alloc (Nat.le_refl _) _).trans (hb1.mono (by simp))
    clear hb1 hlk
    go_wp2_with fail
    refine (as_bool HBare.out (textBare_any _ _ _ _ _ _ _ _ _ _ _ _ _ _)).mono ?_
    rintro e w2 ⟨rfl, hb2⟩
    have hX2 := box_later hX1 hz1 hb2
    have hz2 : w.heap.size < w2.heap.size := by have := hb2.size; omega
    have hB2 : Below w.heap.size w w2 := hB1.trans (hb2.mono (by omega))
    clear hb2 hX1 hz1 hB1
    go_wp2_with fail
    refine (as_bool HSnd.out (textSound_any _ _ _ _ _ _ _ _ _ _ _ _ _ _ _ _)).mono ?_
    rintro e w3 ⟨rfl, hb3⟩
    have hX3 := box_later hX2 hz2 hb3
    have hz3 : w.heap.size < w3.heap.size := by have := hb3.size; omega
    have hB3 : Below w.heap.size w w3 := hB2.trans (hb3.mono (by omega))
    clear hb3 hX2 hz2 hB2
    go_wp2_with fail
    go_ret
    exact ⟨ret_bool (by rw [HO.out, HBare.out, HSnd.out]; rfl), hB3⟩
  have HSnd : Hid (Gate.soundOf ss ⟨nm, 3, ls, ms, ws, to, rl, mu, fx, df, wg⟩ = true) := hsnd
  clear hsnd
  by_cases hd : df.toList.isEmpty = true
  · have HD : Hid (df.toList.isEmpty = true) := hd
    go_enter Tryd.func54, Tryd.ntmps54
    go_wp2_with fail
    refine (kind3_any _ _ _ _ _ _ _ _ _ _ _ _ _ _).mono ?_
    rintro e w1 ⟨rfl, hb1⟩
    have hX1 := box_later (box_new w _ _) (by simp) hb1
    have hz1 : w.heap.size < w1.heap.size := by have := hb1.size; simp at this; omega
    have hB1 : Below w.heap.size w w1 := ((Below.refl _ _).alloc (Nat.le_refl _) _).trans (hb1.mono (by simp))
    clear hb1 hlk
    go_wp2_with fail
    refine (as_bool HBare.out (textBare_any _ _ _ _ _ _ _ _ _ _ _ _ _ _)).mono ?_
    rintro e w2 ⟨rfl, hb2⟩
    have hX2 := box_later hX1 hz1 hb2
    have hz2 : w.heap.size < w2.heap.size := by have := hb2.size; omega
    have hB2 : Below w.heap.size w w2 := hB1.trans (hb2.mono (by omega))
    clear hb2 hX1 hz1 hB1
    go_wp2_with fail
    refine (as_bool HSnd.out (textSound_any _ _ _ _ _ _ _ _ _ _ _ _ _ _ _ _)).mono ?_
    rintro e w3 ⟨rfl, hb3⟩
    have hX3 := box_later hX2 hz2 hb3
    have hz3 : w.heap.size < w3.heap.size := by have := hb3.size; omega
    have hB3 : Below w.heap.size w w3 := hB2.trans (hb3.mono (by omega))
    clear hb3 hX2 hz2 hB2
    go_wp2_with fail
    go_ret
    exact ⟨ret_bool (by rw [HO.out, HBare.out, HSnd.out, HD.out]; rfl), hB3⟩
  · have hd' : df.toList.isEmpty = false := by simpa using hd
    have HD : Hid (df.toList.isEmpty = false) := hd'
    have HZ : Hid (Gate.fits 3 ls ms ws df = Gate.textFits ls ms df) := Gate.fits_3 ls ms ws df (by intro h; rw [Gate.isEmpty_of_size] at hd'; simp [h] at hd')
    clear hd
    go_enter Tryd.func54, Tryd.ntmps54
    go_wp2_with fail
    refine (kind3_any _ _ _ _ _ _ _ _ _ _ _ _ _ _).mono ?_
    rintro e w1 ⟨rfl, hb1⟩
    have hX1 := box_later (box_new w _ _) (by simp) hb1
    have hz1 : w.heap.size < w1.heap.size := by have := hb1.size; simp at this; omega
    have hB1 : Below w.heap.size w w1 := ((Below.refl _ _).alloc (Nat.le_refl _) _).trans (hb1.mono (by simp))
    clear hb1 hlk
    go_wp2_with fail
    refine (as_bool HBare.out (textBare_any _ _ _ _ _ _ _ _ _ _ _ _ _ _)).mono ?_
    rintro e w2 ⟨rfl, hb2⟩
    have hX2 := box_later hX1 hz1 hb2
    have hz2 : w.heap.size < w2.heap.size := by have := hb2.size; omega
    have hB2 : Below w.heap.size w w2 := hB1.trans (hb2.mono (by omega))
    clear hb2 hX1 hz1 hB1
    go_wp2_with fail
    refine (as_bool HSnd.out (textSound_any _ _ _ _ _ _ _ _ _ _ _ _ _ _ _ _)).mono ?_
    rintro e w3 ⟨rfl, hb3⟩
    have hX3 := box_later hX2 hz2 hb3
    have hz3 : w.heap.size < w3.heap.size := by have := hb3.size; omega
    have hB3 : Below w.heap.size w w3 := hB2.trans (hb3.mono (by omega))
    clear hb3 hX2 hz2 hB2
    go_wp2_with fail
    refine (textFits_any _ _ _ _ _ _ _ _ _ _ _ _ _ hdf).mono ?_
    rintro e w4 ⟨rfl, hb4⟩
    have hB4 : Below w.heap.size w w4 := hB3.trans (hb4.mono (by omega))
    clear hb4
    go_wp2_with fail
    go_ret
    exact ⟨ret_bool (by rw [HO.out, HBare.out, HSnd.out, HD.out, HZ.out]; rfl), hB4⟩

set_option maxHeartbeats 1000000 in
theorem fieldOk_4 (r : Nat) (nm : ByteArray) (ls ms : Int) (a : Option Addr) (cap : Nat) (ws : List ByteArray) (to : ByteArray) (rl : Int) (mu fx : Bool) (df wg : ByteArray) (a0 : Option Addr) (cap0 : Nat) (ss : List Shp) (w : World) (hr : w.heap[r]? = some (.map kindEs 4)) (hdf : df.size ≤ maxLen) (hss : ShpsAt w a0 ss) :
    Calls Tryd.prog 54 #[.map (some r), .slice a0 ss.length cap0, .agg #[.string nm, .int .i64 4, .int .i64 ls, .int .i64 ms, .slice a ws.length cap, .string to, .int .i64 rl, .bool mu, .bool fx, .string df, .string wg]] w
      fun e w' => e = .returned (.bool (Gate.fieldOk ss ⟨nm, 4, ls, ms, ws, to, rl, mu, fx, df, wg⟩)) ∧ Below w.heap.size w w' := by
  have HO : Hid (Gate.fieldOk ss ⟨nm, 4, ls, ms, ws, to, rl, mu, fx, df, wg⟩ = (Gate.bareOf 4 ls ms ws.length to rl wg && Gate.soundOf ss ⟨nm, 4, ls, ms, ws, to, rl, mu, fx, df, wg⟩ && (df.toList.isEmpty || Gate.fits 4 ls ms ws df))) := rfl
  have hlt : r < w.heap.size := (Array.getElem?_eq_some_iff.1 hr).1
  have hlk : ∀ o, (Instr.lookup 66 (.map (some r)) (.int .i64 4) true).run Tryd.prog (w.alloc o) = .ok (.tuple #[.func (.func 51) #[] #[], .bool true]) (w.alloc o) :=
    fun o => run_lookup_hit Tryd.underlying66 Tryd.underlying3 (.int .i64 4) _ rfl kindEs 4 3 rfl (w.alloc o) r ((Below.heap_alloc w o r hlt).trans hr)
  clear hr
  have hm1 := method_bare4
  have hm2 := method_sound4
  have hm3 := method_fits4
  by_cases hbare : Gate.bareOf 4 ls ms ws.length to rl wg = true
  rotate_left
  · have HBare : Hid (Gate.bareOf 4 ls ms ws.length to rl wg = false) := by simpa [Hid] using hbare
    clear hbare hm2 hm3
    go_enter Tryd.func54, Tryd.ntmps54
    go_wp2_with fail
    refine (kind4_any _ _ _ _ _ _ _ _ _ _ _ _ _ _).mono ?_
    rintro e w1 ⟨rfl, hb1⟩
    have hX1 := box_later (box_new w _ _) (by simp) hb1
    have hz1 : w.heap.size < w1.heap.size := by have := hb1.size; simp at this; omega
    have hB1 : Below w.heap.size w w1 := ((Below.refl _ _).alloc (Nat.le_refl _) _).trans (hb1.mono (by simp))
    clear hb1 hlk
    go_wp2_with fail
    refine (as_bool HBare.out (linkBare_any _ _ _ _ _ _ _ _ _ _ _ _ _ _)).mono ?_
    rintro e w2 ⟨rfl, hb2⟩
    have hX2 := box_later hX1 hz1 hb2
    have hz2 : w.heap.size < w2.heap.size := by have := hb2.size; omega
    have hB2 : Below w.heap.size w w2 := hB1.trans (hb2.mono (by omega))
    clear hb2 hX1 hz1 hB1
    go_wp2_with fail
    go_ret
    exact ⟨ret_bool (by rw [HO.out, HBare.out]; rfl), hB2⟩
  have HBare : Hid (Gate.bareOf 4 ls ms ws.length to rl wg = true) := hbare
  clear hbare
  by_cases hsnd : Gate.soundOf ss ⟨nm, 4, ls, ms, ws, to, rl, mu, fx, df, wg⟩ = true
  rotate_left
  · have HSnd : Hid (Gate.soundOf ss ⟨nm, 4, ls, ms, ws, to, rl, mu, fx, df, wg⟩ = false) := by simpa [Hid] using hsnd
    clear hsnd hm3
    go_enter Tryd.func54, Tryd.ntmps54
    go_wp2_with fail
    refine (kind4_any _ _ _ _ _ _ _ _ _ _ _ _ _ _).mono ?_
    rintro e w1 ⟨rfl, hb1⟩
    have hX1 := box_later (box_new w _ _) (by simp) hb1
    have hz1 : w.heap.size < w1.heap.size := by have := hb1.size; simp at this; omega
    have hB1 : Below w.heap.size w w1 := ((Below.refl _ _).alloc (Nat.le_refl _) _).trans (hb1.mono (by simp))
    clear hb1 hlk
    go_wp2_with fail
    refine (as_bool HBare.out (linkBare_any _ _ _ _ _ _ _ _ _ _ _ _ _ _)).mono ?_
    rintro e w2 ⟨rfl, hb2⟩
    have hX2 := box_later hX1 hz1 hb2
    have hz2 : w.heap.size < w2.heap.size := by have := hb2.size; omega
    have hB2 : Below w.heap.size w w2 := hB1.trans (hb2.mono (by omega))
    clear hb2 hX1 hz1 hB1
    go_wp2_with fail
    refine (as_bool HSnd.out (linkSound_any _ _ _ _ _ _ _ _ _ _ _ _ _ _ _ _ (by exact hss.mono hB2))).mono ?_
    rintro e w3 ⟨rfl, hb3⟩
    have hX3 := box_later hX2 hz2 hb3
    have hz3 : w.heap.size < w3.heap.size := by have := hb3.size; omega
    have hB3 : Below w.heap.size w w3 := hB2.trans (hb3.mono (by omega))
    clear hb3 hX2 hz2 hB2
    go_wp2_with fail
    go_ret
    exact ⟨ret_bool (by rw [HO.out, HBare.out, HSnd.out]; rfl), hB3⟩
  have HSnd : Hid (Gate.soundOf ss ⟨nm, 4, ls, ms, ws, to, rl, mu, fx, df, wg⟩ = true) := hsnd
  clear hsnd
  by_cases hd : df.toList.isEmpty = true
  · have HD : Hid (df.toList.isEmpty = true) := hd
    go_enter Tryd.func54, Tryd.ntmps54
    go_wp2_with fail
    refine (kind4_any _ _ _ _ _ _ _ _ _ _ _ _ _ _).mono ?_
    rintro e w1 ⟨rfl, hb1⟩
    have hX1 := box_later (box_new w _ _) (by simp) hb1
    have hz1 : w.heap.size < w1.heap.size := by have := hb1.size; simp at this; omega
    have hB1 : Below w.heap.size w w1 := ((Below.refl _ _).alloc (Nat.le_refl _) _).trans (hb1.mono (by simp))
    clear hb1 hlk
    go_wp2_with fail
    refine (as_bool HBare.out (linkBare_any _ _ _ _ _ _ _ _ _ _ _ _ _ _)).mono ?_
    rintro e w2 ⟨rfl, hb2⟩
    have hX2 := box_later hX1 hz1 hb2
    have hz2 : w.heap.size < w2.heap.size := by have := hb2.size; omega
    have hB2 : Below w.heap.size w w2 := hB1.trans (hb2.mono (by omega))
    clear hb2 hX1 hz1 hB1
    go_wp2_with fail
    refine (as_bool HSnd.out (linkSound_any _ _ _ _ _ _ _ _ _ _ _ _ _ _ _ _ (by exact hss.mono hB2))).mono ?_
    rintro e w3 ⟨rfl, hb3⟩
    have hX3 := box_later hX2 hz2 hb3
    have hz3 : w.heap.size < w3.heap.size := by have := hb3.size; omega
    have hB3 : Below w.heap.size w w3 := hB2.trans (hb3.mono (by omega))
    clear hb3 hX2 hz2 hB2
    go_wp2_with fail
    go_ret
    exact ⟨ret_bool (by rw [HO.out, HBare.out, HSnd.out, HD.out]; rfl), hB3⟩
  · have hd' : df.toList.isEmpty = false := by simpa using hd
    have HD : Hid (df.toList.isEmpty = false) := hd'
    have HZ : Hid (Gate.fits 4 ls ms ws df = Gate.nameOk df) := Gate.fits_4 ls ms ws df (by intro h; rw [Gate.isEmpty_of_size] at hd'; simp [h] at hd')
    clear hd
    go_enter Tryd.func54, Tryd.ntmps54
    go_wp2_with fail
    refine (kind4_any _ _ _ _ _ _ _ _ _ _ _ _ _ _).mono ?_
    rintro e w1 ⟨rfl, hb1⟩
    have hX1 := box_later (box_new w _ _) (by simp) hb1
    have hz1 : w.heap.size < w1.heap.size := by have := hb1.size; simp at this; omega
    have hB1 : Below w.heap.size w w1 := ((Below.refl _ _).alloc (Nat.le_refl _) _).trans (hb1.mono (by simp))
    clear hb1 hlk
    go_wp2_with fail
    refine (as_bool HBare.out (linkBare_any _ _ _ _ _ _ _ _ _ _ _ _ _ _)).mono ?_
    rintro e w2 ⟨rfl, hb2⟩
    have hX2 := box_later hX1 hz1 hb2
    have hz2 : w.heap.size < w2.heap.size := by have := hb2.size; omega
    have hB2 : Below w.heap.size w w2 := hB1.trans (hb2.mono (by omega))
    clear hb2 hX1 hz1 hB1
    go_wp2_with fail
    refine (as_bool HSnd.out (linkSound_any _ _ _ _ _ _ _ _ _ _ _ _ _ _ _ _ (by exact hss.mono hB2))).mono ?_
    rintro e w3 ⟨rfl, hb3⟩
    have hX3 := box_later hX2 hz2 hb3
    have hz3 : w.heap.size < w3.heap.size := by have := hb3.size; omega
    have hB3 : Below w.heap.size w w3 := hB2.trans (hb3.mono (by omega))
    clear hb3 hX2 hz2 hB2
    go_wp2_with fail
    refine (linkFits_any _ _ _ _ _ _ _ _ _ _ _ _ _ hdf).mono ?_
    rintro e w4 ⟨rfl, hb4⟩
    have hB4 : Below w.heap.size w w4 := hB3.trans (hb4.mono (by omega))
    clear hb4
    go_wp2_with fail
    go_ret
    exact ⟨ret_bool (by rw [HO.out, HBare.out, HSnd.out, HD.out, HZ.out]; rfl), hB4⟩

set_option maxHeartbeats 400000 in
theorem fieldOk_other (r : Nat) (nm : ByteArray) (kd ls ms : Int) (a : Option Addr) (cap : Nat) (ws : List ByteArray) (to : ByteArray) (rl : Int) (mu fx : Bool) (df wg : ByteArray) (a0 : Option Addr) (cap0 : Nat) (ss : List Shp) (w : World) (hr : w.heap[r]? = some (.map kindEs 4)) (h1 : kd ≠ 1) (h2 : kd ≠ 2) (h3 : kd ≠ 3) (h4 : kd ≠ 4) :
    Calls Tryd.prog 54 #[.map (some r), .slice a0 ss.length cap0, .agg #[.string nm, .int .i64 kd, .int .i64 ls, .int .i64 ms, .slice a ws.length cap, .string to, .int .i64 rl, .bool mu, .bool fx, .string df, .string wg]] w
      fun e w' => e = .returned (.bool (Gate.fieldOk ss ⟨nm, kd, ls, ms, ws, to, rl, mu, fx, df, wg⟩)) ∧ Below w.heap.size w w' := by
  have HO : Hid (Gate.fieldOk ss ⟨nm, kd, ls, ms, ws, to, rl, mu, fx, df, wg⟩ = false) := by simp [Hid, Gate.fieldOk, Gate.bare, Gate.bareOf, h1, h2, h3, h4]
  have hlt : r < w.heap.size := (Array.getElem?_eq_some_iff.1 hr).1
  have hlk : ∀ o, (Instr.lookup 66 (.map (some r)) (.int .i64 kd) true).run Tryd.prog (w.alloc o) = .ok (.tuple #[.nilFunc, .bool false]) (w.alloc o) :=
    fun o => run_lookup_miss Tryd.underlying66 Tryd.underlying3 (.int .i64 kd) _ rfl kindEs 4 (kind_find kd h1 h2 h3 h4) (w.alloc o) (kind_zero _) r ((Below.heap_alloc w o r hlt).trans hr)
  clear hr h1 h2 h3 h4
  go_enter Tryd.func54, Tryd.ntmps54
  go_wp2_with fail
  go_ret
  exact ⟨ret_bool HO.out.symm, (Below.refl _ _).alloc (Nat.le_refl _) _⟩

theorem fieldOk_any (r : Nat) (nm : ByteArray) (kd ls ms : Int) (a : Option Addr) (cap : Nat) (ws : List ByteArray) (to : ByteArray) (rl : Int) (mu fx : Bool) (df wg : ByteArray) (a0 : Option Addr) (cap0 : Nat) (ss : List Shp) (w : World) (hr : w.heap[r]? = some (.map kindEs 4)) (hdf : df.size ≤ maxLen) (hwg : wg.size ≤ maxLen) (hws : StrsAt w a ws) (hss : ShpsAt w a0 ss) :
    Calls Tryd.prog 54 #[.map (some r), .slice a0 ss.length cap0, .agg #[.string nm, .int .i64 kd, .int .i64 ls, .int .i64 ms, .slice a ws.length cap, .string to, .int .i64 rl, .bool mu, .bool fx, .string df, .string wg]] w
      fun e w' => e = .returned (.bool (Gate.fieldOk ss ⟨nm, kd, ls, ms, ws, to, rl, mu, fx, df, wg⟩)) ∧ Below w.heap.size w w' := by
  by_cases h1 : kd = 1
  · subst h1; exact fieldOk_1 r nm ls ms a cap ws to rl mu fx df wg a0 cap0 ss w hr hdf hwg
  by_cases h2 : kd = 2
  · subst h2; exact fieldOk_2 r nm ls ms a cap ws to rl mu fx df wg a0 cap0 ss w hr hws
  by_cases h3 : kd = 3
  · subst h3; exact fieldOk_3 r nm ls ms a cap ws to rl mu fx df wg a0 cap0 ss w hr hdf
  by_cases h4 : kd = 4
  · subst h4; exact fieldOk_4 r nm ls ms a cap ws to rl mu fx df wg a0 cap0 ss w hr hdf hss
  exact fieldOk_other r nm kd ls ms a cap ws to rl mu fx df wg a0 cap0 ss w hr h1 h2 h3 h4

end Go.Proofs.YtmmopakjaeokaaaDoor
