import Derived.Test.YtnacbdhibmaefaaGreatDoorM08
import Derived.WalkKit
import Derived.MapKept
namespace Go.Proofs.YtnacbdhibmaefaaGreatDoor
open Go.RowKit

theorem ret_two {a b : Int} {p q : Bool} (h : a = b) (h2 : p = q) : Ending.returned (.tuple #[.int .i64 a, .bool p]) = .returned (.tuple #[.int .i64 b, .bool q]) := by rw [h, h2]
def decNum (s : ByteArray) : Int := if Gate.decOk s = true then Gate.decS s else 0

set_option maxHeartbeats 800000 in
theorem decimalOf_loop (s : ByteArray) (w : World) (h1 : 1 ≤ s.size) (h7 : s.size ≤ 7) (hz : s.size ≤ 1 ∨ ¬ (s[0].toNat : Int) = 48) :
    Calls Tryz.prog 96 #[.string s] w fun e w' => e = .returned (.tuple #[.int .i64 (decNum s), .bool (Gate.decOk s)]) ∧ w' = w := by
  have HF : Hid (Gate.decOk s = Gate.allDigit s) := Gate.decOk_all s h1 h7 hz
  have hne : s.toList.isEmpty = false := by rw [Gate.isEmpty_of_size]; exact decide_eq_false (by omega)
  rcases (show (¬ (s[0].toNat : Int) = 48) ∨ (s.size ≤ 1 ∧ (s[0].toNat : Int) = 48) by rcases hz with h | h <;> omega) with hz0 | ⟨hone, hz0⟩
  all_goals
    clear hz
    first
      | (have hz1 : ((s[0].toNat : Int) == 48) = true := by simpa using hz0)
      | (have hz1 : ((s[0].toNat : Int) == 48) = false := by simpa using hz0)
    clear hz0
    go_enter Tryz.func96, Tryz.ntmps96
    go_wp2
    go_loop [4, 25] (fun n i => ∃ k : Nat, k ≤ s.size ∧ i = .int .i64 k ∧ (s.data.toList.take k).all Gate.digit = true ∧ n = .int .i64 (Gate.dec (s.data.toList.take k))) (fun _ i => s.size - (intOf i).toNat)
    case atStart => exact ⟨0, Nat.zero_le _, rfl, rfl, rfl⟩
    case round =>
      obtain ⟨k, hk, rfl, hall, rfl⟩ := hrel
      have hlen : (s.data.toList.take k).length ≤ k := List.length_take_le _ _
      obtain ⟨hd0, hd1⟩ := Gate.dec_bound _ hall k hlen
      by_cases hlt : k < s.size
      · have hp := pow_small k (by omega)
        have hd2 : Gate.dec (s.data.toList.take k) < 10000000 := by omega
        clear hp hd1 hlen
        have HS : Hid ((s.data.toList.take (k + 1)).all Gate.digit = (true && Gate.digit s[k])) := by rw [Gate.all_snoc _ s k hlt, hall]; rfl
        have HD : Hid (Gate.dec (s.data.toList.take (k + 1)) = Gate.dec (s.data.toList.take k) * 10 + ((s[k].toNat : Int) - 48)) := by rw [Gate.take_snoc s k hlt]; exact Gate.dec_snoc _ _
        have HN : Hid (Gate.digit s[k] = false → Gate.allDigit s = false) := fun h => Gate.all_not Gate.digit s k hlt h
        clear hall
        by_cases hd : 48 ≤ (s[k].toNat : Int) ∧ (s[k].toNat : Int) ≤ 57
        · have HC : Hid (Gate.digit s[k] = true) := by simp [Gate.digit, Hid]; omega
          obtain ⟨h48, h57⟩ := hd
          go_wp2_with (go_at_call 66; refine (isDigit_yes _ _ h48 h57).mono ?_; rintro e w' ⟨rfl, rfl⟩)
          go_round
          case rel => exact ⟨k + 1, by omega, by go_num, by rw [HS.out, HC.out]; rfl, by rw [HD.out]⟩
          case measure => simp [intOf]; omega
        · have HC : Hid (Gate.digit s[k] = false) := by simp [Gate.digit, Hid]; omega
          have HDD : Hid (¬ (48 ≤ (s[k].toNat : Int) ∧ (s[k].toNat : Int) ≤ 57)) := hd
          clear hd
          go_wp2_with (go_at_call 66; refine (isDigit_no _ _ HDD.out).mono ?_; rintro e w' ⟨rfl, rfl⟩)
          go_ret2
          exact ⟨ret_two (by unfold decNum; rw [HF.out, HN.out HC.out]; rfl) (by rw [HF.out, HN.out HC.out]), rfl⟩
      · have HA : Hid (Gate.allDigit s = true) := by unfold Gate.allDigit Hid; rw [← Gate.take_all s k (by omega)]; exact hall
        have HB : Hid (Gate.dec (s.data.toList.take k) = Gate.decS s) := by rw [Gate.take_all s k (by omega)]; rfl
        clear hall hd0 hd1 hlen
        go_wp2
        go_ret2
        exact ⟨ret_two (by unfold decNum; rw [HF.out, HA.out, HB.out]; rfl) (by rw [HF.out, HA.out]), rfl⟩

set_option maxHeartbeats 400000 in
theorem decimalOf_any (s : ByteArray) (w : World) (hs : s.size ≤ maxLen) :
    Calls Tryz.prog 96 #[.string s] w fun e w' => e = .returned (.tuple #[.int .i64 (decNum s), .bool (Gate.decOk s)]) ∧ w' = w := by
  unfold maxLen at hs
  by_cases h0 : s.size = 0
  · rw [Gate.empty_of_size s h0]
    go_enter Tryz.func96, Tryz.ntmps96
    go_wp2
    go_ret2
    exact ⟨rfl, rfl⟩
  have hne : s.toList.isEmpty = false := by rw [Gate.isEmpty_of_size]; simp [h0]
  by_cases h7 : s.size ≤ 7
  · by_cases hz : 1 < s.size ∧ (s[0].toNat : Int) = 48
    · obtain ⟨hm, hz0⟩ := hz
      have HF : Hid (Gate.decOk s = false) := Gate.decOk_no_zero s hm hz0
      have hz1 : ((s[0].toNat : Int) == 48) = true := by simpa using hz0
      clear hz0
      go_enter Tryz.func96, Tryz.ntmps96
      go_wp2
      go_ret2
      exact ⟨ret_two (by unfold decNum; rw [HF.out]; rfl) HF.out.symm, rfl⟩
    · exact decimalOf_loop s w (by omega) h7 (by omega)
  · have HF : Hid (Gate.decOk s = false) := Gate.decOk_no_len s (by omega)
    go_enter Tryz.func96, Tryz.ntmps96
    go_wp2
    go_ret2
    exact ⟨ret_two (by unfold decNum; rw [HF.out]; rfl) HF.out.symm, rfl⟩

set_option maxHeartbeats 400000 in
theorem numberFits_any (nm : ByteArray) (kd ls ms : Int) (sl : Value) (to : ByteArray) (rl : Int) (mu fx : Bool) (df wg : ByteArray) (s : ByteArray) (w : World) (hs : s.size ≤ maxLen) :
    Calls Tryz.prog 94 #[.agg #[.string nm, .int .i64 kd, .int .i64 ls, .int .i64 ms, sl, .string to, .int .i64 rl, .bool mu, .bool fx, .string df, .string wg], .string s] w
      fun e w' => e = .returned (.bool (Gate.numFits ls ms s)) ∧ Below w.heap.size w w' := by
  by_cases hd : Gate.decOk s = true
  · have HE : Hid (decNum s = Gate.decS s) := by unfold decNum Hid; rw [hd]; rfl
    have HF : Hid (Gate.numFits ls ms s = (decide (ls ≤ Gate.decS s) && decide (Gate.decS s ≤ ms))) := by unfold Gate.numFits Hid; rw [hd]; rfl
    go_enter Tryz.func94, Tryz.ntmps94
    go_wp2_with (go_at_call 96; refine (decimalOf_any _ _ hs).mono ?_; rintro e w' ⟨rfl, rfl⟩)
    all_goals
      go_ret
      refine ⟨ret_bool ?_, (Below.refl _ _).alloc (Nat.le_refl _) _⟩
      rw [HF.out]; have := HE.out; rw [Bool.eq_iff_iff]; simp; omega
  · have hd' : Gate.decOk s = false := by simpa using hd
    have HF : Hid (Gate.numFits ls ms s = false) := by unfold Gate.numFits Hid; rw [hd']; rfl
    go_enter Tryz.func94, Tryz.ntmps94
    go_wp2_with (go_at_call 96; refine (decimalOf_any _ _ hs).mono ?_; rintro e w' ⟨rfl, rfl⟩)
    go_ret
    exact ⟨ret_bool HF.out.symm, (Below.refl _ _).alloc (Nat.le_refl _) _⟩

end Go.Proofs.YtnacbdhibmaefaaGreatDoor

namespace Go.Proofs.YtnacbdhibmaefaaGreatDoor
open Go.RowKit

theorem alloc_set (w : World) (o o' : Obj) : { (w.alloc o) with heap := (w.alloc o).heap.setIfInBounds w.heap.size o' } = w.alloc o' := by
  show ({ w with heap := (w.heap.push o).setIfInBounds w.heap.size o' } : World) = { w with heap := w.heap.push o' }
  congr 1
  apply Array.ext_getElem?
  intro i
  simp only [Array.getElem?_setIfInBounds, Array.getElem?_push, Array.size_push]
  by_cases h : w.heap.size = i
  · subst h; simp
  · rw [if_neg h, if_neg (fun e => h e.symm), if_neg (fun e => h e.symm)]

theorem alloc_at (w : World) (o : Obj) : (w.alloc o).heap[w.heap.size]? = some o := by
  show (w.heap.push o)[w.heap.size]? = some o
  simp

/-- A new key into a map that is the last block. -/
theorem run_update_last {P : Program} {mty kt et : TypeId} {d : TypeDesc} (hm : P.underlying mty = some (.map kt et)) (hd : P.underlying kt = some d) (key val : Value) (hk : MapKept.IsKey d key)
    (es : Array MapEntry) (clock : Nat) (hf : Instr.findNow d key es.toList 0 = some none) (w : World) :
    (Instr.mapUpdate mty (.map (some w.heap.size)) key val).run P (w.alloc (.map es clock)) = .ok () (w.alloc (.map (es.push ⟨key, val, clock⟩) (clock + 1))) := by
  have hb := alloc_at w (.map es clock)
  have hc := MapKept.run_checkKey (P := P) (w := w.alloc (.map es clock)) hd hk false 9999
  simp [Instr.mapUpdate, run_underlying hm, MapKept.run_getObj_map hb, hc, MapKept.run_findKey hd hf, MapKept.run_setObj_map _ hb, Result.andThen, ← alloc_set w (.map es clock) (.map (es.push ⟨key, val, clock⟩) (clock + 1))]

theorem run_lookup_hit {P : Program} {mty kt et : TypeId} {d : TypeDesc} (hm : P.underlying mty = some (.map kt et)) (hd : P.underlying kt = some d) (key val : Value) (hk : MapKept.IsKey d key)
    (es : Array MapEntry) (clock i : Nat) (hf : Instr.findNow d key es.toList 0 = some (some (i, val))) (w : World) (r : Nat) (hb : w.heap[r]? = some (.map es clock)) :
    (Instr.lookup mty (.map (some r)) key true).run P w = .ok (.tuple #[val, .bool true]) w := by
  have hc := MapKept.run_checkKey (P := P) (w := w) hd hk es.isEmpty 9999
  simp [Instr.lookup, run_underlying hm, MapKept.run_getObj_map hb, hc, MapKept.run_findKey hd hf, Result.andThen]

theorem run_lookup_miss {P : Program} {mty kt et : TypeId} {d : TypeDesc} (hm : P.underlying mty = some (.map kt et)) (hd : P.underlying kt = some d) (key z : Value) (hk : MapKept.IsKey d key)
    (es : Array MapEntry) (clock : Nat) (hf : Instr.findNow d key es.toList 0 = some none) (w : World) (hz : (zeroValue et).run P w = .ok z w) (r : Nat) (hb : w.heap[r]? = some (.map es clock)) :
    (Instr.lookup mty (.map (some r)) key true).run P w = .ok (.tuple #[z, .bool false]) w := by
  have hc := MapKept.run_checkKey (P := P) (w := w) hd hk es.isEmpty 9999
  simp [Instr.lookup, run_underlying hm, MapKept.run_getObj_map hb, hc, MapKept.run_findKey hd hf, hz, Result.andThen]

end Go.Proofs.YtnacbdhibmaefaaGreatDoor

namespace Go.Proofs.YtnacbdhibmaefaaGreatDoor
open Go.RowKit

def kindEs : Array MapEntry := #[⟨.int .i64 1, .func (.func 44) #[] #[], 0⟩, ⟨.int .i64 2, .func (.func 45) #[] #[], 1⟩, ⟨.int .i64 3, .func (.func 46) #[] #[], 2⟩, ⟨.int .i64 4, .func (.func 47) #[] #[], 3⟩]

set_option maxHeartbeats 400000 in
theorem fieldKinds_any (w : World) :
    Calls Tryz.prog 28 #[] w fun e w' => e = .returned (.map (some w.heap.size)) ∧ w' = w.alloc (.map kindEs 4) := by
  have hmm := @run_makeMap Tryz.prog
  have i1 := run_update_last (P := Tryz.prog) Tryz.underlying63 Tryz.underlying3 (.int .i64 1) (.func (.func 44) #[] #[]) rfl #[] 0 rfl
  have i2 := run_update_last (P := Tryz.prog) Tryz.underlying63 Tryz.underlying3 (.int .i64 2) (.func (.func 45) #[] #[]) rfl #[⟨.int .i64 1, .func (.func 44) #[] #[], 0⟩] 1 rfl
  have i3 := run_update_last (P := Tryz.prog) Tryz.underlying63 Tryz.underlying3 (.int .i64 3) (.func (.func 46) #[] #[]) rfl #[⟨.int .i64 1, .func (.func 44) #[] #[], 0⟩, ⟨.int .i64 2, .func (.func 45) #[] #[], 1⟩] 2 rfl
  have i4 := run_update_last (P := Tryz.prog) Tryz.underlying63 Tryz.underlying3 (.int .i64 4) (.func (.func 47) #[] #[]) rfl #[⟨.int .i64 1, .func (.func 44) #[] #[], 0⟩, ⟨.int .i64 2, .func (.func 45) #[] #[], 1⟩, ⟨.int .i64 3, .func (.func 46) #[] #[], 2⟩] 3 rfl
  simp only [List.push_toArray, List.cons_append, List.nil_append, Nat.zero_add, Nat.reduceAdd] at i1 i2 i3 i4
  go_enter Tryz.func28, Tryz.ntmps28
  go_wp2
  go_ret
  exact ⟨rfl, rfl⟩

set_option maxHeartbeats 400000 in
theorem kind1_any (nm : ByteArray) (kd ls ms : Int) (a : Option Addr) (n cap : Nat) (to : ByteArray) (rl : Int) (mu fx : Bool) (df wg : ByteArray) (w : World) :
    Calls Tryz.prog 44 #[.agg #[.string nm, .int .i64 kd, .int .i64 ls, .int .i64 ms, .slice a n cap, .string to, .int .i64 rl, .bool mu, .bool fx, .string df, .string wg]] w
      fun e w' => e = .returned (.iface 87 (.agg #[.string nm, .int .i64 kd, .int .i64 ls, .int .i64 ms, .slice a n cap, .string to, .int .i64 rl, .bool mu, .bool fx, .string df, .string wg])) ∧ Below w.heap.size w w' := by
  go_enter Tryz.func44, Tryz.ntmps44
  go_wp2
  go_ret
  exact ⟨rfl, (Below.refl _ _).alloc (Nat.le_refl _) _⟩

set_option maxHeartbeats 400000 in
theorem kind2_any (nm : ByteArray) (kd ls ms : Int) (a : Option Addr) (n cap : Nat) (to : ByteArray) (rl : Int) (mu fx : Bool) (df wg : ByteArray) (w : World) :
    Calls Tryz.prog 45 #[.agg #[.string nm, .int .i64 kd, .int .i64 ls, .int .i64 ms, .slice a n cap, .string to, .int .i64 rl, .bool mu, .bool fx, .string df, .string wg]] w
      fun e w' => e = .returned (.iface 89 (.agg #[.string nm, .int .i64 kd, .int .i64 ls, .int .i64 ms, .slice a n cap, .string to, .int .i64 rl, .bool mu, .bool fx, .string df, .string wg])) ∧ Below w.heap.size w w' := by
  go_enter Tryz.func45, Tryz.ntmps45
  go_wp2
  go_ret
  exact ⟨rfl, (Below.refl _ _).alloc (Nat.le_refl _) _⟩

set_option maxHeartbeats 400000 in
theorem kind3_any (nm : ByteArray) (kd ls ms : Int) (a : Option Addr) (n cap : Nat) (to : ByteArray) (rl : Int) (mu fx : Bool) (df wg : ByteArray) (w : World) :
    Calls Tryz.prog 46 #[.agg #[.string nm, .int .i64 kd, .int .i64 ls, .int .i64 ms, .slice a n cap, .string to, .int .i64 rl, .bool mu, .bool fx, .string df, .string wg]] w
      fun e w' => e = .returned (.iface 90 (.agg #[.string nm, .int .i64 kd, .int .i64 ls, .int .i64 ms, .slice a n cap, .string to, .int .i64 rl, .bool mu, .bool fx, .string df, .string wg])) ∧ Below w.heap.size w w' := by
  go_enter Tryz.func46, Tryz.ntmps46
  go_wp2
  go_ret
  exact ⟨rfl, (Below.refl _ _).alloc (Nat.le_refl _) _⟩

set_option maxHeartbeats 400000 in
theorem kind4_any (nm : ByteArray) (kd ls ms : Int) (a : Option Addr) (n cap : Nat) (to : ByteArray) (rl : Int) (mu fx : Bool) (df wg : ByteArray) (w : World) :
    Calls Tryz.prog 47 #[.agg #[.string nm, .int .i64 kd, .int .i64 ls, .int .i64 ms, .slice a n cap, .string to, .int .i64 rl, .bool mu, .bool fx, .string df, .string wg]] w
      fun e w' => e = .returned (.iface 91 (.agg #[.string nm, .int .i64 kd, .int .i64 ls, .int .i64 ms, .slice a n cap, .string to, .int .i64 rl, .bool mu, .bool fx, .string df, .string wg])) ∧ Below w.heap.size w w' := by
  go_enter Tryz.func47, Tryz.ntmps47
  go_wp2
  go_ret
  exact ⟨rfl, (Below.refl _ _).alloc (Nat.le_refl _) _⟩


theorem method_fits1 (x : Value) (w : World) : (method 267 87 x "loop.example/wharfgate/impl.fits").run Tryz.prog w = .ok (94, x) w := by kernel_rfl

theorem method_fits2 (x : Value) (w : World) : (method 267 89 x "loop.example/wharfgate/impl.fits").run Tryz.prog w = .ok (99, x) w := by kernel_rfl

theorem method_fits3 (x : Value) (w : World) : (method 267 90 x "loop.example/wharfgate/impl.fits").run Tryz.prog w = .ok (104, x) w := by kernel_rfl

theorem method_fits4 (x : Value) (w : World) : (method 267 91 x "loop.example/wharfgate/impl.fits").run Tryz.prog w = .ok (107, x) w := by kernel_rfl

set_option maxHeartbeats 400000 in
theorem tableFits_1 (r : Nat) (nm : ByteArray) (ls ms : Int) (a : Option Addr) (cap : Nat) (ws : List ByteArray) (to : ByteArray) (rl : Int) (mu fx : Bool) (df wg : ByteArray) (v : ByteArray) (w : World) (hr : w.heap[r]? = some (.map kindEs 4)) (hv : v.size ≤ maxLen) (hz : ¬ v.size = 0) :
    Calls Tryz.prog 73 #[.map (some r), .agg #[.string nm, .int .i64 1, .int .i64 ls, .int .i64 ms, .slice a ws.length cap, .string to, .int .i64 rl, .bool mu, .bool fx, .string df, .string wg], .string v] w
      fun e w' => e = .returned (.bool (Gate.fits 1 ls ms ws v)) ∧ Below w.heap.size w w' := by
  rw [Gate.fits_1 ls ms ws v hz]
  have hne : v.toList.isEmpty = false := by rw [Gate.isEmpty_of_size]; simp [hz]
  have hlt : r < w.heap.size := (Array.getElem?_eq_some_iff.1 hr).1
  have hlk : ∀ o, (Instr.lookup 63 (.map (some r)) (.int .i64 1) true).run Tryz.prog (w.alloc o) = .ok (.tuple #[.func (.func 44) #[] #[], .bool true]) (w.alloc o) :=
    fun o => run_lookup_hit Tryz.underlying63 Tryz.underlying3 (.int .i64 1) _ rfl kindEs 4 0 rfl (w.alloc o) r ((Below.heap_alloc w o r hlt).trans hr)
  clear hr
  have hmt := method_fits1
  go_enter Tryz.func73, Tryz.ntmps73
  go_wp2_with (first
    | (go_at_call 44; refine (kind1_any _ _ _ _ _ _ _ _ _ _ _ _ _ _).mono ?_; rintro e w1 ⟨rfl, hb1⟩)
    | (go_at_call 94; refine (numberFits_any _ _ _ _ _ _ _ _ _ _ _ _ _ hv).mono ?_; rintro e w2 ⟨rfl, hb2⟩))
  go_ret
  exact ⟨rfl, (((Below.refl _ _).alloc (Nat.le_refl _) _).trans (hb1.mono (by simp))).trans (hb2.mono (by have := hb1.size; simp at this; omega))⟩

set_option maxHeartbeats 400000 in
theorem tableFits_2 (r : Nat) (nm : ByteArray) (ls ms : Int) (a : Option Addr) (cap : Nat) (ws : List ByteArray) (to : ByteArray) (rl : Int) (mu fx : Bool) (df wg : ByteArray) (v : ByteArray) (w : World) (hr : w.heap[r]? = some (.map kindEs 4)) (hws : StrsAt w a ws) (hz : ¬ v.size = 0) :
    Calls Tryz.prog 73 #[.map (some r), .agg #[.string nm, .int .i64 2, .int .i64 ls, .int .i64 ms, .slice a ws.length cap, .string to, .int .i64 rl, .bool mu, .bool fx, .string df, .string wg], .string v] w
      fun e w' => e = .returned (.bool (Gate.fits 2 ls ms ws v)) ∧ Below w.heap.size w w' := by
  rw [Gate.fits_2 ls ms ws v hz]
  have hne : v.toList.isEmpty = false := by rw [Gate.isEmpty_of_size]; simp [hz]
  have hlt : r < w.heap.size := (Array.getElem?_eq_some_iff.1 hr).1
  have hlk : ∀ o, (Instr.lookup 63 (.map (some r)) (.int .i64 2) true).run Tryz.prog (w.alloc o) = .ok (.tuple #[.func (.func 45) #[] #[], .bool true]) (w.alloc o) :=
    fun o => run_lookup_hit Tryz.underlying63 Tryz.underlying3 (.int .i64 2) _ rfl kindEs 4 1 rfl (w.alloc o) r ((Below.heap_alloc w o r hlt).trans hr)
  clear hr
  have hmt := method_fits2
  go_enter Tryz.func73, Tryz.ntmps73
  go_wp2_with (first
    | (go_at_call 45; refine (kind2_any _ _ _ _ _ _ _ _ _ _ _ _ _ _).mono ?_; rintro e w1 ⟨rfl, hb1⟩; have hws1 := (hws.mono ((Below.refl _ _).alloc (Nat.le_refl _) _)).mono hb1)
    | (go_at_call 99; refine (wordFits_any _ _ _ _ _ _ _ _ _ _ _ _ _ _ _ (by exact hws1)).mono ?_; rintro e w2 ⟨rfl, hb2⟩))
  go_ret
  exact ⟨rfl, (((Below.refl _ _).alloc (Nat.le_refl _) _).trans (hb1.mono (by simp))).trans (hb2.mono (by have := hb1.size; simp at this; omega))⟩

set_option maxHeartbeats 400000 in
theorem tableFits_3 (r : Nat) (nm : ByteArray) (ls ms : Int) (a : Option Addr) (cap : Nat) (ws : List ByteArray) (to : ByteArray) (rl : Int) (mu fx : Bool) (df wg : ByteArray) (v : ByteArray) (w : World) (hr : w.heap[r]? = some (.map kindEs 4)) (hv : v.size ≤ maxLen) (hz : ¬ v.size = 0) :
    Calls Tryz.prog 73 #[.map (some r), .agg #[.string nm, .int .i64 3, .int .i64 ls, .int .i64 ms, .slice a ws.length cap, .string to, .int .i64 rl, .bool mu, .bool fx, .string df, .string wg], .string v] w
      fun e w' => e = .returned (.bool (Gate.fits 3 ls ms ws v)) ∧ Below w.heap.size w w' := by
  rw [Gate.fits_3 ls ms ws v hz]
  have hne : v.toList.isEmpty = false := by rw [Gate.isEmpty_of_size]; simp [hz]
  have hlt : r < w.heap.size := (Array.getElem?_eq_some_iff.1 hr).1
  have hlk : ∀ o, (Instr.lookup 63 (.map (some r)) (.int .i64 3) true).run Tryz.prog (w.alloc o) = .ok (.tuple #[.func (.func 46) #[] #[], .bool true]) (w.alloc o) :=
    fun o => run_lookup_hit Tryz.underlying63 Tryz.underlying3 (.int .i64 3) _ rfl kindEs 4 2 rfl (w.alloc o) r ((Below.heap_alloc w o r hlt).trans hr)
  clear hr
  have hmt := method_fits3
  go_enter Tryz.func73, Tryz.ntmps73
  go_wp2_with (first
    | (go_at_call 46; refine (kind3_any _ _ _ _ _ _ _ _ _ _ _ _ _ _).mono ?_; rintro e w1 ⟨rfl, hb1⟩)
    | (go_at_call 104; refine (textFits_any _ _ _ _ _ _ _ _ _ _ _ _ _ hv).mono ?_; rintro e w2 ⟨rfl, hb2⟩))
  go_ret
  exact ⟨rfl, (((Below.refl _ _).alloc (Nat.le_refl _) _).trans (hb1.mono (by simp))).trans (hb2.mono (by have := hb1.size; simp at this; omega))⟩

set_option maxHeartbeats 400000 in
theorem tableFits_4 (r : Nat) (nm : ByteArray) (ls ms : Int) (a : Option Addr) (cap : Nat) (ws : List ByteArray) (to : ByteArray) (rl : Int) (mu fx : Bool) (df wg : ByteArray) (v : ByteArray) (w : World) (hr : w.heap[r]? = some (.map kindEs 4)) (hv : v.size ≤ maxLen) (hz : ¬ v.size = 0) :
    Calls Tryz.prog 73 #[.map (some r), .agg #[.string nm, .int .i64 4, .int .i64 ls, .int .i64 ms, .slice a ws.length cap, .string to, .int .i64 rl, .bool mu, .bool fx, .string df, .string wg], .string v] w
      fun e w' => e = .returned (.bool (Gate.fits 4 ls ms ws v)) ∧ Below w.heap.size w w' := by
  rw [Gate.fits_4 ls ms ws v hz]
  have hne : v.toList.isEmpty = false := by rw [Gate.isEmpty_of_size]; simp [hz]
  have hlt : r < w.heap.size := (Array.getElem?_eq_some_iff.1 hr).1
  have hlk : ∀ o, (Instr.lookup 63 (.map (some r)) (.int .i64 4) true).run Tryz.prog (w.alloc o) = .ok (.tuple #[.func (.func 47) #[] #[], .bool true]) (w.alloc o) :=
    fun o => run_lookup_hit Tryz.underlying63 Tryz.underlying3 (.int .i64 4) _ rfl kindEs 4 3 rfl (w.alloc o) r ((Below.heap_alloc w o r hlt).trans hr)
  clear hr
  have hmt := method_fits4
  go_enter Tryz.func73, Tryz.ntmps73
  go_wp2_with (first
    | (go_at_call 47; refine (kind4_any _ _ _ _ _ _ _ _ _ _ _ _ _ _).mono ?_; rintro e w1 ⟨rfl, hb1⟩)
    | (go_at_call 107; refine (linkFits_any _ _ _ _ _ _ _ _ _ _ _ _ _ hv).mono ?_; rintro e w2 ⟨rfl, hb2⟩))
  go_ret
  exact ⟨rfl, (((Below.refl _ _).alloc (Nat.le_refl _) _).trans (hb1.mono (by simp))).trans (hb2.mono (by have := hb1.size; simp at this; omega))⟩

theorem kind_zero (w : World) : (zeroValue 88).run Tryz.prog w = .ok .nilFunc w := by kernel_rfl

theorem kind_find (kd : Int) (h1 : kd ≠ 1) (h2 : kd ≠ 2) (h3 : kd ≠ 3) (h4 : kd ≠ 4) : Instr.findNow (.int .i64) (.int .i64 kd) kindEs.toList 0 = some none := by
  have e1 : (kd == 1) = false := by simpa using h1
  have e2 : (kd == 2) = false := by simpa using h2
  have e3 : (kd == 3) = false := by simpa using h3
  have e4 : (kd == 4) = false := by simpa using h4
  simp [Instr.findNow, Instr.sameNow, kindEs, e1, e2, e3, e4]

set_option maxHeartbeats 400000 in
theorem tableFits_other (r : Nat) (nm : ByteArray) (kd ls ms : Int) (a : Option Addr) (cap : Nat) (ws : List ByteArray) (to : ByteArray) (rl : Int) (mu fx : Bool) (df wg : ByteArray) (v : ByteArray) (w : World) (hr : w.heap[r]? = some (.map kindEs 4)) (h1 : kd ≠ 1) (h2 : kd ≠ 2) (h3 : kd ≠ 3) (h4 : kd ≠ 4) :
    Calls Tryz.prog 73 #[.map (some r), .agg #[.string nm, .int .i64 kd, .int .i64 ls, .int .i64 ms, .slice a ws.length cap, .string to, .int .i64 rl, .bool mu, .bool fx, .string df, .string wg], .string v] w
      fun e w' => e = .returned (.bool (Gate.fits kd ls ms ws v)) ∧ Below w.heap.size w w' := by
  rw [Gate.fits_other kd ls ms ws v h1 h2 h3 h4]
  have hlt : r < w.heap.size := (Array.getElem?_eq_some_iff.1 hr).1
  have hlk : ∀ o, (Instr.lookup 63 (.map (some r)) (.int .i64 kd) true).run Tryz.prog (w.alloc o) = .ok (.tuple #[.nilFunc, .bool false]) (w.alloc o) :=
    fun o => run_lookup_miss Tryz.underlying63 Tryz.underlying3 (.int .i64 kd) _ rfl kindEs 4 (kind_find kd h1 h2 h3 h4) (w.alloc o) (kind_zero _) r ((Below.heap_alloc w o r hlt).trans hr)
  clear hr h1 h2 h3 h4
  go_enter Tryz.func73, Tryz.ntmps73
  go_wp2_with fail
  go_ret
  exact ⟨rfl, (Below.refl _ _).alloc (Nat.le_refl _) _⟩

set_option maxHeartbeats 400000 in
theorem tableFits_1_empty (r : Nat) (nm : ByteArray) (ls ms : Int) (a : Option Addr) (cap : Nat) (ws : List ByteArray) (to : ByteArray) (rl : Int) (mu fx : Bool) (df wg : ByteArray) (v : ByteArray) (w : World) (hr : w.heap[r]? = some (.map kindEs 4)) (hz : v.size = 0) :
    Calls Tryz.prog 73 #[.map (some r), .agg #[.string nm, .int .i64 1, .int .i64 ls, .int .i64 ms, .slice a ws.length cap, .string to, .int .i64 rl, .bool mu, .bool fx, .string df, .string wg], .string v] w
      fun e w' => e = .returned (.bool (Gate.fits 1 ls ms ws v)) ∧ Below w.heap.size w w' := by
  rw [Gate.fits_empty 1 ls ms ws v hz]
  have hne : v.toList.isEmpty = true := by rw [Gate.isEmpty_of_size]; simp [hz]
  clear hz
  have hlt : r < w.heap.size := (Array.getElem?_eq_some_iff.1 hr).1
  have hlk : ∀ o, (Instr.lookup 63 (.map (some r)) (.int .i64 1) true).run Tryz.prog (w.alloc o) = .ok (.tuple #[.func (.func 44) #[] #[], .bool true]) (w.alloc o) :=
    fun o => run_lookup_hit Tryz.underlying63 Tryz.underlying3 (.int .i64 1) _ rfl kindEs 4 0 rfl (w.alloc o) r ((Below.heap_alloc w o r hlt).trans hr)
  clear hr
  go_enter Tryz.func73, Tryz.ntmps73
  go_wp2_with fail
  go_ret
  exact ⟨rfl, (Below.refl _ _).alloc (Nat.le_refl _) _⟩

set_option maxHeartbeats 400000 in
theorem tableFits_2_empty (r : Nat) (nm : ByteArray) (ls ms : Int) (a : Option Addr) (cap : Nat) (ws : List ByteArray) (to : ByteArray) (rl : Int) (mu fx : Bool) (df wg : ByteArray) (v : ByteArray) (w : World) (hr : w.heap[r]? = some (.map kindEs 4)) (hz : v.size = 0) :
    Calls Tryz.prog 73 #[.map (some r), .agg #[.string nm, .int .i64 2, .int .i64 ls, .int .i64 ms, .slice a ws.length cap, .string to, .int .i64 rl, .bool mu, .bool fx, .string df, .string wg], .string v] w
      fun e w' => e = .returned (.bool (Gate.fits 2 ls ms ws v)) ∧ Below w.heap.size w w' := by
  rw [Gate.fits_empty 2 ls ms ws v hz]
  have hne : v.toList.isEmpty = true := by rw [Gate.isEmpty_of_size]; simp [hz]
  clear hz
  have hlt : r < w.heap.size := (Array.getElem?_eq_some_iff.1 hr).1
  have hlk : ∀ o, (Instr.lookup 63 (.map (some r)) (.int .i64 2) true).run Tryz.prog (w.alloc o) = .ok (.tuple #[.func (.func 45) #[] #[], .bool true]) (w.alloc o) :=
    fun o => run_lookup_hit Tryz.underlying63 Tryz.underlying3 (.int .i64 2) _ rfl kindEs 4 1 rfl (w.alloc o) r ((Below.heap_alloc w o r hlt).trans hr)
  clear hr
  go_enter Tryz.func73, Tryz.ntmps73
  go_wp2_with fail
  go_ret
  exact ⟨rfl, (Below.refl _ _).alloc (Nat.le_refl _) _⟩

set_option maxHeartbeats 400000 in
theorem tableFits_3_empty (r : Nat) (nm : ByteArray) (ls ms : Int) (a : Option Addr) (cap : Nat) (ws : List ByteArray) (to : ByteArray) (rl : Int) (mu fx : Bool) (df wg : ByteArray) (v : ByteArray) (w : World) (hr : w.heap[r]? = some (.map kindEs 4)) (hz : v.size = 0) :
    Calls Tryz.prog 73 #[.map (some r), .agg #[.string nm, .int .i64 3, .int .i64 ls, .int .i64 ms, .slice a ws.length cap, .string to, .int .i64 rl, .bool mu, .bool fx, .string df, .string wg], .string v] w
      fun e w' => e = .returned (.bool (Gate.fits 3 ls ms ws v)) ∧ Below w.heap.size w w' := by
  rw [Gate.fits_empty 3 ls ms ws v hz]
  have hne : v.toList.isEmpty = true := by rw [Gate.isEmpty_of_size]; simp [hz]
  clear hz
  have hlt : r < w.heap.size := (Array.getElem?_eq_some_iff.1 hr).1
  have hlk : ∀ o, (Instr.lookup 63 (.map (some r)) (.int .i64 3) true).run Tryz.prog (w.alloc o) = .ok (.tuple #[.func (.func 46) #[] #[], .bool true]) (w.alloc o) :=
    fun o => run_lookup_hit Tryz.underlying63 Tryz.underlying3 (.int .i64 3) _ rfl kindEs 4 2 rfl (w.alloc o) r ((Below.heap_alloc w o r hlt).trans hr)
  clear hr
  go_enter Tryz.func73, Tryz.ntmps73
  go_wp2_with fail
  go_ret
  exact ⟨rfl, (Below.refl _ _).alloc (Nat.le_refl _) _⟩

set_option maxHeartbeats 400000 in
theorem tableFits_4_empty (r : Nat) (nm : ByteArray) (ls ms : Int) (a : Option Addr) (cap : Nat) (ws : List ByteArray) (to : ByteArray) (rl : Int) (mu fx : Bool) (df wg : ByteArray) (v : ByteArray) (w : World) (hr : w.heap[r]? = some (.map kindEs 4)) (hz : v.size = 0) :
    Calls Tryz.prog 73 #[.map (some r), .agg #[.string nm, .int .i64 4, .int .i64 ls, .int .i64 ms, .slice a ws.length cap, .string to, .int .i64 rl, .bool mu, .bool fx, .string df, .string wg], .string v] w
      fun e w' => e = .returned (.bool (Gate.fits 4 ls ms ws v)) ∧ Below w.heap.size w w' := by
  rw [Gate.fits_empty 4 ls ms ws v hz]
  have hne : v.toList.isEmpty = true := by rw [Gate.isEmpty_of_size]; simp [hz]
  clear hz
  have hlt : r < w.heap.size := (Array.getElem?_eq_some_iff.1 hr).1
  have hlk : ∀ o, (Instr.lookup 63 (.map (some r)) (.int .i64 4) true).run Tryz.prog (w.alloc o) = .ok (.tuple #[.func (.func 47) #[] #[], .bool true]) (w.alloc o) :=
    fun o => run_lookup_hit Tryz.underlying63 Tryz.underlying3 (.int .i64 4) _ rfl kindEs 4 3 rfl (w.alloc o) r ((Below.heap_alloc w o r hlt).trans hr)
  clear hr
  go_enter Tryz.func73, Tryz.ntmps73
  go_wp2_with fail
  go_ret
  exact ⟨rfl, (Below.refl _ _).alloc (Nat.le_refl _) _⟩

theorem tableFits_any (r : Nat) (nm : ByteArray) (kd ls ms : Int) (a : Option Addr) (cap : Nat) (ws : List ByteArray) (to : ByteArray) (rl : Int) (mu fx : Bool) (df wg : ByteArray) (v : ByteArray) (w : World) (hr : w.heap[r]? = some (.map kindEs 4)) (hv : v.size ≤ maxLen) (hws : StrsAt w a ws) :
    Calls Tryz.prog 73 #[.map (some r), .agg #[.string nm, .int .i64 kd, .int .i64 ls, .int .i64 ms, .slice a ws.length cap, .string to, .int .i64 rl, .bool mu, .bool fx, .string df, .string wg], .string v] w
      fun e w' => e = .returned (.bool (Gate.fits kd ls ms ws v)) ∧ Below w.heap.size w w' := by
  by_cases h1 : kd = 1
  · subst h1; by_cases hz : v.size = 0
    · exact tableFits_1_empty r nm ls ms a cap ws to rl mu fx df wg v w hr hz
    · exact tableFits_1 r nm ls ms a cap ws to rl mu fx df wg v w hr hv hz
  by_cases h2 : kd = 2
  · subst h2; by_cases hz : v.size = 0
    · exact tableFits_2_empty r nm ls ms a cap ws to rl mu fx df wg v w hr hz
    · exact tableFits_2 r nm ls ms a cap ws to rl mu fx df wg v w hr hws hz
  by_cases h3 : kd = 3
  · subst h3; by_cases hz : v.size = 0
    · exact tableFits_3_empty r nm ls ms a cap ws to rl mu fx df wg v w hr hz
    · exact tableFits_3 r nm ls ms a cap ws to rl mu fx df wg v w hr hv hz
  by_cases h4 : kd = 4
  · subst h4; by_cases hz : v.size = 0
    · exact tableFits_4_empty r nm ls ms a cap ws to rl mu fx df wg v w hr hz
    · exact tableFits_4 r nm ls ms a cap ws to rl mu fx df wg v w hr hv hz
  exact tableFits_other r nm kd ls ms a cap ws to rl mu fx df wg v w hr h1 h2 h3 h4

end Go.Proofs.YtnacbdhibmaefaaGreatDoor
