import Derived.Test.YtliggnanlfbkiaaGreatM16
import Derived.Test.YtliggnanlfbkiaaGreatM09
import Derived.Test.YtliggnanlfbkiaaGreatM13
namespace Go.Proofs.YtliggnanlfbkiaaGreat
open Go.RowKit

set_option maxHeartbeats 400000 in
theorem numberFits_any (nm : ByteArray) (kd ls ms : Int) (sl : Value) (to : ByteArray) (rl : Int) (mu fx : Bool) (df wg : ByteArray) (s : ByteArray) (w : World) (hs : s.size ≤ maxLen) :
    Calls Tryz.prog 106 #[.agg #[.string nm, .int .i64 kd, .int .i64 ls, .int .i64 ms, sl, .string to, .int .i64 rl, .bool mu, .bool fx, .string df, .string wg], .string s] w
      fun e w' => e = .returned (.bool (Gate.numFits ls ms s)) ∧ Below w.heap.size w w' := by
  by_cases hd : Gate.decOk s = true
  · have HE : Hid (decNum s = Gate.decS s) := by unfold decNum Hid; rw [hd]; rfl
    have HF : Hid (Gate.numFits ls ms s = (decide (ls ≤ Gate.decS s) && decide (Gate.decS s ≤ ms))) := by unfold Gate.numFits Hid; rw [hd]; rfl
    go_enter Tryz.func106, Tryz.ntmps106
    go_wp2_with (go_at_call 108; refine (decimalOf_any _ _ hs).mono ?_; rintro e w' ⟨rfl, rfl⟩)
    all_goals
      go_ret
      refine ⟨ret_bool ?_, (Below.refl _ _).alloc (Nat.le_refl _) _⟩
      rw [HF.out]; have := HE.out; rw [Bool.eq_iff_iff]; simp; omega
  · have hd' : Gate.decOk s = false := by simpa using hd
    have HF : Hid (Gate.numFits ls ms s = false) := by unfold Gate.numFits Hid; rw [hd']; rfl
    go_enter Tryz.func106, Tryz.ntmps106
    go_wp2_with (go_at_call 108; refine (decimalOf_any _ _ hs).mono ?_; rintro e w' ⟨rfl, rfl⟩)
    go_ret
    exact ⟨ret_bool HF.out.symm, (Below.refl _ _).alloc (Nat.le_refl _) _⟩

end Go.Proofs.YtliggnanlfbkiaaGreat

namespace Go.Proofs.YtliggnanlfbkiaaGreat
open Go.RowKit

def kindEs : Array MapEntry := #[⟨.int .i64 1, .func (.func 59) #[] #[], 0⟩, ⟨.int .i64 2, .func (.func 60) #[] #[], 1⟩, ⟨.int .i64 3, .func (.func 61) #[] #[], 2⟩, ⟨.int .i64 4, .func (.func 62) #[] #[], 3⟩]

set_option maxHeartbeats 400000 in
theorem fieldKinds_any (w : World) :
    Calls Tryz.prog 35 #[] w fun e w' => e = .returned (.map (some w.heap.size)) ∧ w' = w.alloc (.map kindEs 4) := by
  have hmm := @run_makeMap Tryz.prog
  have i1 := run_update_last (P := Tryz.prog) Tryz.underlying74 Tryz.underlying3 (.int .i64 1) (.func (.func 59) #[] #[]) rfl #[] 0 rfl
  have i2 := run_update_last (P := Tryz.prog) Tryz.underlying74 Tryz.underlying3 (.int .i64 2) (.func (.func 60) #[] #[]) rfl #[⟨.int .i64 1, .func (.func 59) #[] #[], 0⟩] 1 rfl
  have i3 := run_update_last (P := Tryz.prog) Tryz.underlying74 Tryz.underlying3 (.int .i64 3) (.func (.func 61) #[] #[]) rfl #[⟨.int .i64 1, .func (.func 59) #[] #[], 0⟩, ⟨.int .i64 2, .func (.func 60) #[] #[], 1⟩] 2 rfl
  have i4 := run_update_last (P := Tryz.prog) Tryz.underlying74 Tryz.underlying3 (.int .i64 4) (.func (.func 62) #[] #[]) rfl #[⟨.int .i64 1, .func (.func 59) #[] #[], 0⟩, ⟨.int .i64 2, .func (.func 60) #[] #[], 1⟩, ⟨.int .i64 3, .func (.func 61) #[] #[], 2⟩] 3 rfl
  simp only [List.push_toArray, List.cons_append, List.nil_append, Nat.zero_add, Nat.reduceAdd] at i1 i2 i3 i4
  go_enter Tryz.func35, Tryz.ntmps35
  go_wp2
  go_ret
  exact ⟨rfl, rfl⟩

set_option maxHeartbeats 400000 in
theorem kind1_any (nm : ByteArray) (kd ls ms : Int) (a : Option Addr) (n cap : Nat) (to : ByteArray) (rl : Int) (mu fx : Bool) (df wg : ByteArray) (w : World) :
    Calls Tryz.prog 59 #[.agg #[.string nm, .int .i64 kd, .int .i64 ls, .int .i64 ms, .slice a n cap, .string to, .int .i64 rl, .bool mu, .bool fx, .string df, .string wg]] w
      fun e w' => e = .returned (.iface 104 (.agg #[.string nm, .int .i64 kd, .int .i64 ls, .int .i64 ms, .slice a n cap, .string to, .int .i64 rl, .bool mu, .bool fx, .string df, .string wg])) ∧ Below w.heap.size w w' := by
  go_enter Tryz.func59, Tryz.ntmps59
  go_wp2
  go_ret
  exact ⟨rfl, (Below.refl _ _).alloc (Nat.le_refl _) _⟩

set_option maxHeartbeats 400000 in
theorem kind2_any (nm : ByteArray) (kd ls ms : Int) (a : Option Addr) (n cap : Nat) (to : ByteArray) (rl : Int) (mu fx : Bool) (df wg : ByteArray) (w : World) :
    Calls Tryz.prog 60 #[.agg #[.string nm, .int .i64 kd, .int .i64 ls, .int .i64 ms, .slice a n cap, .string to, .int .i64 rl, .bool mu, .bool fx, .string df, .string wg]] w
      fun e w' => e = .returned (.iface 106 (.agg #[.string nm, .int .i64 kd, .int .i64 ls, .int .i64 ms, .slice a n cap, .string to, .int .i64 rl, .bool mu, .bool fx, .string df, .string wg])) ∧ Below w.heap.size w w' := by
  go_enter Tryz.func60, Tryz.ntmps60
  go_wp2
  go_ret
  exact ⟨rfl, (Below.refl _ _).alloc (Nat.le_refl _) _⟩

set_option maxHeartbeats 400000 in
theorem kind3_any (nm : ByteArray) (kd ls ms : Int) (a : Option Addr) (n cap : Nat) (to : ByteArray) (rl : Int) (mu fx : Bool) (df wg : ByteArray) (w : World) :
    Calls Tryz.prog 61 #[.agg #[.string nm, .int .i64 kd, .int .i64 ls, .int .i64 ms, .slice a n cap, .string to, .int .i64 rl, .bool mu, .bool fx, .string df, .string wg]] w
      fun e w' => e = .returned (.iface 107 (.agg #[.string nm, .int .i64 kd, .int .i64 ls, .int .i64 ms, .slice a n cap, .string to, .int .i64 rl, .bool mu, .bool fx, .string df, .string wg])) ∧ Below w.heap.size w w' := by
  go_enter Tryz.func61, Tryz.ntmps61
  go_wp2
  go_ret
  exact ⟨rfl, (Below.refl _ _).alloc (Nat.le_refl _) _⟩

set_option maxHeartbeats 400000 in
theorem kind4_any (nm : ByteArray) (kd ls ms : Int) (a : Option Addr) (n cap : Nat) (to : ByteArray) (rl : Int) (mu fx : Bool) (df wg : ByteArray) (w : World) :
    Calls Tryz.prog 62 #[.agg #[.string nm, .int .i64 kd, .int .i64 ls, .int .i64 ms, .slice a n cap, .string to, .int .i64 rl, .bool mu, .bool fx, .string df, .string wg]] w
      fun e w' => e = .returned (.iface 108 (.agg #[.string nm, .int .i64 kd, .int .i64 ls, .int .i64 ms, .slice a n cap, .string to, .int .i64 rl, .bool mu, .bool fx, .string df, .string wg])) ∧ Below w.heap.size w w' := by
  go_enter Tryz.func62, Tryz.ntmps62
  go_wp2
  go_ret
  exact ⟨rfl, (Below.refl _ _).alloc (Nat.le_refl _) _⟩


theorem method_fits1 (x : Value) (w : World) : (method 291 104 x "loop.example/wharfgate/impl.fits").run Tryz.prog w = .ok (106, x) w := by kernel_rfl

theorem method_fits2 (x : Value) (w : World) : (method 291 106 x "loop.example/wharfgate/impl.fits").run Tryz.prog w = .ok (111, x) w := by kernel_rfl

theorem method_fits3 (x : Value) (w : World) : (method 291 107 x "loop.example/wharfgate/impl.fits").run Tryz.prog w = .ok (117, x) w := by kernel_rfl

theorem method_fits4 (x : Value) (w : World) : (method 291 108 x "loop.example/wharfgate/impl.fits").run Tryz.prog w = .ok (120, x) w := by kernel_rfl

set_option maxRecDepth 20000 in
set_option maxHeartbeats 400000 in
/-- A field of any known kind: what is told by its kind is handed in. -/
theorem tableFits_gen (r fk T fF : Nat) (Ft : Bool) (nm : ByteArray) (kd ls ms : Int) (a : Option Addr) (cap : Nat) (ws : List ByteArray) (to : ByteArray) (rl : Int) (mu fx : Bool) (df wg : ByteArray) (v : ByteArray) (w : World)
    (hlk : ∀ o, (Instr.lookup 74 (.map (some r)) (.int .i64 kd) true).run Tryz.prog (w.alloc o) = .ok (.tuple #[.func (.func fk) #[] #[], .bool true]) (w.alloc o))
    (hm3 : ∀ x w, (method 291 T x "loop.example/wharfgate/impl.fits").run Tryz.prog w = .ok (fF, x) w)
    (hc0 : ∀ args w, (callFunc fk args).run Tryz.prog w = .ok (.enter fk args) w) (hc1 : ∀ args w, (callFunc fF args).run Tryz.prog w = .ok (.enter fF args) w)
    (HK : Hid (∀ W, Calls Tryz.prog fk #[.agg #[.string nm, .int .i64 kd, .int .i64 ls, .int .i64 ms, .slice a ws.length cap, .string to, .int .i64 rl, .bool mu, .bool fx, .string df, .string wg]] W fun e w' => e = .returned (.iface T (.agg #[.string nm, .int .i64 kd, .int .i64 ls, .int .i64 ms, .slice a ws.length cap, .string to, .int .i64 rl, .bool mu, .bool fx, .string df, .string wg])) ∧ Below W.heap.size W w'))
    (HF : Hid (v.toList.isEmpty = false → ∀ W, Below w.heap.size w W → Calls Tryz.prog fF #[.agg #[.string nm, .int .i64 kd, .int .i64 ls, .int .i64 ms, .slice a ws.length cap, .string to, .int .i64 rl, .bool mu, .bool fx, .string df, .string wg], .string v] W fun e w' => e = .returned (.bool Ft) ∧ Below W.heap.size W w')) (HE : Hid (v.toList.isEmpty = true → Ft = false)) :
    Calls Tryz.prog 65 #[.map (some r), .agg #[.string nm, .int .i64 kd, .int .i64 ls, .int .i64 ms, .slice a ws.length cap, .string to, .int .i64 rl, .bool mu, .bool fx, .string df, .string wg], .string v] w fun e w' => e = .returned (.bool Ft) ∧ Below w.heap.size w w' := by
  go_enter Tryz.func65, Tryz.ntmps65
  rcases hd : v.toList.isEmpty with _ | _
  · go_wp2_with fail
    refine (HK.out _).mono ?_
    rintro e w1 ⟨rfl, hb1⟩
    have H1 := hid (((Below.refl _ _).alloc (Nat.le_refl _) _).trans (hb1.mono (by simp)))
    clear hb1 hlk
    go_wp2_with fail
    refine (HF.out hd _ H1.out).mono ?_
    rintro e w2 ⟨rfl, hb2⟩
    have H2 := hid (H1.out.trans (hb2.mono H1.out.size))
    clear hb2
    go_wp2_with fail
    go_ret
    exact ⟨rfl, H2.out⟩
  · go_wp2_with fail
    go_ret
    exact ⟨ret_bool (HE.out hd).symm, (Below.refl _ _).alloc (Nat.le_refl _) _⟩

theorem kind_zero (w : World) : (zeroValue 105).run Tryz.prog w = .ok .nilFunc w := by kernel_rfl

theorem kind_find (kd : Int) (h1 : kd ≠ 1) (h2 : kd ≠ 2) (h3 : kd ≠ 3) (h4 : kd ≠ 4) : Instr.findNow (.int .i64) (.int .i64 kd) kindEs.toList 0 = some none := by
  have e1 : (kd == 1) = false := by simpa using h1
  have e2 : (kd == 2) = false := by simpa using h2
  have e3 : (kd == 3) = false := by simpa using h3
  have e4 : (kd == 4) = false := by simpa using h4
  simp [Instr.findNow, Instr.sameNow, kindEs, e1, e2, e3, e4]

set_option maxHeartbeats 400000 in
theorem tableFits_other (r : Nat) (nm : ByteArray) (kd ls ms : Int) (a : Option Addr) (cap : Nat) (ws : List ByteArray) (to : ByteArray) (rl : Int) (mu fx : Bool) (df wg : ByteArray) (v : ByteArray) (w : World) (hr : w.heap[r]? = some (.map kindEs 4)) (h1 : kd ≠ 1) (h2 : kd ≠ 2) (h3 : kd ≠ 3) (h4 : kd ≠ 4) :
    Calls Tryz.prog 65 #[.map (some r), .agg #[.string nm, .int .i64 kd, .int .i64 ls, .int .i64 ms, .slice a ws.length cap, .string to, .int .i64 rl, .bool mu, .bool fx, .string df, .string wg], .string v] w
      fun e w' => e = .returned (.bool (Gate.fits kd ls ms ws v)) ∧ Below w.heap.size w w' := by
  rw [Gate.fits_other kd ls ms ws v h1 h2 h3 h4]
  have hlt : r < w.heap.size := (Array.getElem?_eq_some_iff.1 hr).1
  have hlk : ∀ o, (Instr.lookup 74 (.map (some r)) (.int .i64 kd) true).run Tryz.prog (w.alloc o) = .ok (.tuple #[.nilFunc, .bool false]) (w.alloc o) :=
    fun o => run_lookup_miss Tryz.underlying74 Tryz.underlying3 (.int .i64 kd) _ rfl kindEs 4 (kind_find kd h1 h2 h3 h4) (w.alloc o) (kind_zero _) r ((Below.heap_alloc w o r hlt).trans hr)
  clear hr h1 h2 h3 h4
  go_enter Tryz.func65, Tryz.ntmps65
  go_wp2_with fail
  go_ret
  exact ⟨rfl, (Below.refl _ _).alloc (Nat.le_refl _) _⟩

theorem tableFits_any (r : Nat) (nm : ByteArray) (kd ls ms : Int) (a : Option Addr) (cap : Nat) (ws : List ByteArray) (to : ByteArray) (rl : Int) (mu fx : Bool) (df wg : ByteArray) (v : ByteArray) (w : World) (hr : w.heap[r]? = some (.map kindEs 4)) (hv : v.size ≤ maxLen) (hws : StrsAt w a ws) :
    Calls Tryz.prog 65 #[.map (some r), .agg #[.string nm, .int .i64 kd, .int .i64 ls, .int .i64 ms, .slice a ws.length cap, .string to, .int .i64 rl, .bool mu, .bool fx, .string df, .string wg], .string v] w
      fun e w' => e = .returned (.bool (Gate.fits kd ls ms ws v)) ∧ Below w.heap.size w w' := by
  have hlt := (Array.getElem?_eq_some_iff.1 hr).1
  by_cases h1 : kd = 1
  · subst h1
    exact tableFits_gen r 59 104 106 (Gate.fits 1 ls ms ws v) nm 1 ls ms a cap ws to rl mu fx df wg v w
      (fun o => run_lookup_hit Tryz.underlying74 Tryz.underlying3 (.int .i64 1) _ rfl kindEs 4 0 rfl (w.alloc o) r ((Below.heap_alloc w o r hlt).trans hr)) method_fits1 (by intros; go_simp) (by intros; go_simp)
      (fun W => kind1_any _ _ _ _ _ _ _ _ _ _ _ _ _ _) (fun hd W hb => by rw [Gate.fits_1 ls ms ws v (by intro h; rw [Gate.isEmpty_of_size] at hd; simp [h] at hd)]; exact numberFits_any _ _ _ _ _ _ _ _ _ _ _ _ _ hv) (fun hd => Gate.fits_empty 1 ls ms ws v (by rw [Gate.isEmpty_of_size] at hd; simpa using hd))
  by_cases h2 : kd = 2
  · subst h2
    exact tableFits_gen r 60 106 111 (Gate.fits 2 ls ms ws v) nm 2 ls ms a cap ws to rl mu fx df wg v w
      (fun o => run_lookup_hit Tryz.underlying74 Tryz.underlying3 (.int .i64 2) _ rfl kindEs 4 1 rfl (w.alloc o) r ((Below.heap_alloc w o r hlt).trans hr)) method_fits2 (by intros; go_simp) (by intros; go_simp)
      (fun W => kind2_any _ _ _ _ _ _ _ _ _ _ _ _ _ _) (fun hd W hb => by rw [Gate.fits_2 ls ms ws v (by intro h; rw [Gate.isEmpty_of_size] at hd; simp [h] at hd)]; exact wordFits_any _ _ _ _ _ _ _ _ _ _ _ _ _ _ _ (hws.mono hb)) (fun hd => Gate.fits_empty 2 ls ms ws v (by rw [Gate.isEmpty_of_size] at hd; simpa using hd))
  by_cases h3 : kd = 3
  · subst h3
    exact tableFits_gen r 61 107 117 (Gate.fits 3 ls ms ws v) nm 3 ls ms a cap ws to rl mu fx df wg v w
      (fun o => run_lookup_hit Tryz.underlying74 Tryz.underlying3 (.int .i64 3) _ rfl kindEs 4 2 rfl (w.alloc o) r ((Below.heap_alloc w o r hlt).trans hr)) method_fits3 (by intros; go_simp) (by intros; go_simp)
      (fun W => kind3_any _ _ _ _ _ _ _ _ _ _ _ _ _ _) (fun hd W hb => by rw [Gate.fits_3 ls ms ws v (by intro h; rw [Gate.isEmpty_of_size] at hd; simp [h] at hd)]; exact textFits_any _ _ _ _ _ _ _ _ _ _ _ _ _ hv) (fun hd => Gate.fits_empty 3 ls ms ws v (by rw [Gate.isEmpty_of_size] at hd; simpa using hd))
  by_cases h4 : kd = 4
  · subst h4
    exact tableFits_gen r 62 108 120 (Gate.fits 4 ls ms ws v) nm 4 ls ms a cap ws to rl mu fx df wg v w
      (fun o => run_lookup_hit Tryz.underlying74 Tryz.underlying3 (.int .i64 4) _ rfl kindEs 4 3 rfl (w.alloc o) r ((Below.heap_alloc w o r hlt).trans hr)) method_fits4 (by intros; go_simp) (by intros; go_simp)
      (fun W => kind4_any _ _ _ _ _ _ _ _ _ _ _ _ _ _) (fun hd W hb => by rw [Gate.fits_4 ls ms ws v (by intro h; rw [Gate.isEmpty_of_size] at hd; simp [h] at hd)]; exact linkFits_any _ _ _ _ _ _ _ _ _ _ _ _ _ hv) (fun hd => Gate.fits_empty 4 ls ms ws v (by rw [Gate.isEmpty_of_size] at hd; simpa using hd))
  exact tableFits_other r nm kd ls ms a cap ws to rl mu fx df wg v w hr h1 h2 h3 h4

end Go.Proofs.YtliggnanlfbkiaaGreat

namespace Go.Proofs.YtliggnanlfbkiaaGreat
open Go.RowKit

theorem method_bare1 (x : Value) (w : World) : (method 291 104 x "loop.example/wharfgate/impl.bare").run Tryz.prog w = .ok (105, x) w := by kernel_rfl
theorem method_sound1 (x : Value) (w : World) : (method 291 104 x "loop.example/wharfgate/impl.sound").run Tryz.prog w = .ok (107, x) w := by kernel_rfl
theorem method_bare2 (x : Value) (w : World) : (method 291 106 x "loop.example/wharfgate/impl.bare").run Tryz.prog w = .ok (110, x) w := by kernel_rfl
theorem method_sound2 (x : Value) (w : World) : (method 291 106 x "loop.example/wharfgate/impl.sound").run Tryz.prog w = .ok (112, x) w := by kernel_rfl
theorem method_bare3 (x : Value) (w : World) : (method 291 107 x "loop.example/wharfgate/impl.bare").run Tryz.prog w = .ok (116, x) w := by kernel_rfl
theorem method_sound3 (x : Value) (w : World) : (method 291 107 x "loop.example/wharfgate/impl.sound").run Tryz.prog w = .ok (118, x) w := by kernel_rfl
theorem method_bare4 (x : Value) (w : World) : (method 291 108 x "loop.example/wharfgate/impl.bare").run Tryz.prog w = .ok (119, x) w := by kernel_rfl
theorem method_sound4 (x : Value) (w : World) : (method 291 108 x "loop.example/wharfgate/impl.sound").run Tryz.prog w = .ok (121, x) w := by kernel_rfl

set_option maxRecDepth 20000 in
set_option maxHeartbeats 1000000 in
/-- A field of any known kind: what is told by its kind is handed in. -/
theorem fieldOk_gen (r fk T fB fS fF : Nat) (B Sn Ft : Bool) (nm : ByteArray) (kd ls ms : Int) (a : Option Addr) (cap : Nat) (ws : List ByteArray) (to : ByteArray) (rl : Int) (mu fx : Bool) (df wg : ByteArray) (a0 : Option Addr) (cap0 : Nat) (ss : List Shp) (w : World)
    (hlk : ∀ o, (Instr.lookup 74 (.map (some r)) (.int .i64 kd) true).run Tryz.prog (w.alloc o) = .ok (.tuple #[.func (.func fk) #[] #[], .bool true]) (w.alloc o))
    (hm1 : ∀ x w, (method 291 T x "loop.example/wharfgate/impl.bare").run Tryz.prog w = .ok (fB, x) w) (hm2 : ∀ x w, (method 291 T x "loop.example/wharfgate/impl.sound").run Tryz.prog w = .ok (fS, x) w) (hm3 : ∀ x w, (method 291 T x "loop.example/wharfgate/impl.fits").run Tryz.prog w = .ok (fF, x) w)
    (hc0 : ∀ args w, (callFunc fk args).run Tryz.prog w = .ok (.enter fk args) w) (hc1 : ∀ args w, (callFunc fB args).run Tryz.prog w = .ok (.enter fB args) w) (hc2 : ∀ args w, (callFunc fS args).run Tryz.prog w = .ok (.enter fS args) w) (hc3 : ∀ args w, (callFunc fF args).run Tryz.prog w = .ok (.enter fF args) w)
    (HK : Hid (∀ W, Calls Tryz.prog fk #[.agg #[.string nm, .int .i64 kd, .int .i64 ls, .int .i64 ms, .slice a ws.length cap, .string to, .int .i64 rl, .bool mu, .bool fx, .string df, .string wg]] W fun e w' => e = .returned (.iface T (.agg #[.string nm, .int .i64 kd, .int .i64 ls, .int .i64 ms, .slice a ws.length cap, .string to, .int .i64 rl, .bool mu, .bool fx, .string df, .string wg])) ∧ Below W.heap.size W w'))
    (HB : Hid (∀ W, Calls Tryz.prog fB #[.agg #[.string nm, .int .i64 kd, .int .i64 ls, .int .i64 ms, .slice a ws.length cap, .string to, .int .i64 rl, .bool mu, .bool fx, .string df, .string wg]] W fun e w' => e = .returned (.bool B) ∧ Below W.heap.size W w'))
    (HS : Hid (∀ W, Below w.heap.size w W → Calls Tryz.prog fS #[.agg #[.string nm, .int .i64 kd, .int .i64 ls, .int .i64 ms, .slice a ws.length cap, .string to, .int .i64 rl, .bool mu, .bool fx, .string df, .string wg], .slice a0 ss.length cap0] W fun e w' => e = .returned (.bool Sn) ∧ Below W.heap.size W w'))
    (HF : Hid (df.toList.isEmpty = false → ∀ W, Below w.heap.size w W → Calls Tryz.prog fF #[.agg #[.string nm, .int .i64 kd, .int .i64 ls, .int .i64 ms, .slice a ws.length cap, .string to, .int .i64 rl, .bool mu, .bool fx, .string df, .string wg], .string df] W fun e w' => e = .returned (.bool Ft) ∧ Below W.heap.size W w')) :
    Calls Tryz.prog 80 #[.map (some r), .slice a0 ss.length cap0, .agg #[.string nm, .int .i64 kd, .int .i64 ls, .int .i64 ms, .slice a ws.length cap, .string to, .int .i64 rl, .bool mu, .bool fx, .string df, .string wg]] w
      fun e w' => e = .returned (.bool (B && Sn && (df.toList.isEmpty || Ft))) ∧ Below w.heap.size w w' := by
  go_enter Tryz.func80, Tryz.ntmps80
  go_wp2_with fail
  refine (HK.out _).mono ?_
  rintro e w1 ⟨rfl, hb1⟩
  have hX1 := box_later (box_new w _ _) (by simp) hb1
  have hz1 : w.heap.size < w1.heap.size := by have := hb1.size; simp at this; omega
  have H1 := hid (((Below.refl _ _).alloc (Nat.le_refl _) _).trans (hb1.mono (by simp)))
  clear hb1 hlk
  go_wp2_with fail
  refine (HB.out _).mono ?_
  rintro e w2 ⟨rfl, hb2⟩
  have hX2 := box_later hX1 hz1 hb2
  have hz2 : w.heap.size < w2.heap.size := by have := hb2.size; omega
  have H2 := hid (H1.out.trans (hb2.mono (by omega)))
  clear hb2 hX1 hz1 H1
  cases B with
  | false =>
    go_wp2_with fail
    go_ret
    exact ⟨rfl, H2.out⟩
  | true =>
    go_wp2_with fail
    refine (HS.out _ H2.out).mono ?_
    rintro e w3 ⟨rfl, hb3⟩
    have hX3 := box_later hX2 hz2 hb3
    have H3 := hid (H2.out.trans (hb3.mono (by omega)))
    clear hb3 hX2 hz2 H2
    cases Sn with
    | false =>
      go_wp2_with fail
      go_ret
      exact ⟨rfl, H3.out⟩
    | true =>
      rcases hd : df.toList.isEmpty with _ | _
      · go_wp2_with fail
        refine (HF.out hd _ H3.out).mono ?_
        rintro e w4 ⟨rfl, hb4⟩
        have H4 := hid (H3.out.trans (hb4.mono H3.out.size))
        clear hb4
        go_wp2_with fail
        go_ret
        exact ⟨ret_bool (by simp [hd]), H4.out⟩
      · go_wp2_with fail
        go_ret
        exact ⟨ret_bool (by simp [hd]), H3.out⟩

set_option maxHeartbeats 400000 in
theorem fieldOk_other (r : Nat) (nm : ByteArray) (kd ls ms : Int) (a : Option Addr) (cap : Nat) (ws : List ByteArray) (to : ByteArray) (rl : Int) (mu fx : Bool) (df wg : ByteArray) (a0 : Option Addr) (cap0 : Nat) (ss : List Shp) (w : World) (hr : w.heap[r]? = some (.map kindEs 4)) (h1 : kd ≠ 1) (h2 : kd ≠ 2) (h3 : kd ≠ 3) (h4 : kd ≠ 4) :
    Calls Tryz.prog 80 #[.map (some r), .slice a0 ss.length cap0, .agg #[.string nm, .int .i64 kd, .int .i64 ls, .int .i64 ms, .slice a ws.length cap, .string to, .int .i64 rl, .bool mu, .bool fx, .string df, .string wg]] w
      fun e w' => e = .returned (.bool (Gate.fieldOk ss ⟨nm, kd, ls, ms, ws, to, rl, mu, fx, df, wg⟩)) ∧ Below w.heap.size w w' := by
  have HO : Hid (Gate.fieldOk ss ⟨nm, kd, ls, ms, ws, to, rl, mu, fx, df, wg⟩ = false) := by simp [Hid, Gate.fieldOk, Gate.bare, Gate.bareOf, h1, h2, h3, h4]
  have hlt := (Array.getElem?_eq_some_iff.1 hr).1
  have hlk : ∀ o, (Instr.lookup 74 (.map (some r)) (.int .i64 kd) true).run Tryz.prog (w.alloc o) = .ok (.tuple #[.nilFunc, .bool false]) (w.alloc o) :=
    fun o => run_lookup_miss Tryz.underlying74 Tryz.underlying3 (.int .i64 kd) _ rfl kindEs 4 (kind_find kd h1 h2 h3 h4) (w.alloc o) (kind_zero _) r ((Below.heap_alloc w o r hlt).trans hr)
  clear hr h1 h2 h3 h4
  go_enter Tryz.func80, Tryz.ntmps80
  go_wp2_with fail
  go_ret
  exact ⟨ret_bool HO.out.symm, (Below.refl _ _).alloc (Nat.le_refl _) _⟩

theorem fieldOk_any (r : Nat) (nm : ByteArray) (kd ls ms : Int) (a : Option Addr) (cap : Nat) (ws : List ByteArray) (to : ByteArray) (rl : Int) (mu fx : Bool) (df wg : ByteArray) (a0 : Option Addr) (cap0 : Nat) (ss : List Shp) (w : World) (hr : w.heap[r]? = some (.map kindEs 4)) (hdf : df.size ≤ maxLen) (hwg : wg.size ≤ maxLen) (hws : StrsAt w a ws) (hss : ShpsAt w a0 ss) :
    Calls Tryz.prog 80 #[.map (some r), .slice a0 ss.length cap0, .agg #[.string nm, .int .i64 kd, .int .i64 ls, .int .i64 ms, .slice a ws.length cap, .string to, .int .i64 rl, .bool mu, .bool fx, .string df, .string wg]] w
      fun e w' => e = .returned (.bool (Gate.fieldOk ss ⟨nm, kd, ls, ms, ws, to, rl, mu, fx, df, wg⟩)) ∧ Below w.heap.size w w' := by
  have hlt := (Array.getElem?_eq_some_iff.1 hr).1
  by_cases h1 : kd = 1
  · subst h1
    have h := fieldOk_gen r 59 104 105 107 106 (Gate.bareOf 1 ls ms ws.length to rl wg) (Gate.soundOf ss ⟨nm, 1, ls, ms, ws, to, rl, mu, fx, df, wg⟩) (Gate.fits 1 ls ms ws df) nm 1 ls ms a cap ws to rl mu fx df wg a0 cap0 ss w
      (fun o => run_lookup_hit Tryz.underlying74 Tryz.underlying3 (.int .i64 1) _ rfl kindEs 4 0 rfl (w.alloc o) r ((Below.heap_alloc w o r hlt).trans hr)) method_bare1 method_sound1 method_fits1 (by intros; go_simp) (by intros; go_simp) (by intros; go_simp) (by intros; go_simp)
      (fun W => kind1_any _ _ _ _ _ _ _ _ _ _ _ _ _ _) (fun W => numberBare_any _ _ _ _ _ _ _ _ _ _ _ _ _ _) (fun W hb => numberSound_any _ _ _ _ _ _ _ _ _ _ _ _ _ _ _ _ hwg)
      (fun hd W hb => by rw [Gate.fits_1 ls ms ws df (by intro h; rw [Gate.isEmpty_of_size] at hd; simp [h] at hd)]; exact numberFits_any _ _ _ _ _ _ _ _ _ _ _ _ _ hdf)
    exact h
  by_cases h2 : kd = 2
  · subst h2
    have h := fieldOk_gen r 60 106 110 112 111 (Gate.bareOf 2 ls ms ws.length to rl wg) (Gate.soundOf ss ⟨nm, 2, ls, ms, ws, to, rl, mu, fx, df, wg⟩) (Gate.fits 2 ls ms ws df) nm 2 ls ms a cap ws to rl mu fx df wg a0 cap0 ss w
      (fun o => run_lookup_hit Tryz.underlying74 Tryz.underlying3 (.int .i64 2) _ rfl kindEs 4 1 rfl (w.alloc o) r ((Below.heap_alloc w o r hlt).trans hr)) method_bare2 method_sound2 method_fits2 (by intros; go_simp) (by intros; go_simp) (by intros; go_simp) (by intros; go_simp)
      (fun W => kind2_any _ _ _ _ _ _ _ _ _ _ _ _ _ _) (fun W => wordBare_any _ _ _ _ _ _ _ _ _ _ _ _ _ _) (fun W hb => wordSound_any _ _ _ _ _ _ _ _ _ _ _ _ _ _ _ _ (hws.mono hb))
      (fun hd W hb => by rw [Gate.fits_2 ls ms ws df (by intro h; rw [Gate.isEmpty_of_size] at hd; simp [h] at hd)]; exact wordFits_any _ _ _ _ _ _ _ _ _ _ _ _ _ _ _ (hws.mono hb))
    exact h
  by_cases h3 : kd = 3
  · subst h3
    have h := fieldOk_gen r 61 107 116 118 117 (Gate.bareOf 3 ls ms ws.length to rl wg) (Gate.soundOf ss ⟨nm, 3, ls, ms, ws, to, rl, mu, fx, df, wg⟩) (Gate.fits 3 ls ms ws df) nm 3 ls ms a cap ws to rl mu fx df wg a0 cap0 ss w
      (fun o => run_lookup_hit Tryz.underlying74 Tryz.underlying3 (.int .i64 3) _ rfl kindEs 4 2 rfl (w.alloc o) r ((Below.heap_alloc w o r hlt).trans hr)) method_bare3 method_sound3 method_fits3 (by intros; go_simp) (by intros; go_simp) (by intros; go_simp) (by intros; go_simp)
      (fun W => kind3_any _ _ _ _ _ _ _ _ _ _ _ _ _ _) (fun W => textBare_any _ _ _ _ _ _ _ _ _ _ _ _ _ _) (fun W hb => textSound_any _ _ _ _ _ _ _ _ _ _ _ _ _ _ _ _)
      (fun hd W hb => by rw [Gate.fits_3 ls ms ws df (by intro h; rw [Gate.isEmpty_of_size] at hd; simp [h] at hd)]; exact textFits_any _ _ _ _ _ _ _ _ _ _ _ _ _ hdf)
    exact h
  by_cases h4 : kd = 4
  · subst h4
    have h := fieldOk_gen r 62 108 119 121 120 (Gate.bareOf 4 ls ms ws.length to rl wg) (Gate.soundOf ss ⟨nm, 4, ls, ms, ws, to, rl, mu, fx, df, wg⟩) (Gate.fits 4 ls ms ws df) nm 4 ls ms a cap ws to rl mu fx df wg a0 cap0 ss w
      (fun o => run_lookup_hit Tryz.underlying74 Tryz.underlying3 (.int .i64 4) _ rfl kindEs 4 3 rfl (w.alloc o) r ((Below.heap_alloc w o r hlt).trans hr)) method_bare4 method_sound4 method_fits4 (by intros; go_simp) (by intros; go_simp) (by intros; go_simp) (by intros; go_simp)
      (fun W => kind4_any _ _ _ _ _ _ _ _ _ _ _ _ _ _) (fun W => linkBare_any _ _ _ _ _ _ _ _ _ _ _ _ _ _) (fun W hb => linkSound_any _ _ _ _ _ _ _ _ _ _ _ _ _ _ _ _ (hss.mono hb))
      (fun hd W hb => by rw [Gate.fits_4 ls ms ws df (by intro h; rw [Gate.isEmpty_of_size] at hd; simp [h] at hd)]; exact linkFits_any _ _ _ _ _ _ _ _ _ _ _ _ _ hdf)
    exact h
  exact fieldOk_other r nm kd ls ms a cap ws to rl mu fx df wg a0 cap0 ss w hr h1 h2 h3 h4

end Go.Proofs.YtliggnanlfbkiaaGreat
