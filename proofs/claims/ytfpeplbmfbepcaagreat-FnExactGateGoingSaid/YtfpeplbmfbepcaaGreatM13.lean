import Derived.Test.YtfpeplbmfbepcaaGreatM07
import Derived.Test.YtfpeplbmfbepcaaGreatM10
import Derived.Test.YtfpeplbmfbepcaaGreatM03
import Derived.Deep.OwnRows
import Derived.MapKept
import Derived.Test.YtfpeplbmfbepcaaGreatM05
import Derived.WalkKit
namespace Go.Proofs.YtfpeplbmfbepcaaGreat
namespace Gate
theorem ql {α : Type} (p : α -> Bool) (l : List α) (k : Nat) (h : k < l.length) : (l.take (k + 1)).all p = ((l.take k).all p && p l[k]) := by
  rw [List.take_succ_eq_append_getElem h, List.all_append]; simp
theorem j6 {α : Type} (p : α -> Bool) (l : List α) (k : Nat) (h : k < l.length) (hp : p l[k] = false) : l.all p = false := by
  rw [List.all_eq_false]; exact ⟨l[k], List.getElem_mem h, by simp [hp]⟩
end Gate
end Go.Proofs.YtfpeplbmfbepcaaGreat

namespace Go.Proofs.YtfpeplbmfbepcaaGreat
open Go.RowKit
set_option maxHeartbeats 400000 in
theorem zep (nm : ByteArray) (kd ls ms : Int) (sl : Value) (to : ByteArray) (rl : Int) (mu fx : Bool) (df wg : ByteArray) (s : ByteArray) (w : World) (hs : s.size <= maxLen) :
    Calls Tryz.prog 246 #[.agg #[.string nm, .int .i64 kd, .int .i64 ls, .int .i64 ms, sl, .string to, .int .i64 rl, .bool mu, .bool fx, .string df, .string wg], .string s] w
      fun e w' => e = .returned (.bool (Gate.zae ls ms s)) /\ Below w.heap.size w w' := by
  by_cases hd : Gate.jZ s = true
  · have HE : Hid (zad s = Gate.zfj s) := by unfold zad Hid; rw [hd]; rfl
    have HF : Hid (Gate.zae ls ms s = (decide (ls <= Gate.zfj s) && decide (Gate.zfj s <= ms))) := by unfold Gate.zae Hid; rw [hd]; rfl
    go_enter Tryz.func246, Tryz.ntmps246
    go_wp2_with (go_at_call 225; refine (zcJ _ _ hs).mono ?_; rintro e w' ⟨rfl, rfl⟩)
    all_goals
      go_ret
      refine ⟨ze ?_, (Below.refl _ _).alloc (Nat.le_refl _) _⟩
      rw [HF.out]; have := HE.out; rw [Bool.eq_iff_iff]; simp; omega
  · have hd' : Gate.jZ s = false := by simpa using hd
    have HF : Hid (Gate.zae ls ms s = false) := by unfold Gate.zae Hid; rw [hd']; rfl
    go_enter Tryz.func246, Tryz.ntmps246
    go_wp2_with (go_at_call 225; refine (zcJ _ _ hs).mono ?_; rintro e w' ⟨rfl, rfl⟩)
    go_ret
    exact ⟨ze HF.out.symm, (Below.refl _ _).alloc (Nat.le_refl _) _⟩
end Go.Proofs.YtfpeplbmfbepcaaGreat

namespace Go.Proofs.YtfpeplbmfbepcaaGreat
open Go.RowKit
def qI : Array MapEntry := #[⟨.int .i64 1, .func (.func 178) #[] #[], 0⟩, ⟨.int .i64 2, .func (.func 179) #[] #[], 1⟩, ⟨.int .i64 3, .func (.func 180) #[] #[], 2⟩, ⟨.int .i64 4, .func (.func 181) #[] #[], 3⟩]
set_option maxHeartbeats 400000 in
theorem zb8 (w : World) :
    Calls Tryz.prog 141 #[] w fun e w' => e = .returned (.map (some w.heap.size)) /\ w' = w.alloc (.map qI 4) := by
  have hmm := @run_makeMap Tryz.prog
  have i1 := zaO (P := Tryz.prog) Tryz.underlying206 Tryz.underlying3 (.int .i64 1) (.func (.func 178) #[] #[]) rfl #[] 0 rfl
  have i2 := zaO (P := Tryz.prog) Tryz.underlying206 Tryz.underlying3 (.int .i64 2) (.func (.func 179) #[] #[]) rfl #[⟨.int .i64 1, .func (.func 178) #[] #[], 0⟩] 1 rfl
  have i3 := zaO (P := Tryz.prog) Tryz.underlying206 Tryz.underlying3 (.int .i64 3) (.func (.func 180) #[] #[]) rfl #[⟨.int .i64 1, .func (.func 178) #[] #[], 0⟩, ⟨.int .i64 2, .func (.func 179) #[] #[], 1⟩] 2 rfl
  have i4 := zaO (P := Tryz.prog) Tryz.underlying206 Tryz.underlying3 (.int .i64 4) (.func (.func 181) #[] #[]) rfl #[⟨.int .i64 1, .func (.func 178) #[] #[], 0⟩, ⟨.int .i64 2, .func (.func 179) #[] #[], 1⟩, ⟨.int .i64 3, .func (.func 180) #[] #[], 2⟩] 3 rfl
  simp only [List.push_toArray, List.cons_append, List.nil_append, Nat.zero_add, Nat.reduceAdd] at i1 i2 i3 i4
  go_enter Tryz.func141, Tryz.ntmps141
  go_wp2
  go_ret
  exact ⟨rfl, rfl⟩
set_option maxHeartbeats 400000 in
theorem zkd (nm : ByteArray) (kd ls ms : Int) (a : Option Addr) (n cap : Nat) (to : ByteArray) (rl : Int) (mu fx : Bool) (df wg : ByteArray) (w : World) :
    Calls Tryz.prog 178 #[.agg #[.string nm, .int .i64 kd, .int .i64 ls, .int .i64 ms, .slice a n cap, .string to, .int .i64 rl, .bool mu, .bool fx, .string df, .string wg]] w
      fun e w' => e = .returned (.iface 246 (.agg #[.string nm, .int .i64 kd, .int .i64 ls, .int .i64 ms, .slice a n cap, .string to, .int .i64 rl, .bool mu, .bool fx, .string df, .string wg])) /\ Below w.heap.size w w' := by
  go_enter Tryz.func178, Tryz.ntmps178
  go_wp2
  go_ret
  exact ⟨rfl, (Below.refl _ _).alloc (Nat.le_refl _) _⟩
set_option maxHeartbeats 400000 in
theorem zkt (nm : ByteArray) (kd ls ms : Int) (a : Option Addr) (n cap : Nat) (to : ByteArray) (rl : Int) (mu fx : Bool) (df wg : ByteArray) (w : World) :
    Calls Tryz.prog 179 #[.agg #[.string nm, .int .i64 kd, .int .i64 ls, .int .i64 ms, .slice a n cap, .string to, .int .i64 rl, .bool mu, .bool fx, .string df, .string wg]] w
      fun e w' => e = .returned (.iface 248 (.agg #[.string nm, .int .i64 kd, .int .i64 ls, .int .i64 ms, .slice a n cap, .string to, .int .i64 rl, .bool mu, .bool fx, .string df, .string wg])) /\ Below w.heap.size w w' := by
  go_enter Tryz.func179, Tryz.ntmps179
  go_wp2
  go_ret
  exact ⟨rfl, (Below.refl _ _).alloc (Nat.le_refl _) _⟩
set_option maxHeartbeats 400000 in
theorem zky (nm : ByteArray) (kd ls ms : Int) (a : Option Addr) (n cap : Nat) (to : ByteArray) (rl : Int) (mu fx : Bool) (df wg : ByteArray) (w : World) :
    Calls Tryz.prog 180 #[.agg #[.string nm, .int .i64 kd, .int .i64 ls, .int .i64 ms, .slice a n cap, .string to, .int .i64 rl, .bool mu, .bool fx, .string df, .string wg]] w
      fun e w' => e = .returned (.iface 249 (.agg #[.string nm, .int .i64 kd, .int .i64 ls, .int .i64 ms, .slice a n cap, .string to, .int .i64 rl, .bool mu, .bool fx, .string df, .string wg])) /\ Below w.heap.size w w' := by
  go_enter Tryz.func180, Tryz.ntmps180
  go_wp2
  go_ret
  exact ⟨rfl, (Below.refl _ _).alloc (Nat.le_refl _) _⟩
set_option maxHeartbeats 400000 in
theorem zka (nm : ByteArray) (kd ls ms : Int) (a : Option Addr) (n cap : Nat) (to : ByteArray) (rl : Int) (mu fx : Bool) (df wg : ByteArray) (w : World) :
    Calls Tryz.prog 181 #[.agg #[.string nm, .int .i64 kd, .int .i64 ls, .int .i64 ms, .slice a n cap, .string to, .int .i64 rl, .bool mu, .bool fx, .string df, .string wg]] w
      fun e w' => e = .returned (.iface 250 (.agg #[.string nm, .int .i64 kd, .int .i64 ls, .int .i64 ms, .slice a n cap, .string to, .int .i64 rl, .bool mu, .bool fx, .string df, .string wg])) /\ Below w.heap.size w w' := by
  go_enter Tryz.func181, Tryz.ntmps181
  go_wp2
  go_ret
  exact ⟨rfl, (Below.refl _ _).alloc (Nat.le_refl _) _⟩
theorem zfA (x : Value) (w : World) : (method 416 246 x "loop.example/wharfgate/impl.fits").run Tryz.prog w = .ok (246, x) w := by kernel_rfl
theorem zft (x : Value) (w : World) : (method 416 248 x "loop.example/wharfgate/impl.fits").run Tryz.prog w = .ok (249, x) w := by kernel_rfl
theorem zfZ (x : Value) (w : World) : (method 416 249 x "loop.example/wharfgate/impl.fits").run Tryz.prog w = .ok (254, x) w := by kernel_rfl
theorem zfi (x : Value) (w : World) : (method 416 250 x "loop.example/wharfgate/impl.fits").run Tryz.prog w = .ok (257, x) w := by kernel_rfl
set_option maxRecDepth 20000 in
set_option maxHeartbeats 400000 in
theorem zbB (r fk T fF : Nat) (Ft : Bool) (nm : ByteArray) (kd ls ms : Int) (a : Option Addr) (cap : Nat) (ws : List ByteArray) (to : ByteArray) (rl : Int) (mu fx : Bool) (df wg : ByteArray) (v : ByteArray) (w : World)
    (hlk : ∀ o, (Instr.lookup 206 (.map (some r)) (.int .i64 kd) true).run Tryz.prog (w.alloc o) = .ok (.tuple #[.func (.func fk) #[] #[], .bool true]) (w.alloc o))
    (hm3 : ∀ x w, (method 416 T x "loop.example/wharfgate/impl.fits").run Tryz.prog w = .ok (fF, x) w)
    (hc0 : ∀ args w, (callFunc fk args).run Tryz.prog w = .ok (.enter fk args) w) (hc1 : ∀ args w, (callFunc fF args).run Tryz.prog w = .ok (.enter fF args) w)
    (HK : Hid (∀ W, Calls Tryz.prog fk #[.agg #[.string nm, .int .i64 kd, .int .i64 ls, .int .i64 ms, .slice a ws.length cap, .string to, .int .i64 rl, .bool mu, .bool fx, .string df, .string wg]] W fun e w' => e = .returned (.iface T (.agg #[.string nm, .int .i64 kd, .int .i64 ls, .int .i64 ms, .slice a ws.length cap, .string to, .int .i64 rl, .bool mu, .bool fx, .string df, .string wg])) /\ Below W.heap.size W w'))
    (HF : Hid (v.toList.isEmpty = false -> ∀ W, Below w.heap.size w W -> Calls Tryz.prog fF #[.agg #[.string nm, .int .i64 kd, .int .i64 ls, .int .i64 ms, .slice a ws.length cap, .string to, .int .i64 rl, .bool mu, .bool fx, .string df, .string wg], .string v] W fun e w' => e = .returned (.bool Ft) /\ Below W.heap.size W w')) (HE : Hid (v.toList.isEmpty = true -> Ft = false)) :
    Calls Tryz.prog 184 #[.map (some r), .agg #[.string nm, .int .i64 kd, .int .i64 ls, .int .i64 ms, .slice a ws.length cap, .string to, .int .i64 rl, .bool mu, .bool fx, .string df, .string wg], .string v] w fun e w' => e = .returned (.bool Ft) /\ Below w.heap.size w w' := by
  go_enter Tryz.func184, Tryz.ntmps184
  rcases hd : v.toList.isEmpty with _ | _
  · go_wp2_with fail
    refine (HK.out _).mono ?_
    rintro e w1 ⟨rfl, hb1⟩
    have H1 := hid (((Below.refl _ _).alloc (Nat.le_refl _) _).trans (hb1.mono (by simp)))
    clear hb1 hlk
    go_wp2_with fail
    refine (HF.out hd _ H1.out).mono ?_
    rintro e w2 ⟨rfl, hb2⟩
    have H2 := hid (H1.out.trans (hb2.mono H1.out.size))
    clear hb2
    go_wp2_with fail
    go_ret
    exact ⟨rfl, H2.out⟩
  · go_wp2_with fail
    go_ret
    exact ⟨ze (HE.out hd).symm, (Below.refl _ _).alloc (Nat.le_refl _) _⟩
theorem zku (w : World) : (zeroValue 247).run Tryz.prog w = .ok .nilFunc w := by kernel_rfl
theorem zkB (kd : Int) (h1 : kd ≠ 1) (h2 : kd ≠ 2) (h3 : kd ≠ 3) (h4 : kd ≠ 4) : Instr.findNow (.int .i64) (.int .i64 kd) qI.toList 0 = some none := by
  have e1 : (kd == 1) = false := by simpa using h1
  have e2 : (kd == 2) = false := by simpa using h2
  have e3 : (kd == 3) = false := by simpa using h3
  have e4 : (kd == 4) = false := by simpa using h4
  simp [Instr.findNow, Instr.sameNow, qI, e1, e2, e3, e4]
set_option maxHeartbeats 400000 in
theorem zhF (r : Nat) (nm : ByteArray) (kd ls ms : Int) (a : Option Addr) (cap : Nat) (ws : List ByteArray) (to : ByteArray) (rl : Int) (mu fx : Bool) (df wg : ByteArray) (v : ByteArray) (w : World) (hr : w.heap[r]? = some (.map qI 4)) (h1 : kd ≠ 1) (h2 : kd ≠ 2) (h3 : kd ≠ 3) (h4 : kd ≠ 4) :
    Calls Tryz.prog 184 #[.map (some r), .agg #[.string nm, .int .i64 kd, .int .i64 ls, .int .i64 ms, .slice a ws.length cap, .string to, .int .i64 rl, .bool mu, .bool fx, .string df, .string wg], .string v] w
      fun e w' => e = .returned (.bool (Gate.fits kd ls ms ws v)) /\ Below w.heap.size w w' := by
  rw [Gate.zio kd ls ms ws v h1 h2 h3 h4]
  have hlt : r < w.heap.size := (Array.getElem?_eq_some_iff.1 hr).1
  have hlk : ∀ o, (Instr.lookup 206 (.map (some r)) (.int .i64 kd) true).run Tryz.prog (w.alloc o) = .ok (.tuple #[.nilFunc, .bool false]) (w.alloc o) :=
    fun o => zbR Tryz.underlying206 Tryz.underlying3 (.int .i64 kd) _ rfl qI 4 (zkB kd h1 h2 h3 h4) (w.alloc o) (zku _) r ((Below.heap_alloc w o r hlt).trans hr)
  clear hr h1 h2 h3 h4
  go_enter Tryz.func184, Tryz.ntmps184
  go_wp2_with fail
  go_ret
  exact ⟨rfl, (Below.refl _ _).alloc (Nat.le_refl _) _⟩
theorem zeD (r : Nat) (nm : ByteArray) (kd ls ms : Int) (a : Option Addr) (cap : Nat) (ws : List ByteArray) (to : ByteArray) (rl : Int) (mu fx : Bool) (df wg : ByteArray) (v : ByteArray) (w : World) (hr : w.heap[r]? = some (.map qI 4)) (hv : v.size <= maxLen) (hws : zA w a ws) :
    Calls Tryz.prog 184 #[.map (some r), .agg #[.string nm, .int .i64 kd, .int .i64 ls, .int .i64 ms, .slice a ws.length cap, .string to, .int .i64 rl, .bool mu, .bool fx, .string df, .string wg], .string v] w
      fun e w' => e = .returned (.bool (Gate.fits kd ls ms ws v)) /\ Below w.heap.size w w' := by
  have hlt := (Array.getElem?_eq_some_iff.1 hr).1
  by_cases h1 : kd = 1
  · subst h1
    exact zbB r 178 246 246 (Gate.fits 1 ls ms ws v) nm 1 ls ms a cap ws to rl mu fx df wg v w
      (fun o => qz Tryz.underlying206 Tryz.underlying3 (.int .i64 1) _ rfl qI 4 0 rfl (w.alloc o) r ((Below.heap_alloc w o r hlt).trans hr)) zfA (by intros; go_simp) (by intros; go_simp)
      (fun W => zkd _ _ _ _ _ _ _ _ _ _ _ _ _ _) (fun hd W hb => by rw [Gate.znz ls ms ws v (by intro h; rw [Gate.zu] at hd; simp [h] at hd)]; exact zep _ _ _ _ _ _ _ _ _ _ _ _ _ hv) (fun hd => Gate.jS 1 ls ms ws v (by rw [Gate.zu] at hd; simpa using hd))
  by_cases h2 : kd = 2
  · subst h2
    exact zbB r 179 248 249 (Gate.fits 2 ls ms ws v) nm 2 ls ms a cap ws to rl mu fx df wg v w
      (fun o => qz Tryz.underlying206 Tryz.underlying3 (.int .i64 2) _ rfl qI 4 1 rfl (w.alloc o) r ((Below.heap_alloc w o r hlt).trans hr)) zft (by intros; go_simp) (by intros; go_simp)
      (fun W => zkt _ _ _ _ _ _ _ _ _ _ _ _ _ _) (fun hd W hb => by rw [Gate.znM ls ms ws v (by intro h; rw [Gate.zu] at hd; simp [h] at hd)]; exact zfy _ _ _ _ _ _ _ _ _ _ _ _ _ _ _ (hws.mono hb)) (fun hd => Gate.jS 2 ls ms ws v (by rw [Gate.zu] at hd; simpa using hd))
  by_cases h3 : kd = 3
  · subst h3
    exact zbB r 180 249 254 (Gate.fits 3 ls ms ws v) nm 3 ls ms a cap ws to rl mu fx df wg v w
      (fun o => qz Tryz.underlying206 Tryz.underlying3 (.int .i64 3) _ rfl qI 4 2 rfl (w.alloc o) r ((Below.heap_alloc w o r hlt).trans hr)) zfZ (by intros; go_simp) (by intros; go_simp)
      (fun W => zky _ _ _ _ _ _ _ _ _ _ _ _ _ _) (fun hd W hb => by rw [Gate.zkH ls ms ws v (by intro h; rw [Gate.zu] at hd; simp [h] at hd)]; exact zfk _ _ _ _ _ _ _ _ _ _ _ _ _ hv) (fun hd => Gate.jS 3 ls ms ws v (by rw [Gate.zu] at hd; simpa using hd))
  by_cases h4 : kd = 4
  · subst h4
    exact zbB r 181 250 257 (Gate.fits 4 ls ms ws v) nm 4 ls ms a cap ws to rl mu fx df wg v w
      (fun o => qz Tryz.underlying206 Tryz.underlying3 (.int .i64 4) _ rfl qI 4 3 rfl (w.alloc o) r ((Below.heap_alloc w o r hlt).trans hr)) zfi (by intros; go_simp) (by intros; go_simp)
      (fun W => zka _ _ _ _ _ _ _ _ _ _ _ _ _ _) (fun hd W hb => by rw [Gate.zn8 ls ms ws v (by intro h; rw [Gate.zu] at hd; simp [h] at hd)]; exact zfD _ _ _ _ _ _ _ _ _ _ _ _ _ hv) (fun hd => Gate.jS 4 ls ms ws v (by rw [Gate.zu] at hd; simpa using hd))
  exact zhF r nm kd ls ms a cap ws to rl mu fx df wg v w hr h1 h2 h3 h4
end Go.Proofs.YtfpeplbmfbepcaaGreat

namespace Go.Proofs.YtfpeplbmfbepcaaGreat
open Go.RowKit
set_option maxHeartbeats 1600000 in
theorem zdw (nm : ByteArray) (kd ls ms : Int) (a : Option Addr) (cap : Nat) (ws : List ByteArray) (to : ByteArray) (rl : Int) (mu fx : Bool) (df wg : ByteArray) (v : ByteArray) (w : World) (hv : v.size <= maxLen) (hws : zA w a ws) :
    Calls Tryz.prog 130 #[.agg #[.string nm, .int .i64 kd, .int .i64 ls, .int .i64 ms, .slice a ws.length cap, .string to, .int .i64 rl, .bool mu, .bool fx, .string df, .string wg], .string v] w
      fun e w' => e = .returned (.bool (Gate.fits kd ls ms ws v)) /\ Below w.heap.size w w' := by
  have hAl := (Below.refl w.heap.size w).alloc (Nat.le_refl _)
  have HWS := hid hws
  clear hws
  by_cases h1 : kd = 1
  · subst h1
    rw [Gate.zpS]
    cases hd : Gate.jZ v with
    | true =>
      have HE : Hid (qA v = Gate.zfj v) := by unfold qA Hid; rw [hd]; rfl
      have HF : Hid (Gate.zae ls ms v = (decide (ls <= qA v) && decide (qA v <= ms))) := by rw [HE.out]; exact Gate.zmz _ _ _ hd
      have h0 : 0 <= qA v := by rw [HE.out]; exact Gate.zcq v hd
      go_enter Tryz.func130, Tryz.ntmps130
      go_wp2_with (first
        | (go_at_call 174; refine (zdA _ _ hv).mono ?_; rintro e w' ⟨rfl, rfl⟩)
        | (go_at_call 59; refine (jJ _ _ _ _).mono ?_; rintro e w' ⟨rfl, rfl⟩))
      go_ret
      exact ⟨ze HF.out.symm, hAl _⟩
    | false =>
      have HF : Hid (Gate.zae ls ms v = false) := Gate.zi8 _ _ _ hd
      have h0 : qA v < 0 := by unfold qA; rw [hd]; simp
      go_enter Tryz.func130, Tryz.ntmps130
      go_wp2_with (go_at_call 174; refine (zdA _ _ hv).mono ?_; rintro e w' ⟨rfl, rfl⟩)
      go_ret
      exact ⟨ze HF.out.symm, hAl _⟩
  by_cases h2 : kd = 2
  · subst h2
    by_cases hz : v.size = 0
    · rw [Gate.jS _ _ _ _ _ hz]
      have hne : v.toList.isEmpty = true := by rw [Gate.zu]; simp [hz]
      clear hz
      go_enter Tryz.func130, Tryz.ntmps130
      go_wp2_with fail
      go_ret
      exact ⟨rfl, hAl _⟩
    · rw [Gate.znM _ _ _ _ hz]
      have hne : v.toList.isEmpty = false := by rw [Gate.zu]; simp [hz]
      go_enter Tryz.func130, Tryz.ntmps130
      go_wp2_with (go_at_call 172; refine (zb2 _ _ _ _ _ (by exact HWS.out.mono (hAl _))).mono ?_; rintro e w' ⟨rfl, rfl⟩)
      go_ret
      exact ⟨rfl, hAl _⟩
  by_cases h3 : kd = 3
  · subst h3
    unfold maxLen at hv
    go_enter Tryz.func130, Tryz.ntmps130
    go_wp2_with fail
    go_loop [6] (fun i => ∃ k : Nat, k <= v.size /\ i = .int .i64 k /\ (v.data.toList.take k).all Gate.yL = true) (fun i => v.size - (intOf i).toNat)
    case atStart => exact ⟨0, Nat.zero_le _, rfl, rfl⟩
    case round =>
      obtain ⟨k, hk, rfl, hall⟩ := hrel
      by_cases hlt : k < v.size
      · have HS : Hid ((v.data.toList.take (k + 1)).all Gate.yL = (true && Gate.yL v[k])) := by rw [Gate.zbP _ v k hlt, hall]; rfl
        have HN : Hid (Gate.yL v[k] = false -> Gate.fits 3 ls ms ws v = false) := fun h => Gate.zjB ls ms ws v (Gate.zdu Gate.yL v k hlt h)
        clear hall
        by_cases h33 : 33 <= (v[k].toNat : Int) /\ (v[k].toNat : Int) <= 126
        · have HC : Hid (Gate.yL v[k] = true) := by simp [Gate.yL, Hid]; omega
          obtain ⟨ha, hb⟩ := h33
          go_wp2_with (go_at_call 59; refine (zci _ _ _ _ (by omega) (by omega)).mono ?_; rintro e w' ⟨rfl, rfl⟩)
          go_round
          case rel => exact ⟨k + 1, by omega, by go_num, by rw [HS.out, HC.out]; rfl⟩
          case measure => simp [intOf]; omega
        · have HC : Hid (Gate.yL v[k] = false) := by simp [Gate.yL, Hid]; omega
          have HD : Hid (¬ (33 <= (v[k].toNat : Int) /\ (v[k].toNat : Int) <= 126)) := h33
          clear h33
          have hby : (v[k].toNat : Int) < 256 := by have := v[k].toNat_lt; omega
          go_wp2_with (go_at_call 59; refine (zet _ _ _ _ (by have := HD.out; omega)).mono ?_; rintro e w' ⟨rfl, rfl⟩)
          go_ret
          exact ⟨ze (HN.out HC.out).symm, hAl _⟩
      · have HA : Hid (Gate.zbf v = true) := by unfold Gate.zbf Hid; rw [<- Gate.zba v k (by omega)]; exact hall
        clear hall
        by_cases hz : v.size = 0
        · have HF : Hid (Gate.fits 3 ls ms ws v = false) := Gate.jS _ _ _ _ _ hz
          have hne : v.toList.isEmpty = true := by rw [Gate.zu]; simp [hz]
          clear hz
          go_wp2_with fail
          go_ret
          exact ⟨ze HF.out.symm, hAl _⟩
        · have HF : Hid (Gate.fits 3 ls ms ws v = (decide (ls <= v.size) && decide ((v.size : Int) <= ms))) := Gate.zjX ls ms ws v HA.out hz
          have hne : v.toList.isEmpty = false := by rw [Gate.zu]; simp [hz]
          go_wp2_with (go_at_call 59; refine (jJ _ _ _ _).mono ?_; rintro e w' ⟨rfl, rfl⟩)
          go_ret
          exact ⟨ze HF.out.symm, hAl _⟩
  have e1 : (kd == 1) = false := by simpa using h1
  have e2 : (kd == 2) = false := by simpa using h2
  have e3 : (kd == 3) = false := by simpa using h3
  by_cases h4 : kd = 4
  · subst h4
    rw [Gate.zoE]
    go_enter Tryz.func130, Tryz.ntmps130
    go_wp2_with (go_at_call 97; refine (zS _ _ hv).mono ?_; rintro e w' ⟨rfl, rfl⟩)
    go_ret
    exact ⟨rfl, hAl _⟩
  rw [Gate.zio kd ls ms ws v h1 h2 h3 h4]
  have e4 : (kd == 4) = false := by simpa using h4
  clear h1 h2 h3 h4
  go_enter Tryz.func130, Tryz.ntmps130
  go_wp2_with fail
  go_ret
  exact ⟨rfl, hAl _⟩
end Go.Proofs.YtfpeplbmfbepcaaGreat

namespace Go.Proofs.YtfpeplbmfbepcaaGreat
open Go.RowKit
set_option maxHeartbeats 1000000 in
theorem zeH (b off cap : Nat) (ws : List ByteArray) (w : World) (hw : zA w (some ⟨b, off, none⟩) ws) (hl : ws.length <= 1048576) :
    Calls Tryz.prog 226 #[.slice (some ⟨b, off, none⟩) ws.length cap] w
      fun e w' => ∃ v, e = .returned v /\ w'.ownsRow w.heap.size 9 1 v ws.length (ws.map Value.string) /\ Below w.heap.size w w' := by
  obtain ⟨i0, hi, hz0, hz1, hz2⟩ := info_parts Tryz.zdm
  have hnews : ∀ j u, (ws.map Value.string)[j]? = some u -> w.cell? ((⟨b, off, none⟩ : Addr).add j) = some u := by
    intro j u hj
    have hlt : j < ws.length := by
      have := (List.getElem?_eq_some_iff.1 hj).1; simpa using this
    obtain ⟨b', off', he, hb, hc⟩ := hw.cells (by rintro rfl; simp at hlt)
    simp only [Option.some.injEq, Addr.mk.injEq] at he
    obtain ⟨rfl, rfl, _⟩ := he
    have h1 := hc j hlt
    have e1 : (⟨b, off, none⟩ : Addr).add j = ⟨b, off + j, none⟩ := by
      unfold Addr.add; split
      · rename_i h; subst h; simp
      · rfl
    rw [e1, h1]
    rw [List.getElem?_map, List.getElem?_eq_getElem hlt] at hj
    simpa using hj
  have hone : ∀ u ∈ ws.map Value.string, u.oneCell' = true := by
    intro u hu; simp only [List.mem_map] at hu; obtain ⟨s, _, rfl⟩ := hu; rfl
  go_enter Tryz.func226, Tryz.ntmps226
  go_wp2_with (at_builtin; refine wpList_append_own _ rfl _ _ 102 rfl w.heap.size 9 i0 (.string ByteArray.empty) 1 16 Tryz.underlying102 hi hz0 hz1 hz2 rfl (by decide) (.slice none 0 0) 0 [] rfl ⟨rfl, .inl ⟨rfl, rfl⟩⟩ ⟨b, off, none⟩ ws.length cap (ws.map Value.string) rfl (by simp) hnews hone (by unfold maxLen; omega) (by omega) (Nat.le_refl _) ?_; intro v' w1 hown hgr _)
  simp only [Nat.zero_add, List.nil_append] at hown
  go_ret
  exact ⟨v', rfl, hown, (Below.refl _ _).grown hgr (Nat.le_refl _) (by simp [Value.ownBlock])⟩
end Go.Proofs.YtfpeplbmfbepcaaGreat

namespace Go.Proofs.YtfpeplbmfbepcaaGreat
open Go.RowKit
def zq (lo : Nat) (w : World) (a : Option Addr) (ws : List ByteArray) : Prop :=
  (a = none /\ ws = []) \/ ∃ g C, a = some ⟨g, 0, none⟩ /\ lo <= g /\ w.heap[g]? = some (.cells C 9) /\ ∀ i (h : i < ws.length), C[i]? = some (.string ws[i])
theorem zq.zf8 {lo : Nat} {w : World} {v : Value} {ws : List ByteArray} (h : w.ownsRow lo 9 1 v ws.length (ws.map Value.string)) : ∃ a cap, v = .slice a ws.length cap /\ zq lo w a ws := by
  obtain ⟨_, ⟨rfl, h0⟩ | ⟨g, cap, cur, rfl, hg, hh, _, _, _, ht⟩⟩ := h
  · exact ⟨none, 0, by rw [h0], Or.inl ⟨rfl, List.length_eq_zero_iff.1 h0⟩⟩
  · refine ⟨some ⟨g, 0, none⟩, cap, rfl, Or.inr ⟨g, cur, rfl, hg, hh, fun i hi => ?_⟩⟩
    have h1 : (cur.toList.take (ws.length * 1))[i]? = (ws.map Value.string)[i]? := by rw [ht]
    rw [List.getElem?_take_of_lt (by omega), List.getElem?_map, List.getElem?_eq_getElem hi] at h1
    simpa using h1
theorem zq.mono {lo : Nat} {w w' : World} {a : Option Addr} {ws : List ByteArray} (h : zq lo w a ws) (hb : Below w.heap.size w w') : zq lo w' a ws := by
  rcases h with ⟨rfl, rfl⟩ | ⟨g, C, rfl, hg, hh, hc⟩
  · exact Or.inl ⟨rfl, rfl⟩
  · exact Or.inr ⟨g, C, rfl, hg, (hb.block g (Array.getElem?_eq_some_iff.1 hh).1).trans hh, hc⟩
theorem zq.at {lo : Nat} {w : World} {a : Option Addr} {ws : List ByteArray} (h : zq lo w a ws) (hl : ws.length <= maxLen) (hs : ∀ s ∈ ws, s.size <= maxLen) : zA w a ws := by
  refine ⟨hl, hs, fun hne => ?_⟩
  rcases h with ⟨_, rfl⟩ | ⟨g, C, rfl, _, hh, hc⟩
  · exact absurd rfl hne
  · refine ⟨g, 0, rfl, (Array.getElem?_eq_some_iff.1 hh).1, fun i hi => ?_⟩
    simp only [World.cell?, hh, Nat.zero_add]
    simpa using hc i hi
end Go.Proofs.YtfpeplbmfbepcaaGreat

namespace Go.Proofs.YtfpeplbmfbepcaaGreat
open Go.RowKit
theorem zq.setCell {lo : Nat} {w : World} {a : Option Addr} {ws : List ByteArray} (h : zq lo w a ws) (p : Addr) (hp : p.block < lo) (v : Value) : zq lo (w.setCell p v) a ws := by
  rcases h with ⟨rfl, rfl⟩ | ⟨g, C, rfl, hg, hh, hc⟩
  · exact Or.inl ⟨rfl, rfl⟩
  · exact Or.inr ⟨g, C, rfl, hg, (Below.heap_setCell _ _ _ _ (by omega)).trans hh, hc⟩
theorem zq.low {lo lo' : Nat} {w : World} {a : Option Addr} {ws : List ByteArray} (h : zq lo w a ws) (hl : lo' <= lo) : zq lo' w a ws := by
  rcases h with ⟨rfl, rfl⟩ | ⟨g, C, rfl, hg, hh, hc⟩
  · exact Or.inl ⟨rfl, rfl⟩
  · exact Or.inr ⟨g, C, rfl, by omega, hh, hc⟩
end Go.Proofs.YtfpeplbmfbepcaaGreat

namespace Go.Proofs.YtfpeplbmfbepcaaGreat
open Go.ChangeShapes Go.WideShapes Go.ChangeAt Go.RowKit
theorem Tryz.zgT : Tryz.prog.cellsOf 104 = 7 := by kernel_rfl
theorem zmV {H : Type} {enc : TypeId × Value -> H} {w : World} {base : Nat} {spare : Nat -> Bool} {held : Bool} {fuel : Nat} {cs : List Value} {x : DataW H × List MemPlace}
    (h : DataW.trod enc Tryz.prog w base spare held fuel 104 cs = some x) :
    ∃ (o : Ob) (a a' : Option Addr) (cap cap' : Nat), cs = [.string o.kd, .string o.nm, .string o.tm, .slice a o.vs.length cap, .bool o.en, .slice a' o.hs.length cap', .int .i64 o.vr] /\ qR w o a a' := by
  have hlen : cs.length = 7 := by
    obtain ⟨_, _, _, _, hl, _, _⟩ := DataW.trod_struct Tryz.underlying104 h
    rw [hl]; exact Tryz.zgT
  match cs, hlen with
  | [c0, c1, c2, c3, c4, c5, c6], _ =>
    have hf := jL Tryz.underlying104 h
    obtain ⟨_, _, f0⟩ := hf 0 9 0 c0 rfl Tryz.zM rfl
    obtain ⟨_, _, f1⟩ := hf 1 9 1 c1 rfl Tryz.zM rfl
    obtain ⟨_, _, f2⟩ := hf 2 9 2 c2 rfl Tryz.zM rfl
    obtain ⟨_, _, f3⟩ := hf 3 102 3 c3 rfl Tryz.zdb rfl
    obtain ⟨_, _, f4⟩ := hf 4 4 4 c4 rfl Tryz.zf6 rfl
    obtain ⟨_, _, f5⟩ := hf 5 102 5 c5 rfl Tryz.zdb rfl
    obtain ⟨_, _, f6⟩ := hf 6 3 6 c6 rfl Tryz.jm rfl
    obtain ⟨kd, e0, _, s0⟩ := DataW.trod_string Tryz.underlying9 f0
    obtain ⟨nm, e1, _, s1⟩ := DataW.trod_string Tryz.underlying9 f1
    obtain ⟨tm, e2, _, s2⟩ := DataW.trod_string Tryz.underlying9 f2
    obtain ⟨a, cap, vs, e3, hV⟩ := zgz Tryz.underlying102 Tryz.underlying9 Tryz.zM f3
    obtain ⟨en, e4, _⟩ := DataW.trod_bool Tryz.underlying4 f4
    obtain ⟨a', cap', hs, e5, hH⟩ := zgz Tryz.underlying102 Tryz.underlying9 Tryz.zM f5
    obtain ⟨vr, e6, _, _⟩ := DataW.trod_int Tryz.underlying3 f6
    simp only [List.cons.injEq, and_true] at e0 e1 e2 e3 e4 e5 e6
    subst e0 e1 e2 e3 e4 e5 e6
    exact ⟨⟨kd, nm, tm, vs, en, hs, vr⟩, a, a', cap, cap', rfl, ⟨⟨s0, s1, s2⟩, hV, hH⟩⟩
end Go.Proofs.YtfpeplbmfbepcaaGreat

namespace Go.Proofs.YtfpeplbmfbepcaaGreat
open Go.ChangeShapes Go.WideShapes Go.ChangeAt Go.RowKit
theorem Tryz.zoL : Tryz.prog.cellsOf 35 = 1 := by kernel_rfl
theorem Tryz.zks : Tryz.prog.cellsOf 107 = 4 := by kernel_rfl
section
variable {H : Type} {enc : TypeId × Value -> H} {w : World} {base : Nat} {spare : Nat -> Bool} {held : Bool}
theorem zoF {fuel : Nat} {cs : List Value} {x : DataW H × List MemPlace} (h : DataW.trod enc Tryz.prog w base spare held fuel 35 cs = some x) :
    ∃ a cap vs, cs = [.slice a (List.length vs) cap] /\ yM w a vs := by
  obtain ⟨a, len, cap, rfl, hm, hr⟩ := zax Tryz.underlying35 Tryz.jm (by omega) h
  rcases Nat.eq_zero_or_pos len with h0 | hp
  · subst h0
    exact ⟨a, cap, [], rfl, ⟨by simp [maxLen], fun h => absurd rfl h⟩⟩
  · obtain ⟨b, off, rfl, hb, hrow⟩ := hr hp
    have hf : ∀ i, i < len -> ∃ v : Int, w.cell? ⟨b, off + i, none⟩ = some (.int .i64 v) := by
      intro i hi
      obtain ⟨es, n, y, hel, hcell, hy⟩ := hrow i hi
      obtain ⟨v, e0, _, _⟩ := DataW.trod_int Tryz.underlying3 hy
      subst e0
      exact ⟨v, by simpa using hcell 0 (by omega)⟩
    obtain ⟨vs, hl, hvs⟩ := zbG len hf
    exact ⟨_, cap, vs, by rw [hl], ⟨by omega, fun _ => ⟨b, off, rfl, hb, hvs⟩⟩⟩
theorem zoI {fuel : Nat} {cs : List Value} {x : DataW H × List MemPlace} (h : DataW.trod enc Tryz.prog w base spare held fuel 107 cs = some x) :
    ∃ (r : Rl) (a : Option Addr) (cap : Nat), cs = (r.cells a cap).toList /\ r.Small /\ yM w a r.vs := by
  have hlen : cs.length = 4 := by
    obtain ⟨_, _, _, _, hl, _, _⟩ := DataW.trod_struct Tryz.underlying107 h
    rw [hl]; exact Tryz.zks
  match cs, hlen with
  | [c0, c1, c2, c3], _ =>
    have hf := jL Tryz.underlying107 h
    obtain ⟨_, _, f0⟩ := hf 0 35 0 c0 rfl Tryz.zoL rfl
    obtain ⟨_, _, f1⟩ := hf 1 9 1 c1 rfl Tryz.zM rfl
    obtain ⟨_, _, f2⟩ := hf 2 9 2 c2 rfl Tryz.zM rfl
    obtain ⟨_, _, f3⟩ := hf 3 9 3 c3 rfl Tryz.zM rfl
    obtain ⟨a, cap, vs, e0, hI⟩ := zoF f0
    obtain ⟨x1, e1, _, s1⟩ := DataW.trod_string Tryz.underlying9 f1
    obtain ⟨x2, e2, _, s2⟩ := DataW.trod_string Tryz.underlying9 f2
    obtain ⟨x3, e3, _, s3⟩ := DataW.trod_string Tryz.underlying9 f3
    simp only [List.cons.injEq, and_true] at e0 e1 e2 e3
    subst e0 e1 e2 e3
    exact ⟨⟨vs, x1, x2, x3⟩, a, cap, rfl, ⟨s1, s2, s3⟩, hI⟩
end
end Go.Proofs.YtfpeplbmfbepcaaGreat
