import Derived.Test.YtkfigdbbncjojaaGreatM08
import Derived.Test.YtkfigdbbncjojaaGreatM16
import Derived.Test.YtkfigdbbncjojaaGreatM01
import Derived.Test.YtkfigdbbncjojaaGreatM05
import Derived.Test.YtkfigdbbncjojaaGreatM09
import Derived.Test.YtkfigdbbncjojaaGreatM11
import Derived.Test.YtkfigdbbncjojaaGreatM13
import Derived.Test.YtkfigdbbncjojaaGreatM14
namespace Go.Proofs.YtkfigdbbncjojaaGreat
open Go.RowKit
set_option maxHeartbeats 1000000 in
theorem zh0 (nm : ByteArray) (ls ms : Int) (a : Option Addr) (cap : Nat) (ws : List ByteArray) (to : ByteArray) (rl : Int) (mu fx : Bool) (df wg : ByteArray) (a0 : Option Addr) (cap0 : Nat) (ss : List Shp) (w : World) (hw : yB w a0 ss) :
    Calls Tryz.prog 232 #[.agg #[.string nm, .int .i64 4, .int .i64 ls, .int .i64 ms, .slice a ws.length cap, .string to, .int .i64 rl, .bool mu, .bool fx, .string df, .string wg], .slice a0 ss.length cap0] w fun e w' => e = .returned (.bool (Gate.yP ss ⟨nm, 4, ls, ms, ws, to, rl, mu, fx, df, wg⟩)) /\ Below w.heap.size w w' := by
  have HF : Hid (Gate.yP ss ⟨nm, 4, ls, ms, ws, to, rl, mu, fx, df, wg⟩ = (Gate.zC ss to && (decide (1 <= rl) && decide (rl <= 3)) && df.toList.isEmpty && (decide (rl ≠ 2) || !mu))) := by simp [Gate.yP, Hid]
  by_cases hk : Gate.zC ss to = true
  rotate_left
  · have hk' : Gate.zC ss to = false := by simpa using hk
    have HK : Hid (Gate.zC ss to = false) := hk'
    clear hk hk'
    go_enter Tryz.func232, Tryz.ntmps232
    go_wp2_with fail
    refine (qj _ _ _ _ _ (hw.mono ((Below.refl _ _).alloc (Nat.le_refl _) _))).mono ?_
    rintro e w1 ⟨fa, fcap, rfl, _, hb1⟩
    rw [HK.out]
    have hX1 := za (zH w _ _) (by simp) hb1
    have hz1 : w.heap.size < w1.heap.size := by have := hb1.size; simp at this; omega
    have hB1 : Below w.heap.size w w1 := ((Below.refl _ _).alloc (Nat.le_refl _) _).trans (hb1.mono (by simp))
    clear hb1 hw
    go_wp2_with fail
    go_ret
    exact ⟨ze (by rw [HF.out, HK.out]; rfl), hB1.alloc (by omega) _⟩
  have HK : Hid (Gate.zC ss to = true) := hk
  clear hk
  by_cases hd : df.toList.isEmpty = true
  rotate_left
  · have hd' : df.toList.isEmpty = false := by simpa using hd
    clear hd
    go_enter Tryz.func232, Tryz.ntmps232
    go_wp2_with fail
    refine (qj _ _ _ _ _ (hw.mono ((Below.refl _ _).alloc (Nat.le_refl _) _))).mono ?_
    rintro e w1 ⟨fa, fcap, rfl, _, hb1⟩
    rw [HK.out]
    have hX1 := za (zH w _ _) (by simp) hb1
    have hz1 : w.heap.size < w1.heap.size := by have := hb1.size; simp at this; omega
    have hB1 : Below w.heap.size w w1 := ((Below.refl _ _).alloc (Nat.le_refl _) _).trans (hb1.mono (by simp))
    clear hb1 hw
    go_wp2_with fail
    go_ret
    exact ⟨ze (by rw [HF.out, HK.out, hd']; simp), hB1.alloc (by omega) _⟩
  by_cases h1 : rl = 1
  · subst h1
    go_enter Tryz.func232, Tryz.ntmps232
    go_wp2_with fail
    refine (qj _ _ _ _ _ (hw.mono ((Below.refl _ _).alloc (Nat.le_refl _) _))).mono ?_
    rintro e w1 ⟨fa, fcap, rfl, _, hb1⟩
    rw [HK.out]
    have hX1 := za (zH w _ _) (by simp) hb1
    have hz1 : w.heap.size < w1.heap.size := by have := hb1.size; simp at this; omega
    have hB1 : Below w.heap.size w w1 := ((Below.refl _ _).alloc (Nat.le_refl _) _).trans (hb1.mono (by simp))
    clear hb1 hw
    go_wp2_with fail
    go_ret
    exact ⟨ze (by rw [HF.out, HK.out, hd]; rfl), hB1.alloc (by omega) _⟩
  by_cases h3 : rl = 3
  · subst h3
    go_enter Tryz.func232, Tryz.ntmps232
    go_wp2_with fail
    refine (qj _ _ _ _ _ (hw.mono ((Below.refl _ _).alloc (Nat.le_refl _) _))).mono ?_
    rintro e w1 ⟨fa, fcap, rfl, _, hb1⟩
    rw [HK.out]
    have hX1 := za (zH w _ _) (by simp) hb1
    have hz1 : w.heap.size < w1.heap.size := by have := hb1.size; simp at this; omega
    have hB1 : Below w.heap.size w w1 := ((Below.refl _ _).alloc (Nat.le_refl _) _).trans (hb1.mono (by simp))
    clear hb1 hw
    go_wp2_with fail
    go_ret
    exact ⟨ze (by rw [HF.out, HK.out, hd]; rfl), hB1.alloc (by omega) _⟩
  by_cases h2 : rl = 2
  · subst h2
    clear h1 h3
    go_enter Tryz.func232, Tryz.ntmps232
    go_wp2_with fail
    refine (qj _ _ _ _ _ (hw.mono ((Below.refl _ _).alloc (Nat.le_refl _) _))).mono ?_
    rintro e w1 ⟨fa, fcap, rfl, _, hb1⟩
    rw [HK.out]
    have hX1 := za (zH w _ _) (by simp) hb1
    have hz1 : w.heap.size < w1.heap.size := by have := hb1.size; simp at this; omega
    have hB1 : Below w.heap.size w w1 := ((Below.refl _ _).alloc (Nat.le_refl _) _).trans (hb1.mono (by simp))
    clear hb1 hw
    go_wp2_with fail
    go_ret
    exact ⟨ze (by rw [HF.out, HK.out, hd]; rfl), hB1.alloc (by omega) _⟩
  · have HR : Hid ((decide (1 <= rl) && decide (rl <= 3)) = false) := by unfold Hid; rw [Bool.eq_false_iff]; simp; omega
    have e1 : (rl == 1) = false := by simpa using h1
    have e2 : (rl == 2) = false := by simpa using h2
    have e3 : (rl == 3) = false := by simpa using h3
    clear h1 h2 h3
    go_enter Tryz.func232, Tryz.ntmps232
    go_wp2_with fail
    refine (qj _ _ _ _ _ (hw.mono ((Below.refl _ _).alloc (Nat.le_refl _) _))).mono ?_
    rintro e w1 ⟨fa, fcap, rfl, _, hb1⟩
    rw [HK.out]
    have hX1 := za (zH w _ _) (by simp) hb1
    have hz1 : w.heap.size < w1.heap.size := by have := hb1.size; simp at this; omega
    have hB1 : Below w.heap.size w w1 := ((Below.refl _ _).alloc (Nat.le_refl _) _).trans (hb1.mono (by simp))
    clear hb1 hw
    go_wp2_with fail
    go_ret
    exact ⟨ze (by rw [HF.out, HK.out, HR.out]; simp), hB1.alloc (by omega) _⟩
end Go.Proofs.YtkfigdbbncjojaaGreat

namespace Go.Proofs.YtkfigdbbncjojaaGreat
open Go.RowKit
def qB : Array MapEntry := #[⟨.int .i64 1, .func (.func 147) #[] #[], 0⟩, ⟨.int .i64 2, .func (.func 148) #[] #[], 1⟩, ⟨.int .i64 3, .func (.func 149) #[] #[], 2⟩, ⟨.int .i64 4, .func (.func 150) #[] #[], 3⟩]
set_option maxHeartbeats 400000 in
theorem zbB (w : World) :
    Calls Tryz.prog 104 #[] w fun e w' => e = .returned (.map (some w.heap.size)) /\ w' = w.alloc (.map qB 4) := by
  have hmm := @run_makeMap Tryz.prog
  have i1 := zah (P := Tryz.prog) Tryz.underlying163 Tryz.underlying3 (.int .i64 1) (.func (.func 147) #[] #[]) rfl #[] 0 rfl
  have i2 := zah (P := Tryz.prog) Tryz.underlying163 Tryz.underlying3 (.int .i64 2) (.func (.func 148) #[] #[]) rfl #[⟨.int .i64 1, .func (.func 147) #[] #[], 0⟩] 1 rfl
  have i3 := zah (P := Tryz.prog) Tryz.underlying163 Tryz.underlying3 (.int .i64 3) (.func (.func 149) #[] #[]) rfl #[⟨.int .i64 1, .func (.func 147) #[] #[], 0⟩, ⟨.int .i64 2, .func (.func 148) #[] #[], 1⟩] 2 rfl
  have i4 := zah (P := Tryz.prog) Tryz.underlying163 Tryz.underlying3 (.int .i64 4) (.func (.func 150) #[] #[]) rfl #[⟨.int .i64 1, .func (.func 147) #[] #[], 0⟩, ⟨.int .i64 2, .func (.func 148) #[] #[], 1⟩, ⟨.int .i64 3, .func (.func 149) #[] #[], 2⟩] 3 rfl
  simp only [List.push_toArray, List.cons_append, List.nil_append, Nat.zero_add, Nat.reduceAdd] at i1 i2 i3 i4
  go_enter Tryz.func104, Tryz.ntmps104
  go_wp2
  go_ret
  exact ⟨rfl, rfl⟩
set_option maxHeartbeats 400000 in
theorem ziN (nm : ByteArray) (kd ls ms : Int) (a : Option Addr) (n cap : Nat) (to : ByteArray) (rl : Int) (mu fx : Bool) (df wg : ByteArray) (w : World) :
    Calls Tryz.prog 147 #[.agg #[.string nm, .int .i64 kd, .int .i64 ls, .int .i64 ms, .slice a n cap, .string to, .int .i64 rl, .bool mu, .bool fx, .string df, .string wg]] w
      fun e w' => e = .returned (.iface 210 (.agg #[.string nm, .int .i64 kd, .int .i64 ls, .int .i64 ms, .slice a n cap, .string to, .int .i64 rl, .bool mu, .bool fx, .string df, .string wg])) /\ Below w.heap.size w w' := by
  go_enter Tryz.func147, Tryz.ntmps147
  go_wp2
  go_ret
  exact ⟨rfl, (Below.refl _ _).alloc (Nat.le_refl _) _⟩
set_option maxHeartbeats 400000 in
theorem ziJ (nm : ByteArray) (kd ls ms : Int) (a : Option Addr) (n cap : Nat) (to : ByteArray) (rl : Int) (mu fx : Bool) (df wg : ByteArray) (w : World) :
    Calls Tryz.prog 148 #[.agg #[.string nm, .int .i64 kd, .int .i64 ls, .int .i64 ms, .slice a n cap, .string to, .int .i64 rl, .bool mu, .bool fx, .string df, .string wg]] w
      fun e w' => e = .returned (.iface 212 (.agg #[.string nm, .int .i64 kd, .int .i64 ls, .int .i64 ms, .slice a n cap, .string to, .int .i64 rl, .bool mu, .bool fx, .string df, .string wg])) /\ Below w.heap.size w w' := by
  go_enter Tryz.func148, Tryz.ntmps148
  go_wp2
  go_ret
  exact ⟨rfl, (Below.refl _ _).alloc (Nat.le_refl _) _⟩
set_option maxHeartbeats 400000 in
theorem ziX (nm : ByteArray) (kd ls ms : Int) (a : Option Addr) (n cap : Nat) (to : ByteArray) (rl : Int) (mu fx : Bool) (df wg : ByteArray) (w : World) :
    Calls Tryz.prog 149 #[.agg #[.string nm, .int .i64 kd, .int .i64 ls, .int .i64 ms, .slice a n cap, .string to, .int .i64 rl, .bool mu, .bool fx, .string df, .string wg]] w
      fun e w' => e = .returned (.iface 213 (.agg #[.string nm, .int .i64 kd, .int .i64 ls, .int .i64 ms, .slice a n cap, .string to, .int .i64 rl, .bool mu, .bool fx, .string df, .string wg])) /\ Below w.heap.size w w' := by
  go_enter Tryz.func149, Tryz.ntmps149
  go_wp2
  go_ret
  exact ⟨rfl, (Below.refl _ _).alloc (Nat.le_refl _) _⟩
set_option maxHeartbeats 400000 in
theorem ziI (nm : ByteArray) (kd ls ms : Int) (a : Option Addr) (n cap : Nat) (to : ByteArray) (rl : Int) (mu fx : Bool) (df wg : ByteArray) (w : World) :
    Calls Tryz.prog 150 #[.agg #[.string nm, .int .i64 kd, .int .i64 ls, .int .i64 ms, .slice a n cap, .string to, .int .i64 rl, .bool mu, .bool fx, .string df, .string wg]] w
      fun e w' => e = .returned (.iface 214 (.agg #[.string nm, .int .i64 kd, .int .i64 ls, .int .i64 ms, .slice a n cap, .string to, .int .i64 rl, .bool mu, .bool fx, .string df, .string wg])) /\ Below w.heap.size w w' := by
  go_enter Tryz.func150, Tryz.ntmps150
  go_wp2
  go_ret
  exact ⟨rfl, (Below.refl _ _).alloc (Nat.le_refl _) _⟩
theorem zey (x : Value) (w : World) : (method 391 210 x "loop.example/wharfgate/impl.fits").run Tryz.prog w = .ok (220, x) w := by kernel_rfl
theorem zeh (x : Value) (w : World) : (method 391 212 x "loop.example/wharfgate/impl.fits").run Tryz.prog w = .ok (223, x) w := by kernel_rfl
theorem zel (x : Value) (w : World) : (method 391 213 x "loop.example/wharfgate/impl.fits").run Tryz.prog w = .ok (228, x) w := by kernel_rfl
theorem zes (x : Value) (w : World) : (method 391 214 x "loop.example/wharfgate/impl.fits").run Tryz.prog w = .ok (231, x) w := by kernel_rfl
set_option maxRecDepth 20000 in
set_option maxHeartbeats 400000 in
theorem zaY (r fk T fF : Nat) (Ft : Bool) (nm : ByteArray) (kd ls ms : Int) (a : Option Addr) (cap : Nat) (ws : List ByteArray) (to : ByteArray) (rl : Int) (mu fx : Bool) (df wg : ByteArray) (v : ByteArray) (w : World)
    (hlk : ∀ o, (Instr.lookup 163 (.map (some r)) (.int .i64 kd) true).run Tryz.prog (w.alloc o) = .ok (.tuple #[.func (.func fk) #[] #[], .bool true]) (w.alloc o))
    (hm3 : ∀ x w, (method 391 T x "loop.example/wharfgate/impl.fits").run Tryz.prog w = .ok (fF, x) w)
    (hc0 : ∀ args w, (callFunc fk args).run Tryz.prog w = .ok (.enter fk args) w) (hc1 : ∀ args w, (callFunc fF args).run Tryz.prog w = .ok (.enter fF args) w)
    (HK : Hid (∀ W, Calls Tryz.prog fk #[.agg #[.string nm, .int .i64 kd, .int .i64 ls, .int .i64 ms, .slice a ws.length cap, .string to, .int .i64 rl, .bool mu, .bool fx, .string df, .string wg]] W fun e w' => e = .returned (.iface T (.agg #[.string nm, .int .i64 kd, .int .i64 ls, .int .i64 ms, .slice a ws.length cap, .string to, .int .i64 rl, .bool mu, .bool fx, .string df, .string wg])) /\ Below W.heap.size W w'))
    (HF : Hid (v.toList.isEmpty = false -> ∀ W, Below w.heap.size w W -> Calls Tryz.prog fF #[.agg #[.string nm, .int .i64 kd, .int .i64 ls, .int .i64 ms, .slice a ws.length cap, .string to, .int .i64 rl, .bool mu, .bool fx, .string df, .string wg], .string v] W fun e w' => e = .returned (.bool Ft) /\ Below W.heap.size W w')) (HE : Hid (v.toList.isEmpty = true -> Ft = false)) :
    Calls Tryz.prog 153 #[.map (some r), .agg #[.string nm, .int .i64 kd, .int .i64 ls, .int .i64 ms, .slice a ws.length cap, .string to, .int .i64 rl, .bool mu, .bool fx, .string df, .string wg], .string v] w fun e w' => e = .returned (.bool Ft) /\ Below w.heap.size w w' := by
  go_enter Tryz.func153, Tryz.ntmps153
  rcases hd : v.toList.isEmpty with _ | _
  · go_wp2_with fail
    refine (HK.out _).mono ?_
    rintro e w1 ⟨rfl, hb1⟩
    have H1 := hid (((Below.refl _ _).alloc (Nat.le_refl _) _).trans (hb1.mono (by simp)))
    clear hb1 hlk
    go_wp2_with fail
    refine (HF.out hd _ H1.out).mono ?_
    rintro e w2 ⟨rfl, hb2⟩
    have H2 := hid (H1.out.trans (hb2.mono H1.out.size))
    clear hb2
    go_wp2_with fail
    go_ret
    exact ⟨rfl, H2.out⟩
  · go_wp2_with fail
    go_ret
    exact ⟨ze (HE.out hd).symm, (Below.refl _ _).alloc (Nat.le_refl _) _⟩
theorem ziM (w : World) : (zeroValue 211).run Tryz.prog w = .ok .nilFunc w := by kernel_rfl
theorem ziA (kd : Int) (h1 : kd ≠ 1) (h2 : kd ≠ 2) (h3 : kd ≠ 3) (h4 : kd ≠ 4) : Instr.findNow (.int .i64) (.int .i64 kd) qB.toList 0 = some none := by
  have e1 : (kd == 1) = false := by simpa using h1
  have e2 : (kd == 2) = false := by simpa using h2
  have e3 : (kd == 3) = false := by simpa using h3
  have e4 : (kd == 4) = false := by simpa using h4
  simp [Instr.findNow, Instr.sameNow, qB, e1, e2, e3, e4]
set_option maxHeartbeats 400000 in
theorem zfU (r : Nat) (nm : ByteArray) (kd ls ms : Int) (a : Option Addr) (cap : Nat) (ws : List ByteArray) (to : ByteArray) (rl : Int) (mu fx : Bool) (df wg : ByteArray) (v : ByteArray) (w : World) (hr : w.heap[r]? = some (.map qB 4)) (h1 : kd ≠ 1) (h2 : kd ≠ 2) (h3 : kd ≠ 3) (h4 : kd ≠ 4) :
    Calls Tryz.prog 153 #[.map (some r), .agg #[.string nm, .int .i64 kd, .int .i64 ls, .int .i64 ms, .slice a ws.length cap, .string to, .int .i64 rl, .bool mu, .bool fx, .string df, .string wg], .string v] w
      fun e w' => e = .returned (.bool (Gate.fits kd ls ms ws v)) /\ Below w.heap.size w w' := by
  rw [Gate.zgK kd ls ms ws v h1 h2 h3 h4]
  have hlt : r < w.heap.size := (Array.getElem?_eq_some_iff.1 hr).1
  have hlk : ∀ o, (Instr.lookup 163 (.map (some r)) (.int .i64 kd) true).run Tryz.prog (w.alloc o) = .ok (.tuple #[.nilFunc, .bool false]) (w.alloc o) :=
    fun o => zba Tryz.underlying163 Tryz.underlying3 (.int .i64 kd) _ rfl qB 4 (ziA kd h1 h2 h3 h4) (w.alloc o) (ziM _) r ((Below.heap_alloc w o r hlt).trans hr)
  clear hr h1 h2 h3 h4
  go_enter Tryz.func153, Tryz.ntmps153
  go_wp2_with fail
  go_ret
  exact ⟨rfl, (Below.refl _ _).alloc (Nat.le_refl _) _⟩
theorem zdQ (r : Nat) (nm : ByteArray) (kd ls ms : Int) (a : Option Addr) (cap : Nat) (ws : List ByteArray) (to : ByteArray) (rl : Int) (mu fx : Bool) (df wg : ByteArray) (v : ByteArray) (w : World) (hr : w.heap[r]? = some (.map qB 4)) (hv : v.size <= maxLen) (hws : zB w a ws) :
    Calls Tryz.prog 153 #[.map (some r), .agg #[.string nm, .int .i64 kd, .int .i64 ls, .int .i64 ms, .slice a ws.length cap, .string to, .int .i64 rl, .bool mu, .bool fx, .string df, .string wg], .string v] w
      fun e w' => e = .returned (.bool (Gate.fits kd ls ms ws v)) /\ Below w.heap.size w w' := by
  have hlt := (Array.getElem?_eq_some_iff.1 hr).1
  by_cases h1 : kd = 1
  · subst h1
    exact zaY r 147 210 220 (Gate.fits 1 ls ms ws v) nm 1 ls ms a cap ws to rl mu fx df wg v w
      (fun o => y7 Tryz.underlying163 Tryz.underlying3 (.int .i64 1) _ rfl qB 4 0 rfl (w.alloc o) r ((Below.heap_alloc w o r hlt).trans hr)) zey (by intros; go_simp) (by intros; go_simp)
      (fun W => ziN _ _ _ _ _ _ _ _ _ _ _ _ _ _) (fun hd W hb => by rw [Gate.zlG ls ms ws v (by intro h; rw [Gate.zo] at hd; simp [h] at hd)]; exact zdq _ _ _ _ _ _ _ _ _ _ _ _ _ hv) (fun hd => Gate.jq 1 ls ms ws v (by rw [Gate.zo] at hd; simpa using hd))
  by_cases h2 : kd = 2
  · subst h2
    exact zaY r 148 212 223 (Gate.fits 2 ls ms ws v) nm 2 ls ms a cap ws to rl mu fx df wg v w
      (fun o => y7 Tryz.underlying163 Tryz.underlying3 (.int .i64 2) _ rfl qB 4 1 rfl (w.alloc o) r ((Below.heap_alloc w o r hlt).trans hr)) zeh (by intros; go_simp) (by intros; go_simp)
      (fun W => ziJ _ _ _ _ _ _ _ _ _ _ _ _ _ _) (fun hd W hb => by rw [Gate.zll ls ms ws v (by intro h; rw [Gate.zo] at hd; simp [h] at hd)]; exact zeu _ _ _ _ _ _ _ _ _ _ _ _ _ _ _ (hws.mono hb)) (fun hd => Gate.jq 2 ls ms ws v (by rw [Gate.zo] at hd; simpa using hd))
  by_cases h3 : kd = 3
  · subst h3
    exact zaY r 149 213 228 (Gate.fits 3 ls ms ws v) nm 3 ls ms a cap ws to rl mu fx df wg v w
      (fun o => y7 Tryz.underlying163 Tryz.underlying3 (.int .i64 3) _ rfl qB 4 2 rfl (w.alloc o) r ((Below.heap_alloc w o r hlt).trans hr)) zel (by intros; go_simp) (by intros; go_simp)
      (fun W => ziX _ _ _ _ _ _ _ _ _ _ _ _ _ _) (fun hd W hb => by rw [Gate.zi2 ls ms ws v (by intro h; rw [Gate.zo] at hd; simp [h] at hd)]; exact zeF _ _ _ _ _ _ _ _ _ _ _ _ _ hv) (fun hd => Gate.jq 3 ls ms ws v (by rw [Gate.zo] at hd; simpa using hd))
  by_cases h4 : kd = 4
  · subst h4
    exact zaY r 150 214 231 (Gate.fits 4 ls ms ws v) nm 4 ls ms a cap ws to rl mu fx df wg v w
      (fun o => y7 Tryz.underlying163 Tryz.underlying3 (.int .i64 4) _ rfl qB 4 3 rfl (w.alloc o) r ((Below.heap_alloc w o r hlt).trans hr)) zes (by intros; go_simp) (by intros; go_simp)
      (fun W => ziI _ _ _ _ _ _ _ _ _ _ _ _ _ _) (fun hd W hb => by rw [Gate.zlA ls ms ws v (by intro h; rw [Gate.zo] at hd; simp [h] at hd)]; exact zeH _ _ _ _ _ _ _ _ _ _ _ _ _ hv) (fun hd => Gate.jq 4 ls ms ws v (by rw [Gate.zo] at hd; simpa using hd))
  exact zfU r nm kd ls ms a cap ws to rl mu fx df wg v w hr h1 h2 h3 h4
end Go.Proofs.YtkfigdbbncjojaaGreat

namespace Go.Proofs.YtkfigdbbncjojaaGreat
open Go.RowKit
set_option maxHeartbeats 1600000 in
theorem zcN (nm : ByteArray) (kd ls ms : Int) (a : Option Addr) (cap : Nat) (ws : List ByteArray) (to : ByteArray) (rl : Int) (mu fx : Bool) (df wg : ByteArray) (v : ByteArray) (w : World) (hv : v.size <= maxLen) (hws : zB w a ws) :
    Calls Tryz.prog 92 #[.agg #[.string nm, .int .i64 kd, .int .i64 ls, .int .i64 ms, .slice a ws.length cap, .string to, .int .i64 rl, .bool mu, .bool fx, .string df, .string wg], .string v] w
      fun e w' => e = .returned (.bool (Gate.fits kd ls ms ws v)) /\ Below w.heap.size w w' := by
  have hAl := (Below.refl w.heap.size w).alloc (Nat.le_refl _)
  have HWS := hid hws
  clear hws
  by_cases h1 : kd = 1
  · subst h1
    rw [Gate.znp]
    cases hd : Gate.jD v with
    | true =>
      have HE : Hid (yZ v = Gate.zeA v) := by unfold yZ Hid; rw [hd]; rfl
      have HF : Hid (Gate.jM ls ms v = (decide (ls <= yZ v) && decide (yZ v <= ms))) := by rw [HE.out]; exact Gate.zkv _ _ _ hd
      have h0 : 0 <= yZ v := by rw [HE.out]; exact Gate.zbL v hd
      go_enter Tryz.func92, Tryz.ntmps92
      go_wp2_with (first
        | (go_at_call 141; refine (zct _ _ hv).mono ?_; rintro e w' ⟨rfl, rfl⟩)
        | (go_at_call 20; refine (jh _ _ _ _).mono ?_; rintro e w' ⟨rfl, rfl⟩))
      go_ret
      exact ⟨ze HF.out.symm, hAl _⟩
    | false =>
      have HF : Hid (Gate.jM ls ms v = false) := Gate.zgT _ _ _ hd
      have h0 : yZ v < 0 := by unfold yZ; rw [hd]; simp
      go_enter Tryz.func92, Tryz.ntmps92
      go_wp2_with (go_at_call 141; refine (zct _ _ hv).mono ?_; rintro e w' ⟨rfl, rfl⟩)
      go_ret
      exact ⟨ze HF.out.symm, hAl _⟩
  by_cases h2 : kd = 2
  · subst h2
    by_cases hz : v.size = 0
    · rw [Gate.jq _ _ _ _ _ hz]
      have hne : v.toList.isEmpty = true := by rw [Gate.zo]; simp [hz]
      clear hz
      go_enter Tryz.func92, Tryz.ntmps92
      go_wp2_with fail
      go_ret
      exact ⟨rfl, hAl _⟩
    · rw [Gate.zll _ _ _ _ hz]
      have hne : v.toList.isEmpty = false := by rw [Gate.zo]; simp [hz]
      go_enter Tryz.func92, Tryz.ntmps92
      go_wp2_with (go_at_call 139; refine (zbm _ _ _ _ _ (by exact HWS.out.mono (hAl _))).mono ?_; rintro e w' ⟨rfl, rfl⟩)
      go_ret
      exact ⟨rfl, hAl _⟩
  by_cases h3 : kd = 3
  · subst h3
    unfold maxLen at hv
    go_enter Tryz.func92, Tryz.ntmps92
    go_wp2_with fail
    go_loop [6] (fun i => ∃ k : Nat, k <= v.size /\ i = .int .i64 k /\ (v.data.toList.take k).all Gate.yF = true) (fun i => v.size - (intOf i).toNat)
    case atStart => exact ⟨0, Nat.zero_le _, rfl, rfl⟩
    case round =>
      obtain ⟨k, hk, rfl, hall⟩ := hrel
      by_cases hlt : k < v.size
      · have HS : Hid ((v.data.toList.take (k + 1)).all Gate.yF = (true && Gate.yF v[k])) := by rw [Gate.za3 _ v k hlt, hall]; rfl
        have HN : Hid (Gate.yF v[k] = false -> Gate.fits 3 ls ms ws v = false) := fun h => Gate.zis ls ms ws v (Gate.zcL Gate.yF v k hlt h)
        clear hall
        by_cases h33 : 33 <= (v[k].toNat : Int) /\ (v[k].toNat : Int) <= 126
        · have HC : Hid (Gate.yF v[k] = true) := by simp [Gate.yF, Hid]; omega
          obtain ⟨ha, hb⟩ := h33
          go_wp2_with (go_at_call 20; refine (zbA _ _ _ _ (by omega) (by omega)).mono ?_; rintro e w' ⟨rfl, rfl⟩)
          go_round
          case rel => exact ⟨k + 1, by omega, by go_num, by rw [HS.out, HC.out]; rfl⟩
          case measure => simp [intOf]; omega
        · have HC : Hid (Gate.yF v[k] = false) := by simp [Gate.yF, Hid]; omega
          have HD : Hid (¬ (33 <= (v[k].toNat : Int) /\ (v[k].toNat : Int) <= 126)) := h33
          clear h33
          have hby : (v[k].toNat : Int) < 256 := by have := v[k].toNat_lt; omega
          go_wp2_with (go_at_call 20; refine (zdA _ _ _ _ (by have := HD.out; omega)).mono ?_; rintro e w' ⟨rfl, rfl⟩)
          go_ret
          exact ⟨ze (HN.out HC.out).symm, hAl _⟩
      · have HA : Hid (Gate.zaE v = true) := by unfold Gate.zaE Hid; rw [<- Gate.zaG v k (by omega)]; exact hall
        clear hall
        by_cases hz : v.size = 0
        · have HF : Hid (Gate.fits 3 ls ms ws v = false) := Gate.jq _ _ _ _ _ hz
          have hne : v.toList.isEmpty = true := by rw [Gate.zo]; simp [hz]
          clear hz
          go_wp2_with fail
          go_ret
          exact ⟨ze HF.out.symm, hAl _⟩
        · have HF : Hid (Gate.fits 3 ls ms ws v = (decide (ls <= v.size) && decide ((v.size : Int) <= ms))) := Gate.zhP ls ms ws v HA.out hz
          have hne : v.toList.isEmpty = false := by rw [Gate.zo]; simp [hz]
          go_wp2_with (go_at_call 20; refine (jh _ _ _ _).mono ?_; rintro e w' ⟨rfl, rfl⟩)
          go_ret
          exact ⟨ze HF.out.symm, hAl _⟩
  have e1 : (kd == 1) = false := by simpa using h1
  have e2 : (kd == 2) = false := by simpa using h2
  have e3 : (kd == 3) = false := by simpa using h3
  by_cases h4 : kd = 4
  · subst h4
    rw [Gate.zmR]
    go_enter Tryz.func92, Tryz.ntmps92
    go_wp2_with (go_at_call 56; refine (zN _ _ hv).mono ?_; rintro e w' ⟨rfl, rfl⟩)
    go_ret
    exact ⟨rfl, hAl _⟩
  rw [Gate.zgK kd ls ms ws v h1 h2 h3 h4]
  have e4 : (kd == 4) = false := by simpa using h4
  clear h1 h2 h3 h4
  go_enter Tryz.func92, Tryz.ntmps92
  go_wp2_with fail
  go_ret
  exact ⟨rfl, hAl _⟩
end Go.Proofs.YtkfigdbbncjojaaGreat

namespace Go.Proofs.YtkfigdbbncjojaaGreat
open Go.RowKit
theorem zn.setCell {lo : Nat} {w : World} {a : Option Addr} {ws : List ByteArray} (h : zn lo w a ws) (p : Addr) (hp : p.block < lo) (v : Value) : zn lo (w.setCell p v) a ws := by
  rcases h with ⟨rfl, rfl⟩ | ⟨g, C, rfl, hg, hh, hc⟩
  · exact Or.inl ⟨rfl, rfl⟩
  · exact Or.inr ⟨g, C, rfl, hg, (Below.heap_setCell _ _ _ _ (by omega)).trans hh, hc⟩
theorem zn.low {lo lo' : Nat} {w : World} {a : Option Addr} {ws : List ByteArray} (h : zn lo w a ws) (hl : lo' <= lo) : zn lo' w a ws := by
  rcases h with ⟨rfl, rfl⟩ | ⟨g, C, rfl, hg, hh, hc⟩
  · exact Or.inl ⟨rfl, rfl⟩
  · exact Or.inr ⟨g, C, rfl, by omega, hh, hc⟩
end Go.Proofs.YtkfigdbbncjojaaGreat

namespace Go.Proofs.YtkfigdbbncjojaaGreat
open Go.RowKit
structure Lw where
  ss : List Shp
  ms : List Mnd
  ts : List Tm
abbrev lC (l : Lw) (a b c : Option Addr) (ca cb cc : Nat) : Array Value := #[.slice a l.ss.length ca, .slice b l.ms.length cb, .slice c l.ts.length cc]
def Lw.cells (l : Lw) (a b c : Option Addr) (ca cb cc : Nat) : Array Value := #[.slice a l.ss.length ca, .slice b l.ms.length cb, .slice c l.ts.length cc]
structure qO (w : World) (l : Lw) (a b c : Option Addr) : Prop where
  ss : yB w a l.ss
  ms : y5 w b l.ms
  ts : qP w c l.ts
theorem qO.mono {w w' : World} {l : Lw} {a b c : Option Addr} (h : qO w l a b c) (hb : Below w.heap.size w w') : qO w' l a b c := ⟨h.ss.mono hb, h.ms.mono hb, h.ts.mono hb⟩
def Lw.sz (l : Lw) : Nat := jS l.ss + zaj l.ms + zbQ l.ts
structure Lw.Few (l : Lw) : Prop where
  ss : l.ss.length <= 1048576 /\ ∀ i (h : i < l.ss.length), l.ss[i].fs.length <= 1048576 /\ ∀ j (h' : j < l.ss[i].fs.length), l.ss[i].fs[j].ws.length <= 1048576
  ms : l.ms.length <= 1048576
  ts : l.ts.length <= 1048576
theorem Lw.few {l : Lw} (h : (l.sz : Int) <= 1048576) : l.Few := by
  unfold Lw.sz at h
  refine ⟨znq (by omega), ?_, ?_⟩
  · unfold zaj at h; omega
  · unfold zbQ at h; omega
set_option maxHeartbeats 2000000 in
theorem zik (l : Lw) (a b c : Option Addr) (ca cb cc : Nat) (left : Int) (w : World) (hl : qO w l a b c) (h0 : 0 <= left) (h1 : left <= 1048576) :
    Calls Tryz.prog 4 #[.agg (l.cells a b c ca cb cc), .int .i64 left] w fun e w' => e = .returned (.int .i64 (zF l.sz left)) /\ Below w.heap.size w w' := by
  have HL : Hid (qO w l a b c) := hl
  clear hl
  unfold Lw.cells
  go_enter Tryz.func4, Tryz.ntmps4
  go_wp2_with fail
  refine (zeT _ _ l.ss _ _ (HL.out.ss.mono ((Below.refl _ _).alloc (Nat.le_refl _) _)) h0 h1).mono ?_
  rintro e w1 ⟨rfl, hb⟩
  have hX1 := za (zH w (lC l a b c ca cb cc) 26) (by simp) hb
  have hz1 : w.heap.size < w1.heap.size := by have := hb.size; simp at this; omega
  have hB1 : Below w.heap.size w w1 := ((Below.refl _ _).alloc (Nat.le_refl _) _).trans (hb.mono (by simp))
  clear hb
  by_cases c1 : (jS l.ss : Int) <= left
  rotate_left
  · have HF : Hid (zF l.sz left = -1) := zx (by unfold Lw.sz; omega)
    rw [zx c1]
    go_wp2_with fail
    go_ret
    exact ⟨zk HF.out.symm, hB1⟩
  rw [zG c1]
  go_wp2_with fail
  refine (zgv _ _ l.ms _ _ (HL.out.ms.mono hB1) (by omega) (by omega)).mono ?_
  rintro e w2 ⟨rfl, hb⟩
  have hX2 := za hX1 hz1 hb
  have hz2 := Nat.lt_of_lt_of_le hz1 hb.size
  have hB2 := hB1.trans (hb.mono hB1.size)
  clear hb hX1 hz1 hB1
  by_cases c2 : (zaj l.ms : Int) <= left - jS l.ss
  rotate_left
  · have HF : Hid (zF l.sz left = -1) := zx (by unfold Lw.sz; omega)
    rw [zx c2]
    go_wp2_with fail
    go_ret
    exact ⟨zk HF.out.symm, hB2⟩
  rw [zG c2]
  go_wp2_with fail
  refine (zgh _ _ l.ts _ _ (HL.out.ts.mono hB2) (by omega) (by omega)).mono ?_
  rintro e w3 ⟨rfl, hb⟩
  have hB3 := hB2.trans (hb.mono hB2.size)
  clear hb hX2 hz2 hB2
  by_cases c3 : (zbQ l.ts : Int) <= left - jS l.ss - zaj l.ms
  rotate_left
  · have HF : Hid (zF l.sz left = -1) := zx (by unfold Lw.sz; omega)
    rw [zx c3]
    go_wp2_with fail
    go_ret
    exact ⟨zk HF.out.symm, hB3⟩
  have HF : Hid (zF l.sz left = left - jS l.ss - zaj l.ms - zbQ l.ts) := by
    unfold Hid; rw [zG (by unfold Lw.sz; omega)]; unfold Lw.sz; omega
  rw [zG c3]
  go_wp2_with fail
  go_ret
  exact ⟨zk HF.out.symm, hB3⟩
set_option maxHeartbeats 1000000 in
theorem zh9 (l : Lw) (a b c a' b' c' : Option Addr) (ca cb cc ca' cb' cc' : Nat) (w : World) (hl : qO w l a b c) (hl' : qO w l a' b' c') :
    Calls Tryz.prog 10 #[.agg (l.cells a b c ca cb cc), .agg (l.cells a' b' c' ca' cb' cc')] w fun e w' => e = .returned (.bool true) /\ Below w.heap.size w w' := by
  unfold Lw.cells
  go_enter Tryz.func10, Tryz.ntmps10
  go_wp2_with fail
  refine (zfn _ _ _ _ l.ss _ (hl.ss.mono (zq _ _ _)) (hl'.ss.mono (zq _ _ _))).mono ?_
  rintro e w1 ⟨rfl, hb⟩
  have hX1 := za (za (zH w _ _) (by simp) ((Below.refl _ _).alloc (Nat.le_refl _) _)) (by simp; omega) hb
  have hY1 := za (zH (w.alloc (.cells (lC l a b c ca cb cc) 40)) (lC l a' b' c' ca' cb' cc') 40) (by simp) hb
  have hz1 : w.heap.size + 1 < w1.heap.size := by have := hb.size; simp at this; omega
  have hB1 := (zq w _ _).trans (hb.mono (by simp; omega))
  rw [World.size_alloc] at hY1
  clear hb
  go_wp2_with fail
  refine (zgr _ _ _ _ l.ms _ (hl.ms.mono hB1) (hl'.ms.mono hB1)).mono ?_
  rintro e w2 ⟨rfl, hb⟩
  have hX2 := za hX1 (Nat.lt_of_succ_lt hz1) hb
  have hY2 := za hY1 hz1 hb
  have hz2 := Nat.lt_of_lt_of_le hz1 hb.size
  have hB2 := hB1.trans (hb.mono hB1.size)
  clear hb hX1 hY1 hz1 hB1
  go_wp2_with fail
  refine (zgs _ _ _ _ l.ts _ (hl.ts.mono hB2) (hl'.ts.mono hB2)).mono ?_
  rintro e w3 ⟨rfl, hb⟩
  have hB3 := hB2.trans (hb.mono hB2.size)
  clear hb hX2 hY2 hz2 hB2
  go_wp2_with fail
  go_ret
  exact ⟨rfl, hB3⟩
theorem below3' (w : World) (o o' o'' : Obj) : Below w.heap.size w (((w.alloc o).alloc o').alloc o'') := (((Below.refl _ _).alloc (Nat.le_refl _) _).alloc (by simp) _).alloc (by simp; omega) _
theorem zn0 (w : World) (o1 o2 o3 : Obj) : (((w.alloc o1).alloc o2).alloc o3).heap[w.heap.size]? = some o1 /\ (((w.alloc o1).alloc o2).alloc o3).heap[w.heap.size + 1]? = some o2 /\ (((w.alloc o1).alloc o2).alloc o3).heap[w.heap.size + 1 + 1]? = some o3 := by
  have h1 := (MapKept.heap_alloc w o1).1
  have h2 := (MapKept.heap_alloc (w.alloc o1) o2).1
  have h3 := (MapKept.heap_alloc ((w.alloc o1).alloc o2) o3).1
  simp only [World.size_alloc] at h2 h3
  exact ⟨(Below.heap_alloc _ _ _ (by simp; omega)).trans ((Below.heap_alloc _ _ _ (by simp)).trans h1), (Below.heap_alloc _ _ _ (by simp)).trans h2, h3⟩
structure yh (lo : Nat) (w w' : World) : Prop where
  size : w.heap.size <= w'.heap.size
  same : ∀ b, lo <= b -> b < w.heap.size -> w'.heap[b]? = w.heap[b]?
theorem yh.refl (lo : Nat) (w : World) : yh lo w w := ⟨Nat.le_refl _, fun _ _ _ => rfl⟩
theorem yh.trans {lo : Nat} {w w1 w2 : World} (h : yh lo w w1) (h' : yh lo w1 w2) : yh lo w w2 :=
  ⟨Nat.le_trans h.size h'.size, fun b h1 h2 => (h'.same b h1 (Nat.lt_of_lt_of_le h2 h.size)).trans (h.same b h1 h2)⟩
theorem yh.mono {lo lo' : Nat} {w w' : World} (h : yh lo w w') (hl : lo <= lo') : yh lo' w w' := ⟨h.size, fun b h1 h2 => h.same b (Nat.le_trans hl h1) h2⟩
theorem yh.below {lo : Nat} {w w' : World} (h : Below w.heap.size w w') : yh lo w w' := ⟨h.size, fun b _ h2 => h.block b h2⟩
theorem yh.setCell {lo : Nat} {w : World} {p : Addr} (hp : p.block < lo) (v : Value) : yh lo w (w.setCell p v) :=
  ⟨by rw [World.size_setCell]; exact Nat.le_refl _, fun b h1 _ => Below.heap_setCell _ _ _ _ (by omega)⟩
theorem yT.above {lo : Nat} {w w' : World} {bf : Nat} {fs : List Fld} {k : Nat} (h : yT lo w bf fs k) (ha : yh lo w w') : yT lo w' bf fs k := by
  obtain ⟨C, hC, hsz, hr⟩ := h.rows
  refine ⟨h.low, C, (ha.same _ h.low (Array.getElem?_eq_some_iff.1 hC).1).trans hC, hsz, fun i hi hk => ?_⟩
  obtain ⟨bk, h1, h2, h3, h4⟩ := hr i hi hk
  exact ⟨bk, h1, h2, (ha.same _ h1 (Array.getElem?_eq_some_iff.1 h3).1).trans h3, h4⟩
theorem jd.above {lo : Nat} {w w' : World} {bo : Nat} {ss : List Shp} {k : Nat} (h : jd lo w bo ss k) (ha : yh lo w w') : jd lo w' bo ss k := by
  obtain ⟨C, hC, hsz, hr⟩ := h.rows
  refine ⟨h.low, C, (ha.same _ h.low (Array.getElem?_eq_some_iff.1 hC).1).trans hC, hsz, fun i hi hk => ?_⟩
  obtain ⟨bf, h1, h2, h3, h4⟩ := hr i hi hk
  exact ⟨bf, h1, h2, h3.above (ha.mono (Nat.le_succ_of_le h.low)), h4⟩
theorem qF.above {lo : Nat} {w w' : World} {bo : Nat} {ms : List Mnd} {k : Nat} (h : qF lo w bo ms k) (ha : yh lo w w') : qF lo w' bo ms k := by
  obtain ⟨C, hC, hr⟩ := h.rows
  exact ⟨h.low, C, (ha.same _ h.low (Array.getElem?_eq_some_iff.1 hC).1).trans hC, hr⟩
theorem jI.above {ty : TypeId} {lo : Nat} {w w' : World} {bo : Nat} {ts : List Tm} {k : Nat} (h : jI ty lo w bo ts k) (ha : yh lo w w') : jI ty lo w' bo ts k := by
  obtain ⟨C, hC, hr⟩ := h.rows
  exact ⟨h.low, C, (ha.same _ h.low (Array.getElem?_eq_some_iff.1 hC).1).trans hC, hr⟩
structure ziD (lo : Nat) (w : World) (l : Lw) (a b c : Nat) : Prop where
  ss : jd lo w a l.ss l.ss.length
  ms : qF lo w b l.ms l.ms.length
  ts : jI 131 lo w c l.ts l.ts.length
theorem ziD.above {lo : Nat} {w w' : World} {l : Lw} {a b c : Nat} (h : ziD lo w l a b c) (ha : yh lo w w') : ziD lo w' l a b c := ⟨h.ss.above ha, h.ms.above ha, h.ts.above ha⟩
structure Lw.Small (l : Lw) : Prop where
  ss : zcf l.ss
  ls : l.ss.length <= maxLen
  ms : ∀ i (h : i < l.ms.length), l.ms[i].Small
  lm : l.ms.length <= maxLen
  ts : ∀ i (h : i < l.ts.length), l.ts[i].Small
  lt : l.ts.length <= maxLen
theorem qO.small {w : World} {l : Lw} {a b c : Option Addr} (h : qO w l a b c) : l.Small := ⟨h.ss.smalls, h.ss.len, h.ms.small, h.ms.len, h.ts.small, h.ts.len⟩
theorem ziD.at {lo : Nat} {w : World} {l : Lw} {a b c : Nat} (h : ziD lo w l a b c) (hs : l.Small) : qO w l (some ⟨a, 0, none⟩) (some ⟨b, 0, none⟩) (some ⟨c, 0, none⟩) := ⟨h.ss.at hs.ss hs.ls, h.ms.at hs.ms hs.lm, h.ts.at hs.ts hs.lt⟩
end Go.Proofs.YtkfigdbbncjojaaGreat
