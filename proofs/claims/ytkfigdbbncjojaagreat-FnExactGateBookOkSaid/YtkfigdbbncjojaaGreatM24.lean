import Derived.Test.YtkfigdbbncjojaaGreatM20
import Derived.Test.YtkfigdbbncjojaaGreatM18
namespace Go.Proofs.YtkfigdbbncjojaaGreat
open Go.RowKit
theorem zju (x : Value) (w : World) : (method 391 210 x "loop.example/wharfgate/impl.bare").run Tryz.prog w = .ok (219, x) w := by kernel_rfl
theorem zii (x : Value) (w : World) : (method 391 210 x "loop.example/wharfgate/impl.sound").run Tryz.prog w = .ok (221, x) w := by kernel_rfl
theorem zjB (x : Value) (w : World) : (method 391 212 x "loop.example/wharfgate/impl.bare").run Tryz.prog w = .ok (222, x) w := by kernel_rfl
theorem zhY (x : Value) (w : World) : (method 391 212 x "loop.example/wharfgate/impl.sound").run Tryz.prog w = .ok (224, x) w := by kernel_rfl
theorem zi5 (x : Value) (w : World) : (method 391 213 x "loop.example/wharfgate/impl.bare").run Tryz.prog w = .ok (227, x) w := by kernel_rfl
theorem zil (x : Value) (w : World) : (method 391 213 x "loop.example/wharfgate/impl.sound").run Tryz.prog w = .ok (229, x) w := by kernel_rfl
theorem zjs (x : Value) (w : World) : (method 391 214 x "loop.example/wharfgate/impl.bare").run Tryz.prog w = .ok (230, x) w := by kernel_rfl
theorem zic (x : Value) (w : World) : (method 391 214 x "loop.example/wharfgate/impl.sound").run Tryz.prog w = .ok (232, x) w := by kernel_rfl
set_option maxRecDepth 20000 in
set_option maxHeartbeats 1000000 in
theorem zbV (r fk T fB fS fF : Nat) (B Sn Ft : Bool) (nm : ByteArray) (kd ls ms : Int) (a : Option Addr) (cap : Nat) (ws : List ByteArray) (to : ByteArray) (rl : Int) (mu fx : Bool) (df wg : ByteArray) (a0 : Option Addr) (cap0 : Nat) (ss : List Shp) (w : World)
    (hlk : ∀ o, (Instr.lookup 163 (.map (some r)) (.int .i64 kd) true).run Tryz.prog (w.alloc o) = .ok (.tuple #[.func (.func fk) #[] #[], .bool true]) (w.alloc o))
    (hm1 : ∀ x w, (method 391 T x "loop.example/wharfgate/impl.bare").run Tryz.prog w = .ok (fB, x) w) (hm2 : ∀ x w, (method 391 T x "loop.example/wharfgate/impl.sound").run Tryz.prog w = .ok (fS, x) w) (hm3 : ∀ x w, (method 391 T x "loop.example/wharfgate/impl.fits").run Tryz.prog w = .ok (fF, x) w)
    (hc0 : ∀ args w, (callFunc fk args).run Tryz.prog w = .ok (.enter fk args) w) (hc1 : ∀ args w, (callFunc fB args).run Tryz.prog w = .ok (.enter fB args) w) (hc2 : ∀ args w, (callFunc fS args).run Tryz.prog w = .ok (.enter fS args) w) (hc3 : ∀ args w, (callFunc fF args).run Tryz.prog w = .ok (.enter fF args) w)
    (HK : Hid (∀ W, Calls Tryz.prog fk #[.agg #[.string nm, .int .i64 kd, .int .i64 ls, .int .i64 ms, .slice a ws.length cap, .string to, .int .i64 rl, .bool mu, .bool fx, .string df, .string wg]] W fun e w' => e = .returned (.iface T (.agg #[.string nm, .int .i64 kd, .int .i64 ls, .int .i64 ms, .slice a ws.length cap, .string to, .int .i64 rl, .bool mu, .bool fx, .string df, .string wg])) /\ Below W.heap.size W w'))
    (HB : Hid (∀ W, Calls Tryz.prog fB #[.agg #[.string nm, .int .i64 kd, .int .i64 ls, .int .i64 ms, .slice a ws.length cap, .string to, .int .i64 rl, .bool mu, .bool fx, .string df, .string wg]] W fun e w' => e = .returned (.bool B) /\ Below W.heap.size W w'))
    (HS : Hid (∀ W, Below w.heap.size w W -> Calls Tryz.prog fS #[.agg #[.string nm, .int .i64 kd, .int .i64 ls, .int .i64 ms, .slice a ws.length cap, .string to, .int .i64 rl, .bool mu, .bool fx, .string df, .string wg], .slice a0 ss.length cap0] W fun e w' => e = .returned (.bool Sn) /\ Below W.heap.size W w'))
    (HF : Hid (df.toList.isEmpty = false -> ∀ W, Below w.heap.size w W -> Calls Tryz.prog fF #[.agg #[.string nm, .int .i64 kd, .int .i64 ls, .int .i64 ms, .slice a ws.length cap, .string to, .int .i64 rl, .bool mu, .bool fx, .string df, .string wg], .string df] W fun e w' => e = .returned (.bool Ft) /\ Below W.heap.size W w')) :
    Calls Tryz.prog 176 #[.map (some r), .slice a0 ss.length cap0, .agg #[.string nm, .int .i64 kd, .int .i64 ls, .int .i64 ms, .slice a ws.length cap, .string to, .int .i64 rl, .bool mu, .bool fx, .string df, .string wg]] w
      fun e w' => e = .returned (.bool (B && Sn && (df.toList.isEmpty || Ft))) /\ Below w.heap.size w w' := by
  go_enter Tryz.func176, Tryz.ntmps176
  go_wp2_with fail
  refine (HK.out _).mono ?_
  rintro e w1 ⟨rfl, hb1⟩
  have hX1 := za (zH w _ _) (by simp) hb1
  have hz1 : w.heap.size < w1.heap.size := by have := hb1.size; simp at this; omega
  have H1 := hid (((Below.refl _ _).alloc (Nat.le_refl _) _).trans (hb1.mono (by simp)))
  clear hb1 hlk
  go_wp2_with fail
  refine (HB.out _).mono ?_
  rintro e w2 ⟨rfl, hb2⟩
  have hX2 := za hX1 hz1 hb2
  have hz2 : w.heap.size < w2.heap.size := by have := hb2.size; omega
  have H2 := hid (H1.out.trans (hb2.mono (by omega)))
  clear hb2 hX1 hz1 H1
  cases B with
  | false =>
    go_wp2_with fail
    go_ret
    exact ⟨rfl, H2.out⟩
  | true =>
    go_wp2_with fail
    refine (HS.out _ H2.out).mono ?_
    rintro e w3 ⟨rfl, hb3⟩
    have hX3 := za hX2 hz2 hb3
    have H3 := hid (H2.out.trans (hb3.mono (by omega)))
    clear hb3 hX2 hz2 H2
    cases Sn with
    | false =>
      go_wp2_with fail
      go_ret
      exact ⟨rfl, H3.out⟩
    | true =>
      rcases hd : df.toList.isEmpty with _ | _
      · go_wp2_with fail
        refine (HF.out hd _ H3.out).mono ?_
        rintro e w4 ⟨rfl, hb4⟩
        have H4 := hid (H3.out.trans (hb4.mono H3.out.size))
        clear hb4
        go_wp2_with fail
        go_ret
        exact ⟨ze (by simp [hd]), H4.out⟩
      · go_wp2_with fail
        go_ret
        exact ⟨ze (by simp [hd]), H3.out⟩
set_option maxHeartbeats 400000 in
theorem zh4 (r : Nat) (nm : ByteArray) (kd ls ms : Int) (a : Option Addr) (cap : Nat) (ws : List ByteArray) (to : ByteArray) (rl : Int) (mu fx : Bool) (df wg : ByteArray) (a0 : Option Addr) (cap0 : Nat) (ss : List Shp) (w : World) (hr : w.heap[r]? = some (.map qB 4)) (h1 : kd ≠ 1) (h2 : kd ≠ 2) (h3 : kd ≠ 3) (h4 : kd ≠ 4) :
    Calls Tryz.prog 176 #[.map (some r), .slice a0 ss.length cap0, .agg #[.string nm, .int .i64 kd, .int .i64 ls, .int .i64 ms, .slice a ws.length cap, .string to, .int .i64 rl, .bool mu, .bool fx, .string df, .string wg]] w
      fun e w' => e = .returned (.bool (Gate.jN ss ⟨nm, kd, ls, ms, ws, to, rl, mu, fx, df, wg⟩)) /\ Below w.heap.size w w' := by
  have HO : Hid (Gate.jN ss ⟨nm, kd, ls, ms, ws, to, rl, mu, fx, df, wg⟩ = false) := by simp [Hid, Gate.jN, Gate.bare, Gate.qE, h1, h2, h3, h4]
  have hlt := (Array.getElem?_eq_some_iff.1 hr).1
  have hlk : ∀ o, (Instr.lookup 163 (.map (some r)) (.int .i64 kd) true).run Tryz.prog (w.alloc o) = .ok (.tuple #[.nilFunc, .bool false]) (w.alloc o) :=
    fun o => zba Tryz.underlying163 Tryz.underlying3 (.int .i64 kd) _ rfl qB 4 (ziA kd h1 h2 h3 h4) (w.alloc o) (ziM _) r ((Below.heap_alloc w o r hlt).trans hr)
  clear hr h1 h2 h3 h4
  go_enter Tryz.func176, Tryz.ntmps176
  go_wp2_with fail
  go_ret
  exact ⟨ze HO.out.symm, (Below.refl _ _).alloc (Nat.le_refl _) _⟩
theorem zk5 (r : Nat) (nm : ByteArray) (kd ls ms : Int) (a : Option Addr) (cap : Nat) (ws : List ByteArray) (to : ByteArray) (rl : Int) (mu fx : Bool) (df wg : ByteArray) (a0 : Option Addr) (cap0 : Nat) (ss : List Shp) (w : World) (hr : w.heap[r]? = some (.map qB 4)) (hdf : df.size <= maxLen) (hwg : wg.size <= maxLen) (hws : zB w a ws) (hss : yB w a0 ss) :
    Calls Tryz.prog 176 #[.map (some r), .slice a0 ss.length cap0, .agg #[.string nm, .int .i64 kd, .int .i64 ls, .int .i64 ms, .slice a ws.length cap, .string to, .int .i64 rl, .bool mu, .bool fx, .string df, .string wg]] w
      fun e w' => e = .returned (.bool (Gate.jN ss ⟨nm, kd, ls, ms, ws, to, rl, mu, fx, df, wg⟩)) /\ Below w.heap.size w w' := by
  have hlt := (Array.getElem?_eq_some_iff.1 hr).1
  by_cases h1 : kd = 1
  · subst h1
    have h := zbV r 147 210 219 221 220 (Gate.qE 1 ls ms ws.length to rl wg) (Gate.yP ss ⟨nm, 1, ls, ms, ws, to, rl, mu, fx, df, wg⟩) (Gate.fits 1 ls ms ws df) nm 1 ls ms a cap ws to rl mu fx df wg a0 cap0 ss w
      (fun o => y7 Tryz.underlying163 Tryz.underlying3 (.int .i64 1) _ rfl qB 4 0 rfl (w.alloc o) r ((Below.heap_alloc w o r hlt).trans hr)) zju zii zey (by intros; go_simp) (by intros; go_simp) (by intros; go_simp) (by intros; go_simp)
      (fun W => ziN _ _ _ _ _ _ _ _ _ _ _ _ _ _) (fun W => zhr _ _ _ _ _ _ _ _ _ _ _ _ _ _) (fun W hb => zgi _ _ _ _ _ _ _ _ _ _ _ _ _ _ _ _ hwg)
      (fun hd W hb => by rw [Gate.zlG ls ms ws df (by intro h; rw [Gate.zo] at hd; simp [h] at hd)]; exact zdq _ _ _ _ _ _ _ _ _ _ _ _ _ hdf)
    exact h
  by_cases h2 : kd = 2
  · subst h2
    have h := zbV r 148 212 222 224 223 (Gate.qE 2 ls ms ws.length to rl wg) (Gate.yP ss ⟨nm, 2, ls, ms, ws, to, rl, mu, fx, df, wg⟩) (Gate.fits 2 ls ms ws df) nm 2 ls ms a cap ws to rl mu fx df wg a0 cap0 ss w
      (fun o => y7 Tryz.underlying163 Tryz.underlying3 (.int .i64 2) _ rfl qB 4 1 rfl (w.alloc o) r ((Below.heap_alloc w o r hlt).trans hr)) zjB zhY zeh (by intros; go_simp) (by intros; go_simp) (by intros; go_simp) (by intros; go_simp)
      (fun W => ziJ _ _ _ _ _ _ _ _ _ _ _ _ _ _) (fun W => zjQ _ _ _ _ _ _ _ _ _ _ _ _ _ _) (fun W hb => ziu _ _ _ _ _ _ _ _ _ _ _ _ _ _ _ _ (hws.mono hb))
      (fun hd W hb => by rw [Gate.zll ls ms ws df (by intro h; rw [Gate.zo] at hd; simp [h] at hd)]; exact zeu _ _ _ _ _ _ _ _ _ _ _ _ _ _ _ (hws.mono hb))
    exact h
  by_cases h3 : kd = 3
  · subst h3
    have h := zbV r 149 213 227 229 228 (Gate.qE 3 ls ms ws.length to rl wg) (Gate.yP ss ⟨nm, 3, ls, ms, ws, to, rl, mu, fx, df, wg⟩) (Gate.fits 3 ls ms ws df) nm 3 ls ms a cap ws to rl mu fx df wg a0 cap0 ss w
      (fun o => y7 Tryz.underlying163 Tryz.underlying3 (.int .i64 3) _ rfl qB 4 2 rfl (w.alloc o) r ((Below.heap_alloc w o r hlt).trans hr)) zi5 zil zel (by intros; go_simp) (by intros; go_simp) (by intros; go_simp) (by intros; go_simp)
      (fun W => ziX _ _ _ _ _ _ _ _ _ _ _ _ _ _) (fun W => zjI _ _ _ _ _ _ _ _ _ _ _ _ _ _) (fun W hb => zid _ _ _ _ _ _ _ _ _ _ _ _ _ _ _ _)
      (fun hd W hb => by rw [Gate.zi2 ls ms ws df (by intro h; rw [Gate.zo] at hd; simp [h] at hd)]; exact zeF _ _ _ _ _ _ _ _ _ _ _ _ _ hdf)
    exact h
  by_cases h4 : kd = 4
  · subst h4
    have h := zbV r 150 214 230 232 231 (Gate.qE 4 ls ms ws.length to rl wg) (Gate.yP ss ⟨nm, 4, ls, ms, ws, to, rl, mu, fx, df, wg⟩) (Gate.fits 4 ls ms ws df) nm 4 ls ms a cap ws to rl mu fx df wg a0 cap0 ss w
      (fun o => y7 Tryz.underlying163 Tryz.underlying3 (.int .i64 4) _ rfl qB 4 3 rfl (w.alloc o) r ((Below.heap_alloc w o r hlt).trans hr)) zjs zic zes (by intros; go_simp) (by intros; go_simp) (by intros; go_simp) (by intros; go_simp)
      (fun W => ziI _ _ _ _ _ _ _ _ _ _ _ _ _ _) (fun W => zjJ _ _ _ _ _ _ _ _ _ _ _ _ _ _) (fun W hb => zh0 _ _ _ _ _ _ _ _ _ _ _ _ _ _ _ _ (hss.mono hb))
      (fun hd W hb => by rw [Gate.zlA ls ms ws df (by intro h; rw [Gate.zo] at hd; simp [h] at hd)]; exact zeH _ _ _ _ _ _ _ _ _ _ _ _ _ hdf)
    exact h
  exact zh4 r nm kd ls ms a cap ws to rl mu fx df wg a0 cap0 ss w hr h1 h2 h3 h4
end Go.Proofs.YtkfigdbbncjojaaGreat
