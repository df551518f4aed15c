import Derived.Test.YtfcdmlnpfoikhaaGreatM09
import Derived.Test.YtfcdmlnpfoikhaaGreatM07
namespace Go.Proofs.YtfcdmlnpfoikhaaGreat
open Go.RowKit
theorem zkQ (x : Value) (w : World) : (method 410 240 x "loop.example/wharfgate/impl.bare").run Tryz.prog w = .ok (241, x) w := by kernel_rfl
theorem ziY (x : Value) (w : World) : (method 410 240 x "loop.example/wharfgate/impl.sound").run Tryz.prog w = .ok (243, x) w := by kernel_rfl
theorem zkb (x : Value) (w : World) : (method 410 242 x "loop.example/wharfgate/impl.bare").run Tryz.prog w = .ok (244, x) w := by kernel_rfl
theorem zje (x : Value) (w : World) : (method 410 242 x "loop.example/wharfgate/impl.sound").run Tryz.prog w = .ok (246, x) w := by kernel_rfl
theorem zkK (x : Value) (w : World) : (method 410 243 x "loop.example/wharfgate/impl.bare").run Tryz.prog w = .ok (249, x) w := by kernel_rfl
theorem zja (x : Value) (w : World) : (method 410 243 x "loop.example/wharfgate/impl.sound").run Tryz.prog w = .ok (251, x) w := by kernel_rfl
theorem zkl (x : Value) (w : World) : (method 410 244 x "loop.example/wharfgate/impl.bare").run Tryz.prog w = .ok (252, x) w := by kernel_rfl
theorem zjj (x : Value) (w : World) : (method 410 244 x "loop.example/wharfgate/impl.sound").run Tryz.prog w = .ok (254, x) w := by kernel_rfl
set_option maxRecDepth 20000 in
set_option maxHeartbeats 1000000 in
theorem zcm (r fk T fB fS fF : Nat) (B Sn Ft : Bool) (nm : ByteArray) (kd ls ms : Int) (a : Option Addr) (cap : Nat) (ws : List ByteArray) (to : ByteArray) (rl : Int) (mu fx : Bool) (df wg : ByteArray) (a0 : Option Addr) (cap0 : Nat) (ss : List Shp) (w : World)
    (hlk : ∀ o, (Instr.lookup 199 (.map (some r)) (.int .i64 kd) true).run Tryz.prog (w.alloc o) = .ok (.tuple #[.func (.func fk) #[] #[], .bool true]) (w.alloc o))
    (hm1 : ∀ x w, (method 410 T x "loop.example/wharfgate/impl.bare").run Tryz.prog w = .ok (fB, x) w) (hm2 : ∀ x w, (method 410 T x "loop.example/wharfgate/impl.sound").run Tryz.prog w = .ok (fS, x) w) (hm3 : ∀ x w, (method 410 T x "loop.example/wharfgate/impl.fits").run Tryz.prog w = .ok (fF, x) w)
    (hc0 : ∀ args w, (callFunc fk args).run Tryz.prog w = .ok (.enter fk args) w) (hc1 : ∀ args w, (callFunc fB args).run Tryz.prog w = .ok (.enter fB args) w) (hc2 : ∀ args w, (callFunc fS args).run Tryz.prog w = .ok (.enter fS args) w) (hc3 : ∀ args w, (callFunc fF args).run Tryz.prog w = .ok (.enter fF args) w)
    (HK : Hid (∀ W, Calls Tryz.prog fk #[.agg #[.string nm, .int .i64 kd, .int .i64 ls, .int .i64 ms, .slice a ws.length cap, .string to, .int .i64 rl, .bool mu, .bool fx, .string df, .string wg]] W fun e w' => e = .returned (.iface T (.agg #[.string nm, .int .i64 kd, .int .i64 ls, .int .i64 ms, .slice a ws.length cap, .string to, .int .i64 rl, .bool mu, .bool fx, .string df, .string wg])) /\ Below W.heap.size W w'))
    (HB : Hid (∀ W, Calls Tryz.prog fB #[.agg #[.string nm, .int .i64 kd, .int .i64 ls, .int .i64 ms, .slice a ws.length cap, .string to, .int .i64 rl, .bool mu, .bool fx, .string df, .string wg]] W fun e w' => e = .returned (.bool B) /\ Below W.heap.size W w'))
    (HS : Hid (∀ W, Below w.heap.size w W -> Calls Tryz.prog fS #[.agg #[.string nm, .int .i64 kd, .int .i64 ls, .int .i64 ms, .slice a ws.length cap, .string to, .int .i64 rl, .bool mu, .bool fx, .string df, .string wg], .slice a0 ss.length cap0] W fun e w' => e = .returned (.bool Sn) /\ Below W.heap.size W w'))
    (HF : Hid (df.toList.isEmpty = false -> ∀ W, Below w.heap.size w W -> Calls Tryz.prog fF #[.agg #[.string nm, .int .i64 kd, .int .i64 ls, .int .i64 ms, .slice a ws.length cap, .string to, .int .i64 rl, .bool mu, .bool fx, .string df, .string wg], .string df] W fun e w' => e = .returned (.bool Ft) /\ Below W.heap.size W w')) :
    Calls Tryz.prog 199 #[.map (some r), .slice a0 ss.length cap0, .agg #[.string nm, .int .i64 kd, .int .i64 ls, .int .i64 ms, .slice a ws.length cap, .string to, .int .i64 rl, .bool mu, .bool fx, .string df, .string wg]] w
      fun e w' => e = .returned (.bool (B && Sn && (df.toList.isEmpty || Ft))) /\ Below w.heap.size w w' := by
  go_enter Tryz.func199, Tryz.ntmps199
  go_wp2_with fail
  refine (HK.out _).mono ?_
  rintro e w1 ⟨rfl, hb1⟩
  have hX1 := za (zH w _ _) (by simp) hb1
  have hz1 : w.heap.size < w1.heap.size := by have := hb1.size; simp at this; omega
  have H1 := hid (((Below.refl _ _).alloc (Nat.le_refl _) _).trans (hb1.mono (by simp)))
  clear hb1 hlk
  go_wp2_with fail
  refine (HB.out _).mono ?_
  rintro e w2 ⟨rfl, hb2⟩
  have hX2 := za hX1 hz1 hb2
  have hz2 : w.heap.size < w2.heap.size := by have := hb2.size; omega
  have H2 := hid (H1.out.trans (hb2.mono (by omega)))
  clear hb2 hX1 hz1 H1
  cases B with
  | false =>
    go_wp2_with fail
    go_ret
    exact ⟨rfl, H2.out⟩
  | true =>
    go_wp2_with fail
    refine (HS.out _ H2.out).mono ?_
    rintro e w3 ⟨rfl, hb3⟩
    have hX3 := za hX2 hz2 hb3
    have H3 := hid (H2.out.trans (hb3.mono (by omega)))
    clear hb3 hX2 hz2 H2
    cases Sn with
    | false =>
      go_wp2_with fail
      go_ret
      exact ⟨rfl, H3.out⟩
    | true =>
      rcases hd : df.toList.isEmpty with _ | _
      · go_wp2_with fail
        refine (HF.out hd _ H3.out).mono ?_
        rintro e w4 ⟨rfl, hb4⟩
        have H4 := hid (H3.out.trans (hb4.mono H3.out.size))
        clear hb4
        go_wp2_with fail
        go_ret
        exact ⟨ze (by simp [hd]), H4.out⟩
      · go_wp2_with fail
        go_ret
        exact ⟨ze (by simp [hd]), H3.out⟩
set_option maxHeartbeats 400000 in
theorem zi7 (r : Nat) (nm : ByteArray) (kd ls ms : Int) (a : Option Addr) (cap : Nat) (ws : List ByteArray) (to : ByteArray) (rl : Int) (mu fx : Bool) (df wg : ByteArray) (a0 : Option Addr) (cap0 : Nat) (ss : List Shp) (w : World) (hr : w.heap[r]? = some (.map qI 4)) (h1 : kd ≠ 1) (h2 : kd ≠ 2) (h3 : kd ≠ 3) (h4 : kd ≠ 4) :
    Calls Tryz.prog 199 #[.map (some r), .slice a0 ss.length cap0, .agg #[.string nm, .int .i64 kd, .int .i64 ls, .int .i64 ms, .slice a ws.length cap, .string to, .int .i64 rl, .bool mu, .bool fx, .string df, .string wg]] w
      fun e w' => e = .returned (.bool (Gate.j6 ss ⟨nm, kd, ls, ms, ws, to, rl, mu, fx, df, wg⟩)) /\ Below w.heap.size w w' := by
  have HO : Hid (Gate.j6 ss ⟨nm, kd, ls, ms, ws, to, rl, mu, fx, df, wg⟩ = false) := by simp [Hid, Gate.j6, Gate.bare, Gate.qO, h1, h2, h3, h4]
  have hlt := (Array.getElem?_eq_some_iff.1 hr).1
  have hlk : ∀ o, (Instr.lookup 199 (.map (some r)) (.int .i64 kd) true).run Tryz.prog (w.alloc o) = .ok (.tuple #[.nilFunc, .bool false]) (w.alloc o) :=
    fun o => zbE Tryz.underlying199 Tryz.underlying3 (.int .i64 kd) _ rfl qI 4 (zjX kd h1 h2 h3 h4) (w.alloc o) (zjP _) r ((Below.heap_alloc w o r hlt).trans hr)
  clear hr h1 h2 h3 h4
  go_enter Tryz.func199, Tryz.ntmps199
  go_wp2_with fail
  go_ret
  exact ⟨ze HO.out.symm, (Below.refl _ _).alloc (Nat.le_refl _) _⟩
theorem zmc (r : Nat) (nm : ByteArray) (kd ls ms : Int) (a : Option Addr) (cap : Nat) (ws : List ByteArray) (to : ByteArray) (rl : Int) (mu fx : Bool) (df wg : ByteArray) (a0 : Option Addr) (cap0 : Nat) (ss : List Shp) (w : World) (hr : w.heap[r]? = some (.map qI 4)) (hdf : df.size <= maxLen) (hwg : wg.size <= maxLen) (hws : zB w a ws) (hss : yE w a0 ss) :
    Calls Tryz.prog 199 #[.map (some r), .slice a0 ss.length cap0, .agg #[.string nm, .int .i64 kd, .int .i64 ls, .int .i64 ms, .slice a ws.length cap, .string to, .int .i64 rl, .bool mu, .bool fx, .string df, .string wg]] w
      fun e w' => e = .returned (.bool (Gate.j6 ss ⟨nm, kd, ls, ms, ws, to, rl, mu, fx, df, wg⟩)) /\ Below w.heap.size w w' := by
  have hlt := (Array.getElem?_eq_some_iff.1 hr).1
  by_cases h1 : kd = 1
  · subst h1
    have h := zcm r 174 240 241 243 242 (Gate.qO 1 ls ms ws.length to rl wg) (Gate.y5 ss ⟨nm, 1, ls, ms, ws, to, rl, mu, fx, df, wg⟩) (Gate.fits 1 ls ms ws df) nm 1 ls ms a cap ws to rl mu fx df wg a0 cap0 ss w
      (fun o => qx Tryz.underlying199 Tryz.underlying3 (.int .i64 1) _ rfl qI 4 0 rfl (w.alloc o) r ((Below.heap_alloc w o r hlt).trans hr)) zkQ ziY zfa (by intros; go_simp) (by intros; go_simp) (by intros; go_simp) (by intros; go_simp)
      (fun W => zjB _ _ _ _ _ _ _ _ _ _ _ _ _ _) (fun W => zh3 _ _ _ _ _ _ _ _ _ _ _ _ _ _) (fun W hb => zgQ _ _ _ _ _ _ _ _ _ _ _ _ _ _ _ _ hwg)
      (fun hd W hb => by rw [Gate.zmC ls ms ws df (by intro h; rw [Gate.zo] at hd; simp [h] at hd)]; exact zd3 _ _ _ _ _ _ _ _ _ _ _ _ _ hdf)
    exact h
  by_cases h2 : kd = 2
  · subst h2
    have h := zcm r 175 242 244 246 245 (Gate.qO 2 ls ms ws.length to rl wg) (Gate.y5 ss ⟨nm, 2, ls, ms, ws, to, rl, mu, fx, df, wg⟩) (Gate.fits 2 ls ms ws df) nm 2 ls ms a cap ws to rl mu fx df wg a0 cap0 ss w
      (fun o => qx Tryz.underlying199 Tryz.underlying3 (.int .i64 2) _ rfl qI 4 1 rfl (w.alloc o) r ((Below.heap_alloc w o r hlt).trans hr)) zkb zje ze3 (by intros; go_simp) (by intros; go_simp) (by intros; go_simp) (by intros; go_simp)
      (fun W => zjO _ _ _ _ _ _ _ _ _ _ _ _ _ _) (fun W => zkJ _ _ _ _ _ _ _ _ _ _ _ _ _ _) (fun W hb => zi3 _ _ _ _ _ _ _ _ _ _ _ _ _ _ _ _ (hws.mono hb))
      (fun hd W hb => by rw [Gate.zmP ls ms ws df (by intro h; rw [Gate.zo] at hd; simp [h] at hd)]; exact ze8 _ _ _ _ _ _ _ _ _ _ _ _ _ _ _ (hws.mono hb))
    exact h
  by_cases h3 : kd = 3
  · subst h3
    have h := zcm r 176 243 249 251 250 (Gate.qO 3 ls ms ws.length to rl wg) (Gate.y5 ss ⟨nm, 3, ls, ms, ws, to, rl, mu, fx, df, wg⟩) (Gate.fits 3 ls ms ws df) nm 3 ls ms a cap ws to rl mu fx df wg a0 cap0 ss w
      (fun o => qx Tryz.underlying199 Tryz.underlying3 (.int .i64 3) _ rfl qI 4 2 rfl (w.alloc o) r ((Below.heap_alloc w o r hlt).trans hr)) zkK zja zfz (by intros; go_simp) (by intros; go_simp) (by intros; go_simp) (by intros; go_simp)
      (fun W => zjU _ _ _ _ _ _ _ _ _ _ _ _ _ _) (fun W => zkr _ _ _ _ _ _ _ _ _ _ _ _ _ _) (fun W hb => zjk _ _ _ _ _ _ _ _ _ _ _ _ _ _ _ _)
      (fun hd W hb => by rw [Gate.zj2 ls ms ws df (by intro h; rw [Gate.zo] at hd; simp [h] at hd)]; exact zeV _ _ _ _ _ _ _ _ _ _ _ _ _ hdf)
    exact h
  by_cases h4 : kd = 4
  · subst h4
    have h := zcm r 177 244 252 254 253 (Gate.qO 4 ls ms ws.length to rl wg) (Gate.y5 ss ⟨nm, 4, ls, ms, ws, to, rl, mu, fx, df, wg⟩) (Gate.fits 4 ls ms ws df) nm 4 ls ms a cap ws to rl mu fx df wg a0 cap0 ss w
      (fun o => qx Tryz.underlying199 Tryz.underlying3 (.int .i64 4) _ rfl qI 4 3 rfl (w.alloc o) r ((Below.heap_alloc w o r hlt).trans hr)) zkl zjj zeT (by intros; go_simp) (by intros; go_simp) (by intros; go_simp) (by intros; go_simp)
      (fun W => zjy _ _ _ _ _ _ _ _ _ _ _ _ _ _) (fun W => zkT _ _ _ _ _ _ _ _ _ _ _ _ _ _) (fun W hb => zjf _ _ _ _ _ _ _ _ _ _ _ _ _ _ _ _ (hss.mono hb))
      (fun hd W hb => by rw [Gate.zne ls ms ws df (by intro h; rw [Gate.zo] at hd; simp [h] at hd)]; exact zfc _ _ _ _ _ _ _ _ _ _ _ _ _ hdf)
    exact h
  exact zi7 r nm kd ls ms a cap ws to rl mu fx df wg a0 cap0 ss w hr h1 h2 h3 h4
end Go.Proofs.YtfcdmlnpfoikhaaGreat

namespace Go.Proofs.YtfcdmlnpfoikhaaGreat
open Go.RowKit
theorem zoQ {fs : List Fld} {k : Nat} (h : k < fs.length) (hh : Gate.hasName (fs.take k) fs[k].nm = true) : (Gate.zS fs fs[k].nm != (k : Int)) = true := by
  obtain ⟨j, hj, e⟩ := Gate.zi9 fs _ k h hh
  rw [e, bne_iff_ne]; omega
theorem zoU {fs : List Fld} {k : Nat} (h : k < fs.length) (hh : Gate.hasName (fs.take k) fs[k].nm = false) : (Gate.zS fs fs[k].nm != (k : Int)) = false := by
  rw [Gate.zdh fs _ k h hh rfl]; simp
set_option maxHeartbeats 2000000 in
theorem zbL (r : Nat) (a0 : Option Addr) (cap0 : Nat) (ss : List Shp) (a : Option Addr) (cap : Nat) (fs : List Fld) (w : World) (hr : w.heap[r]? = some (.map qI 4)) (hss : yE w a0 ss) (hw : zY w a fs) :
    Calls Tryz.prog 173 #[.map (some r), .slice a0 ss.length cap0, .slice a fs.length cap] w fun e w' => e = .returned (.bool (Gate.yH ss fs)) /\ Below w.heap.size w w' := by
  have hl := hw.len
  unfold maxLen at hl
  have hrlt := (Array.getElem?_eq_some_iff.1 hr).1
  by_cases h6 : fs.length <= 6
  rotate_left
  · have HF : Hid (Gate.yH ss fs = false) := by simp [Hid, Gate.yH, h6]
    clear hw hr hss
    go_enter Tryz.func173, Tryz.ntmps173
    go_wp2
    go_ret
    exact ⟨ze HF.out.symm, Below.refl _ _⟩
  have HG : Hid (Gate.yH ss fs = Gate.up (Gate.zdR ss fs) fs.length) := by simp [Hid, Gate.yH, h6]
  have h6I : (fs.length : Int) <= 6 := by omega
  go_enter Tryz.func173, Tryz.ntmps173
  go_wp2
  go_loopw [14] (fun i wr => ∃ k : Nat, k <= fs.length /\ i = .int .i64 k /\ Gate.up (Gate.zdR ss fs) k = true /\ Below w.heap.size w wr) (fun i _ => fs.length - (intOf i).toNat)
  case atStart => exact ⟨0, Nat.zero_le _, rfl, rfl, Below.refl _ _⟩
  case round =>
    obtain ⟨k, hk, rfl, hup, hB⟩ := hrel
    have hsz := hB.size
    by_cases hlt : k < fs.length
    · obtain ⟨b, off, rfl, hb, hrw⟩ := hw.rows (by rintro rfl; simp at hlt)
      obtain ⟨wa, wcap, hf⟩ := hrw k hlt
      obtain ⟨c0, c1, c2, c3, c4, c5, c6, c7, c8, c9, c10⟩ := (hf.mono hb hB).load
      have hsm := hf.small
      have hst := hf.strs.mono hB
      have hfa := hw.mono hB
      have hsa := hss.mono hB
      have hra := (hB.block r hrlt).trans hr
      have HO := hid (Gate.zhu ss fs k hlt)
      have HS : Hid (Gate.zdR ss fs k = true -> Gate.up (Gate.zdR ss fs) (k + 1) = true) := fun h => by rw [Gate.jF, hup, h]; rfl
      have HN : Hid (Gate.zdR ss fs k = false -> Gate.yH ss fs = false) := fun h => by rw [HG.out]; exact Gate.za4 hlt h
      clear hw hrw hf hup hss hr
      by_cases hn : Gate.zy fs[k].nm = true
      rotate_left
      · have HNm : Hid (Gate.zy fs[k].nm = false) := by simpa [Hid] using hn
        clear hn
        go_wp2_with fail
        refine (zw HNm.out (zN _ _ hsm.nm)).mono ?_
        rintro e w1 ⟨rfl, rfl⟩
        go_wp2_with fail
        go_ret
        exact ⟨ze (HN.out (by rw [HO.out, HNm.out]; rfl)).symm, hB.alloc hsz _⟩
      have HNm := hid hn
      clear hn
      by_cases hh : Gate.hasName (fs.take k) fs[k].nm = true
      · have HH := hid hh
        have hpl := zoQ hlt hh
        clear hh
        go_wp2_with fail
        refine (zw HNm.out (zN _ _ hsm.nm)).mono ?_
        rintro e w1 ⟨rfl, rfl⟩
        go_wp2_with fail
        refine (qG _ _ _ _ _ (hfa.mono ((Below.refl _ _).alloc (Nat.le_refl _) _))).mono ?_
        rintro e w2 ⟨rfl, hb2⟩
        have hB2 : Below w.heap.size w w2 := (hB.alloc hsz _).trans (hb2.mono (by simp; omega))
        clear hb2
        go_wp2_with fail
        go_ret
        exact ⟨ze (HN.out (by rw [HO.out, HNm.out, HH.out]; rfl)).symm, hB2⟩
      · have HH : Hid (Gate.hasName (fs.take k) fs[k].nm = false) := by simpa [Hid] using hh
        have hpl := zoU hlt HH.out
        clear hh
        by_cases hok : Gate.j6 ss fs[k] = true
        all_goals
          first
            | (have HK : Hid (Gate.j6 ss fs[k] = true) := hok)
            | (have HK : Hid (Gate.j6 ss fs[k] = false) := by simpa [Hid] using hok)
          clear hok
          go_wp2_with fail
          refine (zw HNm.out (zN _ _ hsm.nm)).mono ?_
          rintro e w1 ⟨rfl, rfl⟩
          go_wp2_with fail
          refine (qG _ _ _ _ _ (hfa.mono ((Below.refl _ _).alloc (Nat.le_refl _) _))).mono ?_
          rintro e w2 ⟨rfl, hb2⟩
          have hX2 := za (zH wr _ _) (by simp) hb2
          have hz2 : wr.heap.size < w2.heap.size := by have := hb2.size; simp at this; omega
          have hbr2 : Below wr.heap.size wr w2 := ((Below.refl _ _).alloc (Nat.le_refl _) _).trans (hb2.mono (by simp))
          have hB2 := hB.trans (hbr2.mono hsz)
          have hra2 : w2.heap[r]? = some (.map qI 4) := (hbr2.block r (by omega)).trans hra
          clear hb2
          go_wp2_with fail
          refine (zw HK.out (zmc _ _ _ _ _ _ _ _ _ _ _ _ _ _ _ _ _ _ hra2 hsm.df hsm.wg (hst.mono hbr2) (hsa.mono hbr2))).mono ?_
          rintro e w3 ⟨rfl, hb3⟩
          have hB3 : Below w.heap.size w w3 := hB2.trans (hb3.mono (by omega))
          clear hb3 hX2
          go_wp2_with fail
        · exact ⟨⟨k + 1, by omega, by go_num, HS.out (by rw [HO.out, HNm.out, HH.out, HK.out]; rfl), hB3⟩, by simp [intOf]; omega⟩
        · go_ret
          exact ⟨ze (HN.out (by rw [HO.out, HNm.out, HH.out, HK.out]; rfl)).symm, hB3⟩
    · have HF : Hid (Gate.yH ss fs = true) := by
        have e : k = fs.length := by omega
        subst e; rw [HG.out]; exact hup
      clear hup hw
      go_wp2
      go_ret
      exact ⟨ze HF.out.symm, hB⟩
end Go.Proofs.YtfcdmlnpfoikhaaGreat
