import Derived.Test.YtfpeplbmfbepcaaGreatM14
import Derived.Test.YtfpeplbmfbepcaaGreatM13
namespace Go.Proofs.YtfpeplbmfbepcaaGreat
open Go.RowKit
theorem zlG (x : Value) (w : World) : (method 416 246 x "loop.example/wharfgate/impl.bare").run Tryz.prog w = .ok (245, x) w := by kernel_rfl
theorem zjy (x : Value) (w : World) : (method 416 246 x "loop.example/wharfgate/impl.sound").run Tryz.prog w = .ok (247, x) w := by kernel_rfl
theorem zkS (x : Value) (w : World) : (method 416 248 x "loop.example/wharfgate/impl.bare").run Tryz.prog w = .ok (248, x) w := by kernel_rfl
theorem zjP (x : Value) (w : World) : (method 416 248 x "loop.example/wharfgate/impl.sound").run Tryz.prog w = .ok (250, x) w := by kernel_rfl
theorem zly (x : Value) (w : World) : (method 416 249 x "loop.example/wharfgate/impl.bare").run Tryz.prog w = .ok (253, x) w := by kernel_rfl
theorem zjK (x : Value) (w : World) : (method 416 249 x "loop.example/wharfgate/impl.sound").run Tryz.prog w = .ok (255, x) w := by kernel_rfl
theorem zk4 (x : Value) (w : World) : (method 416 250 x "loop.example/wharfgate/impl.bare").run Tryz.prog w = .ok (256, x) w := by kernel_rfl
theorem zjU (x : Value) (w : World) : (method 416 250 x "loop.example/wharfgate/impl.sound").run Tryz.prog w = .ok (258, x) w := by kernel_rfl
set_option maxRecDepth 20000 in
set_option maxHeartbeats 1000000 in
theorem zcD (r fk T fB fS fF : Nat) (B Sn Ft : Bool) (nm : ByteArray) (kd ls ms : Int) (a : Option Addr) (cap : Nat) (ws : List ByteArray) (to : ByteArray) (rl : Int) (mu fx : Bool) (df wg : ByteArray) (a0 : Option Addr) (cap0 : Nat) (ss : List Shp) (w : World)
    (hlk : ∀ o, (Instr.lookup 206 (.map (some r)) (.int .i64 kd) true).run Tryz.prog (w.alloc o) = .ok (.tuple #[.func (.func fk) #[] #[], .bool true]) (w.alloc o))
    (hm1 : ∀ x w, (method 416 T x "loop.example/wharfgate/impl.bare").run Tryz.prog w = .ok (fB, x) w) (hm2 : ∀ x w, (method 416 T x "loop.example/wharfgate/impl.sound").run Tryz.prog w = .ok (fS, x) w) (hm3 : ∀ x w, (method 416 T x "loop.example/wharfgate/impl.fits").run Tryz.prog w = .ok (fF, x) w)
    (hc0 : ∀ args w, (callFunc fk args).run Tryz.prog w = .ok (.enter fk args) w) (hc1 : ∀ args w, (callFunc fB args).run Tryz.prog w = .ok (.enter fB args) w) (hc2 : ∀ args w, (callFunc fS args).run Tryz.prog w = .ok (.enter fS args) w) (hc3 : ∀ args w, (callFunc fF args).run Tryz.prog w = .ok (.enter fF args) w)
    (HK : Hid (∀ W, Calls Tryz.prog fk #[.agg #[.string nm, .int .i64 kd, .int .i64 ls, .int .i64 ms, .slice a ws.length cap, .string to, .int .i64 rl, .bool mu, .bool fx, .string df, .string wg]] W fun e w' => e = .returned (.iface T (.agg #[.string nm, .int .i64 kd, .int .i64 ls, .int .i64 ms, .slice a ws.length cap, .string to, .int .i64 rl, .bool mu, .bool fx, .string df, .string wg])) /\ Below W.heap.size W w'))
    (HB : Hid (∀ W, Calls Tryz.prog fB #[.agg #[.string nm, .int .i64 kd, .int .i64 ls, .int .i64 ms, .slice a ws.length cap, .string to, .int .i64 rl, .bool mu, .bool fx, .string df, .string wg]] W fun e w' => e = .returned (.bool B) /\ Below W.heap.size W w'))
    (HS : Hid (∀ W, Below w.heap.size w W -> Calls Tryz.prog fS #[.agg #[.string nm, .int .i64 kd, .int .i64 ls, .int .i64 ms, .slice a ws.length cap, .string to, .int .i64 rl, .bool mu, .bool fx, .string df, .string wg], .slice a0 ss.length cap0] W fun e w' => e = .returned (.bool Sn) /\ Below W.heap.size W w'))
    (HF : Hid (df.toList.isEmpty = false -> ∀ W, Below w.heap.size w W -> Calls Tryz.prog fF #[.agg #[.string nm, .int .i64 kd, .int .i64 ls, .int .i64 ms, .slice a ws.length cap, .string to, .int .i64 rl, .bool mu, .bool fx, .string df, .string wg], .string df] W fun e w' => e = .returned (.bool Ft) /\ Below W.heap.size W w')) :
    Calls Tryz.prog 203 #[.map (some r), .slice a0 ss.length cap0, .agg #[.string nm, .int .i64 kd, .int .i64 ls, .int .i64 ms, .slice a ws.length cap, .string to, .int .i64 rl, .bool mu, .bool fx, .string df, .string wg]] w
      fun e w' => e = .returned (.bool (B && Sn && (df.toList.isEmpty || Ft))) /\ Below w.heap.size w w' := by
  go_enter Tryz.func203, Tryz.ntmps203
  go_wp2_with fail
  refine (HK.out _).mono ?_
  rintro e w1 ⟨rfl, hb1⟩
  have hX1 := za (zG w _ _) (by simp) hb1
  have hz1 : w.heap.size < w1.heap.size := by have := hb1.size; simp at this; omega
  have H1 := hid (((Below.refl _ _).alloc (Nat.le_refl _) _).trans (hb1.mono (by simp)))
  clear hb1 hlk
  go_wp2_with fail
  refine (HB.out _).mono ?_
  rintro e w2 ⟨rfl, hb2⟩
  have hX2 := za hX1 hz1 hb2
  have hz2 : w.heap.size < w2.heap.size := by have := hb2.size; omega
  have H2 := hid (H1.out.trans (hb2.mono (by omega)))
  clear hb2 hX1 hz1 H1
  cases B with
  | false =>
    go_wp2_with fail
    go_ret
    exact ⟨rfl, H2.out⟩
  | true =>
    go_wp2_with fail
    refine (HS.out _ H2.out).mono ?_
    rintro e w3 ⟨rfl, hb3⟩
    have hX3 := za hX2 hz2 hb3
    have H3 := hid (H2.out.trans (hb3.mono (by omega)))
    clear hb3 hX2 hz2 H2
    cases Sn with
    | false =>
      go_wp2_with fail
      go_ret
      exact ⟨rfl, H3.out⟩
    | true =>
      rcases hd : df.toList.isEmpty with _ | _
      · go_wp2_with fail
        refine (HF.out hd _ H3.out).mono ?_
        rintro e w4 ⟨rfl, hb4⟩
        have H4 := hid (H3.out.trans (hb4.mono H3.out.size))
        clear hb4
        go_wp2_with fail
        go_ret
        exact ⟨ze (by simp [hd]), H4.out⟩
      · go_wp2_with fail
        go_ret
        exact ⟨ze (by simp [hd]), H3.out⟩
set_option maxHeartbeats 400000 in
theorem zjH (r : Nat) (nm : ByteArray) (kd ls ms : Int) (a : Option Addr) (cap : Nat) (ws : List ByteArray) (to : ByteArray) (rl : Int) (mu fx : Bool) (df wg : ByteArray) (a0 : Option Addr) (cap0 : Nat) (ss : List Shp) (w : World) (hr : w.heap[r]? = some (.map qI 4)) (h1 : kd ≠ 1) (h2 : kd ≠ 2) (h3 : kd ≠ 3) (h4 : kd ≠ 4) :
    Calls Tryz.prog 203 #[.map (some r), .slice a0 ss.length cap0, .agg #[.string nm, .int .i64 kd, .int .i64 ls, .int .i64 ms, .slice a ws.length cap, .string to, .int .i64 rl, .bool mu, .bool fx, .string df, .string wg]] w
      fun e w' => e = .returned (.bool (Gate.jT ss ⟨nm, kd, ls, ms, ws, to, rl, mu, fx, df, wg⟩)) /\ Below w.heap.size w w' := by
  have HO : Hid (Gate.jT ss ⟨nm, kd, ls, ms, ws, to, rl, mu, fx, df, wg⟩ = false) := by simp [Hid, Gate.jT, Gate.bare, Gate.qO, h1, h2, h3, h4]
  have hlt := (Array.getElem?_eq_some_iff.1 hr).1
  have hlk : ∀ o, (Instr.lookup 206 (.map (some r)) (.int .i64 kd) true).run Tryz.prog (w.alloc o) = .ok (.tuple #[.nilFunc, .bool false]) (w.alloc o) :=
    fun o => zbR Tryz.underlying206 Tryz.underlying3 (.int .i64 kd) _ rfl qI 4 (zkB kd h1 h2 h3 h4) (w.alloc o) (zku _) r ((Below.heap_alloc w o r hlt).trans hr)
  clear hr h1 h2 h3 h4
  go_enter Tryz.func203, Tryz.ntmps203
  go_wp2_with fail
  go_ret
  exact ⟨ze HO.out.symm, (Below.refl _ _).alloc (Nat.le_refl _) _⟩
theorem zm9 (r : Nat) (nm : ByteArray) (kd ls ms : Int) (a : Option Addr) (cap : Nat) (ws : List ByteArray) (to : ByteArray) (rl : Int) (mu fx : Bool) (df wg : ByteArray) (a0 : Option Addr) (cap0 : Nat) (ss : List Shp) (w : World) (hr : w.heap[r]? = some (.map qI 4)) (hdf : df.size <= maxLen) (hwg : wg.size <= maxLen) (hws : zA w a ws) (hss : yI w a0 ss) :
    Calls Tryz.prog 203 #[.map (some r), .slice a0 ss.length cap0, .agg #[.string nm, .int .i64 kd, .int .i64 ls, .int .i64 ms, .slice a ws.length cap, .string to, .int .i64 rl, .bool mu, .bool fx, .string df, .string wg]] w
      fun e w' => e = .returned (.bool (Gate.jT ss ⟨nm, kd, ls, ms, ws, to, rl, mu, fx, df, wg⟩)) /\ Below w.heap.size w w' := by
  have hlt := (Array.getElem?_eq_some_iff.1 hr).1
  by_cases h1 : kd = 1
  · subst h1
    have h := zcD r 178 246 245 247 246 (Gate.qO 1 ls ms ws.length to rl wg) (Gate.yX ss ⟨nm, 1, ls, ms, ws, to, rl, mu, fx, df, wg⟩) (Gate.fits 1 ls ms ws df) nm 1 ls ms a cap ws to rl mu fx df wg a0 cap0 ss w
      (fun o => qz Tryz.underlying206 Tryz.underlying3 (.int .i64 1) _ rfl qI 4 0 rfl (w.alloc o) r ((Below.heap_alloc w o r hlt).trans hr)) zlG zjy zfA (by intros; go_simp) (by intros; go_simp) (by intros; go_simp) (by intros; go_simp)
      (fun W => zkd _ _ _ _ _ _ _ _ _ _ _ _ _ _) (fun W => ziD _ _ _ _ _ _ _ _ _ _ _ _ _ _) (fun W hb => zhl _ _ _ _ _ _ _ _ _ _ _ _ _ _ _ _ hwg)
      (fun hd W hb => by rw [Gate.znz ls ms ws df (by intro h; rw [Gate.zu] at hd; simp [h] at hd)]; exact zep _ _ _ _ _ _ _ _ _ _ _ _ _ hdf)
    exact h
  by_cases h2 : kd = 2
  · subst h2
    have h := zcD r 179 248 248 250 249 (Gate.qO 2 ls ms ws.length to rl wg) (Gate.yX ss ⟨nm, 2, ls, ms, ws, to, rl, mu, fx, df, wg⟩) (Gate.fits 2 ls ms ws df) nm 2 ls ms a cap ws to rl mu fx df wg a0 cap0 ss w
      (fun o => qz Tryz.underlying206 Tryz.underlying3 (.int .i64 2) _ rfl qI 4 1 rfl (w.alloc o) r ((Below.heap_alloc w o r hlt).trans hr)) zkS zjP zft (by intros; go_simp) (by intros; go_simp) (by intros; go_simp) (by intros; go_simp)
      (fun W => zkt _ _ _ _ _ _ _ _ _ _ _ _ _ _) (fun W => zlx _ _ _ _ _ _ _ _ _ _ _ _ _ _) (fun W hb => zjD _ _ _ _ _ _ _ _ _ _ _ _ _ _ _ _ (hws.mono hb))
      (fun hd W hb => by rw [Gate.znM ls ms ws df (by intro h; rw [Gate.zu] at hd; simp [h] at hd)]; exact zfy _ _ _ _ _ _ _ _ _ _ _ _ _ _ _ (hws.mono hb))
    exact h
  by_cases h3 : kd = 3
  · subst h3
    have h := zcD r 180 249 253 255 254 (Gate.qO 3 ls ms ws.length to rl wg) (Gate.yX ss ⟨nm, 3, ls, ms, ws, to, rl, mu, fx, df, wg⟩) (Gate.fits 3 ls ms ws df) nm 3 ls ms a cap ws to rl mu fx df wg a0 cap0 ss w
      (fun o => qz Tryz.underlying206 Tryz.underlying3 (.int .i64 3) _ rfl qI 4 2 rfl (w.alloc o) r ((Below.heap_alloc w o r hlt).trans hr)) zly zjK zfZ (by intros; go_simp) (by intros; go_simp) (by intros; go_simp) (by intros; go_simp)
      (fun W => zky _ _ _ _ _ _ _ _ _ _ _ _ _ _) (fun W => zlb _ _ _ _ _ _ _ _ _ _ _ _ _ _) (fun W hb => zjV _ _ _ _ _ _ _ _ _ _ _ _ _ _ _ _)
      (fun hd W hb => by rw [Gate.zkH ls ms ws df (by intro h; rw [Gate.zu] at hd; simp [h] at hd)]; exact zfk _ _ _ _ _ _ _ _ _ _ _ _ _ hdf)
    exact h
  by_cases h4 : kd = 4
  · subst h4
    have h := zcD r 181 250 256 258 257 (Gate.qO 4 ls ms ws.length to rl wg) (Gate.yX ss ⟨nm, 4, ls, ms, ws, to, rl, mu, fx, df, wg⟩) (Gate.fits 4 ls ms ws df) nm 4 ls ms a cap ws to rl mu fx df wg a0 cap0 ss w
      (fun o => qz Tryz.underlying206 Tryz.underlying3 (.int .i64 4) _ rfl qI 4 3 rfl (w.alloc o) r ((Below.heap_alloc w o r hlt).trans hr)) zk4 zjU zfi (by intros; go_simp) (by intros; go_simp) (by intros; go_simp) (by intros; go_simp)
      (fun W => zka _ _ _ _ _ _ _ _ _ _ _ _ _ _) (fun W => zlK _ _ _ _ _ _ _ _ _ _ _ _ _ _) (fun W hb => zjQ _ _ _ _ _ _ _ _ _ _ _ _ _ _ _ _ (hss.mono hb))
      (fun hd W hb => by rw [Gate.zn8 ls ms ws df (by intro h; rw [Gate.zu] at hd; simp [h] at hd)]; exact zfD _ _ _ _ _ _ _ _ _ _ _ _ _ hdf)
    exact h
  exact zjH r nm kd ls ms a cap ws to rl mu fx df wg a0 cap0 ss w hr h1 h2 h3 h4
end Go.Proofs.YtfpeplbmfbepcaaGreat

namespace Go.Proofs.YtfpeplbmfbepcaaGreat
open Go.RowKit
theorem zpQ {fs : List Fld} {k : Nat} (h : k < fs.length) (hh : Gate.hasName (fs.take k) fs[k].nm = true) : (Gate.zT fs fs[k].nm != (k : Int)) = true := by
  obtain ⟨j, hj, e⟩ := Gate.zjJ fs _ k h hh
  rw [e, bne_iff_ne]; omega
theorem zpU {fs : List Fld} {k : Nat} (h : k < fs.length) (hh : Gate.hasName (fs.take k) fs[k].nm = false) : (Gate.zT fs fs[k].nm != (k : Int)) = false := by
  rw [Gate.zdz fs _ k h hh rfl]; simp
set_option maxHeartbeats 2000000 in
theorem zbY (r : Nat) (a0 : Option Addr) (cap0 : Nat) (ss : List Shp) (a : Option Addr) (cap : Nat) (fs : List Fld) (w : World) (hr : w.heap[r]? = some (.map qI 4)) (hss : yI w a0 ss) (hw : zW w a fs) :
    Calls Tryz.prog 177 #[.map (some r), .slice a0 ss.length cap0, .slice a fs.length cap] w fun e w' => e = .returned (.bool (Gate.yH ss fs)) /\ Below w.heap.size w w' := by
  have hl := hw.len
  unfold maxLen at hl
  have hrlt := (Array.getElem?_eq_some_iff.1 hr).1
  by_cases h6 : fs.length <= 6
  rotate_left
  · have HF : Hid (Gate.yH ss fs = false) := by simp [Hid, Gate.yH, h6]
    clear hw hr hss
    go_enter Tryz.func177, Tryz.ntmps177
    go_wp2
    go_ret
    exact ⟨ze HF.out.symm, Below.refl _ _⟩
  have HG : Hid (Gate.yH ss fs = Gate.up (Gate.zea ss fs) fs.length) := by simp [Hid, Gate.yH, h6]
  have h6I : (fs.length : Int) <= 6 := by omega
  go_enter Tryz.func177, Tryz.ntmps177
  go_wp2
  go_loopw [14] (fun i wr => ∃ k : Nat, k <= fs.length /\ i = .int .i64 k /\ Gate.up (Gate.zea ss fs) k = true /\ Below w.heap.size w wr) (fun i _ => fs.length - (intOf i).toNat)
  case atStart => exact ⟨0, Nat.zero_le _, rfl, rfl, Below.refl _ _⟩
  case round =>
    obtain ⟨k, hk, rfl, hup, hB⟩ := hrel
    have hsz := hB.size
    by_cases hlt : k < fs.length
    · obtain ⟨b, off, rfl, hb, hrw⟩ := hw.rows (by rintro rfl; simp at hlt)
      obtain ⟨wa, wcap, hf⟩ := hrw k hlt
      obtain ⟨c0, c1, c2, c3, c4, c5, c6, c7, c8, c9, c10⟩ := (hf.mono hb hB).load
      have hsm := hf.small
      have hst := hf.strs.mono hB
      have hfa := hw.mono hB
      have hsa := hss.mono hB
      have hra := (hB.block r hrlt).trans hr
      have HO := hid (Gate.zfB ss fs k hlt)
      have HS : Hid (Gate.zea ss fs k = true -> Gate.up (Gate.zea ss fs) (k + 1) = true) := fun h => by rw [Gate.jG, hup, h]; rfl
      have HN : Hid (Gate.zea ss fs k = false -> Gate.yH ss fs = false) := fun h => by rw [HG.out]; exact Gate.zbg hlt h
      clear hw hrw hf hup hss hr
      by_cases hn : Gate.zy fs[k].nm = true
      rotate_left
      · have HNm : Hid (Gate.zy fs[k].nm = false) := by simpa [Hid] using hn
        clear hn
        go_wp2_with fail
        refine (zw HNm.out (zR _ _ hsm.nm)).mono ?_
        rintro e w1 ⟨rfl, rfl⟩
        go_wp2_with fail
        go_ret
        exact ⟨ze (HN.out (by rw [HO.out, HNm.out]; rfl)).symm, hB.alloc hsz _⟩
      have HNm := hid hn
      clear hn
      by_cases hh : Gate.hasName (fs.take k) fs[k].nm = true
      · have HH := hid hh
        have hpl := zpQ hlt hh
        clear hh
        go_wp2_with fail
        refine (zw HNm.out (zR _ _ hsm.nm)).mono ?_
        rintro e w1 ⟨rfl, rfl⟩
        go_wp2_with fail
        refine (qG _ _ _ _ _ (hfa.mono ((Below.refl _ _).alloc (Nat.le_refl _) _))).mono ?_
        rintro e w2 ⟨rfl, hb2⟩
        have hB2 : Below w.heap.size w w2 := (hB.alloc hsz _).trans (hb2.mono (by simp; omega))
        clear hb2
        go_wp2_with fail
        go_ret
        exact ⟨ze (HN.out (by rw [HO.out, HNm.out, HH.out]; rfl)).symm, hB2⟩
      · have HH : Hid (Gate.hasName (fs.take k) fs[k].nm = false) := by simpa [Hid] using hh
        have hpl := zpU hlt HH.out
        clear hh
        by_cases hok : Gate.jT ss fs[k] = true
        all_goals
          first
            | (have HK : Hid (Gate.jT ss fs[k] = true) := hok)
            | (have HK : Hid (Gate.jT ss fs[k] = false) := by simpa [Hid] using hok)
          clear hok
          go_wp2_with fail
          refine (zw HNm.out (zR _ _ hsm.nm)).mono ?_
          rintro e w1 ⟨rfl, rfl⟩
          go_wp2_with fail
          refine (qG _ _ _ _ _ (hfa.mono ((Below.refl _ _).alloc (Nat.le_refl _) _))).mono ?_
          rintro e w2 ⟨rfl, hb2⟩
          have hX2 := za (zG wr _ _) (by simp) hb2
          have hz2 : wr.heap.size < w2.heap.size := by have := hb2.size; simp at this; omega
          have hbr2 : Below wr.heap.size wr w2 := ((Below.refl _ _).alloc (Nat.le_refl _) _).trans (hb2.mono (by simp))
          have hB2 := hB.trans (hbr2.mono hsz)
          have hra2 : w2.heap[r]? = some (.map qI 4) := (hbr2.block r (by omega)).trans hra
          clear hb2
          go_wp2_with fail
          refine (zw HK.out (zm9 _ _ _ _ _ _ _ _ _ _ _ _ _ _ _ _ _ _ hra2 hsm.df hsm.wg (hst.mono hbr2) (hsa.mono hbr2))).mono ?_
          rintro e w3 ⟨rfl, hb3⟩
          have hB3 : Below w.heap.size w w3 := hB2.trans (hb3.mono (by omega))
          clear hb3 hX2
          go_wp2_with fail
        · exact ⟨⟨k + 1, by omega, by go_num, HS.out (by rw [HO.out, HNm.out, HH.out, HK.out]; rfl), hB3⟩, by simp [intOf]; omega⟩
        · go_ret
          exact ⟨ze (HN.out (by rw [HO.out, HNm.out, HH.out, HK.out]; rfl)).symm, hB3⟩
    · have HF : Hid (Gate.yH ss fs = true) := by
        have e : k = fs.length := by omega
        subst e; rw [HG.out]; exact hup
      clear hup hw
      go_wp2
      go_ret
      exact ⟨ze HF.out.symm, hB⟩
end Go.Proofs.YtfpeplbmfbepcaaGreat
