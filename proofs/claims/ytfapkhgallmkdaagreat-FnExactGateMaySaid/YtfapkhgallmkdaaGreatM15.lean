import Derived.Test.YtfapkhgallmkdaaGreatM07
import Derived.Test.YtfapkhgallmkdaaGreatM10
import Derived.Test.YtfapkhgallmkdaaGreatM04
namespace Go.Proofs.YtfapkhgallmkdaaGreat
open Go.RowKit
set_option maxHeartbeats 1000000 in
theorem ziN (nm : ByteArray) (ls ms : Int) (a : Option Addr) (cap : Nat) (ws : List ByteArray) (to : ByteArray) (rl : Int) (mu fx : Bool) (df wg : ByteArray) (a0 : Option Addr) (cap0 : Nat) (ss : List Shp) (w : World) (hw : yH w a0 ss) :
    Calls Tryz.prog 253 #[.agg #[.string nm, .int .i64 4, .int .i64 ls, .int .i64 ms, .slice a ws.length cap, .string to, .int .i64 rl, .bool mu, .bool fx, .string df, .string wg], .slice a0 ss.length cap0] w fun e w' => e = .returned (.bool (Gate.yY ss ⟨nm, 4, ls, ms, ws, to, rl, mu, fx, df, wg⟩)) /\ Below w.heap.size w w' := by
  have HF : Hid (Gate.yY ss ⟨nm, 4, ls, ms, ws, to, rl, mu, fx, df, wg⟩ = (Gate.zF ss to && (decide (1 <= rl) && decide (rl <= 3)) && df.toList.isEmpty && (decide (rl ≠ 2) || !mu))) := by simp [Gate.yY, Hid]
  by_cases hk : Gate.zF ss to = true
  rotate_left
  · have hk' : Gate.zF ss to = false := by simpa using hk
    have HK : Hid (Gate.zF ss to = false) := hk'
    clear hk hk'
    go_enter Tryz.func253, Tryz.ntmps253
    go_wp2_with fail
    refine (qC _ _ _ _ _ (hw.mono ((Below.refl _ _).alloc (Nat.le_refl _) _))).mono ?_
    rintro e w1 ⟨fa, fcap, rfl, _, hb1⟩
    rw [HK.out]
    have hX1 := za (zG w _ _) (by simp) hb1
    have hz1 : w.heap.size < w1.heap.size := by have := hb1.size; simp at this; omega
    have hB1 : Below w.heap.size w w1 := ((Below.refl _ _).alloc (Nat.le_refl _) _).trans (hb1.mono (by simp))
    clear hb1 hw
    go_wp2_with fail
    go_ret
    exact ⟨ze (by rw [HF.out, HK.out]; rfl), hB1.alloc (by omega) _⟩
  have HK : Hid (Gate.zF ss to = true) := hk
  clear hk
  by_cases hd : df.toList.isEmpty = true
  rotate_left
  · have hd' : df.toList.isEmpty = false := by simpa using hd
    clear hd
    go_enter Tryz.func253, Tryz.ntmps253
    go_wp2_with fail
    refine (qC _ _ _ _ _ (hw.mono ((Below.refl _ _).alloc (Nat.le_refl _) _))).mono ?_
    rintro e w1 ⟨fa, fcap, rfl, _, hb1⟩
    rw [HK.out]
    have hX1 := za (zG w _ _) (by simp) hb1
    have hz1 : w.heap.size < w1.heap.size := by have := hb1.size; simp at this; omega
    have hB1 : Below w.heap.size w w1 := ((Below.refl _ _).alloc (Nat.le_refl _) _).trans (hb1.mono (by simp))
    clear hb1 hw
    go_wp2_with fail
    go_ret
    exact ⟨ze (by rw [HF.out, HK.out, hd']; simp), hB1.alloc (by omega) _⟩
  by_cases h1 : rl = 1
  · subst h1
    go_enter Tryz.func253, Tryz.ntmps253
    go_wp2_with fail
    refine (qC _ _ _ _ _ (hw.mono ((Below.refl _ _).alloc (Nat.le_refl _) _))).mono ?_
    rintro e w1 ⟨fa, fcap, rfl, _, hb1⟩
    rw [HK.out]
    have hX1 := za (zG w _ _) (by simp) hb1
    have hz1 : w.heap.size < w1.heap.size := by have := hb1.size; simp at this; omega
    have hB1 : Below w.heap.size w w1 := ((Below.refl _ _).alloc (Nat.le_refl _) _).trans (hb1.mono (by simp))
    clear hb1 hw
    go_wp2_with fail
    go_ret
    exact ⟨ze (by rw [HF.out, HK.out, hd]; rfl), hB1.alloc (by omega) _⟩
  by_cases h3 : rl = 3
  · subst h3
    go_enter Tryz.func253, Tryz.ntmps253
    go_wp2_with fail
    refine (qC _ _ _ _ _ (hw.mono ((Below.refl _ _).alloc (Nat.le_refl _) _))).mono ?_
    rintro e w1 ⟨fa, fcap, rfl, _, hb1⟩
    rw [HK.out]
    have hX1 := za (zG w _ _) (by simp) hb1
    have hz1 : w.heap.size < w1.heap.size := by have := hb1.size; simp at this; omega
    have hB1 : Below w.heap.size w w1 := ((Below.refl _ _).alloc (Nat.le_refl _) _).trans (hb1.mono (by simp))
    clear hb1 hw
    go_wp2_with fail
    go_ret
    exact ⟨ze (by rw [HF.out, HK.out, hd]; rfl), hB1.alloc (by omega) _⟩
  by_cases h2 : rl = 2
  · subst h2
    clear h1 h3
    go_enter Tryz.func253, Tryz.ntmps253
    go_wp2_with fail
    refine (qC _ _ _ _ _ (hw.mono ((Below.refl _ _).alloc (Nat.le_refl _) _))).mono ?_
    rintro e w1 ⟨fa, fcap, rfl, _, hb1⟩
    rw [HK.out]
    have hX1 := za (zG w _ _) (by simp) hb1
    have hz1 : w.heap.size < w1.heap.size := by have := hb1.size; simp at this; omega
    have hB1 : Below w.heap.size w w1 := ((Below.refl _ _).alloc (Nat.le_refl _) _).trans (hb1.mono (by simp))
    clear hb1 hw
    go_wp2_with fail
    go_ret
    exact ⟨ze (by rw [HF.out, HK.out, hd]; rfl), hB1.alloc (by omega) _⟩
  · have HR : Hid ((decide (1 <= rl) && decide (rl <= 3)) = false) := by unfold Hid; rw [Bool.eq_false_iff]; simp; omega
    have e1 : (rl == 1) = false := by simpa using h1
    have e2 : (rl == 2) = false := by simpa using h2
    have e3 : (rl == 3) = false := by simpa using h3
    clear h1 h2 h3
    go_enter Tryz.func253, Tryz.ntmps253
    go_wp2_with fail
    refine (qC _ _ _ _ _ (hw.mono ((Below.refl _ _).alloc (Nat.le_refl _) _))).mono ?_
    rintro e w1 ⟨fa, fcap, rfl, _, hb1⟩
    rw [HK.out]
    have hX1 := za (zG w _ _) (by simp) hb1
    have hz1 : w.heap.size < w1.heap.size := by have := hb1.size; simp at this; omega
    have hB1 : Below w.heap.size w w1 := ((Below.refl _ _).alloc (Nat.le_refl _) _).trans (hb1.mono (by simp))
    clear hb1 hw
    go_wp2_with fail
    go_ret
    exact ⟨ze (by rw [HF.out, HK.out, HR.out]; simp), hB1.alloc (by omega) _⟩
end Go.Proofs.YtfapkhgallmkdaaGreat

namespace Go.Proofs.YtfapkhgallmkdaaGreat
open Go.RowKit
set_option maxHeartbeats 400000 in
theorem zir (nm : ByteArray) (kd ls ms : Int) (sl : Value) (to : ByteArray) (rl : Int) (mu fx : Bool) (df wg : ByteArray) (v : ByteArray) (bn : Nat) (w : World) (hb : bn < w.heap.size) (hn : w.cell? ⟨bn, 0, none⟩ = some (.string v)) :
    Calls Tryz.prog 200 #[.agg #[.string nm, .int .i64 kd, .int .i64 ls, .int .i64 ms, sl, .string to, .int .i64 rl, .bool mu, .bool fx, .string df, .string wg], .pointer (some ⟨bn, 0, none⟩)] w fun e w' => e = .returned (.bool (nm.toList == v.toList)) /\ Below w.heap.size w w' := by
  go_enter Tryz.func200, Tryz.ntmps200
  go_wp2
  go_ret
  exact ⟨rfl, (Below.refl _ _).alloc (Nat.le_refl _) _⟩
set_option maxHeartbeats 1000000 in
theorem ziy (a : Option Addr) (cap : Nat) (fs : List Fld) (v : ByteArray) (bn : Nat) (w : World) (hw : yc w a fs) (hbn : bn < w.heap.size) (hn : w.cell? ⟨bn, 0, none⟩ = some (.string v)) :
    Calls Tryz.prog 199 #[.slice a fs.length cap, .func (.func 200) #[] #[.pointer (some ⟨bn, 0, none⟩)]] w fun e w' => e = .returned (.int .i64 (Gate.zS fs v)) /\ Below w.heap.size w w' := by
  have hl := hw.len
  unfold maxLen at hl
  go_enter Tryz.func199, Tryz.ntmps199
  go_wp2
  go_loopw [8] (fun i wr => ∃ k : Nat, k <= fs.length /\ i = .int .i64 k /\ Gate.hasName (fs.take k) v = false /\ Below w.heap.size w wr) (fun i _ => fs.length - (intOf i).toNat)
  case atStart => exact ⟨0, Nat.zero_le _, rfl, rfl, Below.refl _ _⟩
  case round =>
    obtain ⟨k, hk, rfl, hno, hB⟩ := hrel
    by_cases hlt : k < fs.length
    · obtain ⟨b, off, rfl, hb, hr⟩ := hw.rows (by rintro rfl; simp at hlt)
      obtain ⟨wa, wcap, hf⟩ := hr k hlt
      obtain ⟨c0, c1, c2, c3, c4, c5, c6, c7, c8, c9, c10⟩ := (hf.mono hb hB).load
      have hn1 := (hB.cell (p := ⟨bn, 0, none⟩) hbn).trans hn
      have hbn1 : bn < wr.heap.size := Nat.lt_of_lt_of_le hbn hB.size
      clear hw hr hf hn
      by_cases he : fs[k].nm = v
      · have HA : Hid (Gate.zS fs v = k) := Gate.zc7 fs v k hlt hno he
        have HE : Hid ((fs[k].nm.toList == v.toList) = true) := by unfold Hid; rw [Gate.beq_toList]; simpa using he
        clear he hno
        go_wp2_with fail
        refine (zk HE.out (zir _ _ _ _ _ _ _ _ _ _ _ _ _ _ hbn1 hn1)).mono ?_
        rintro e w2 ⟨rfl, hb2⟩
        go_wp2_with fail
        go_ret
        exact ⟨zh HA.out.symm, hB.trans (hb2.mono hB.size)⟩
      · have HS : Hid (Gate.hasName (fs.take (k + 1)) v = false) := by unfold Hid; rw [Gate.zc5 fs v k hlt, hno, decide_eq_false he]; rfl
        have HE : Hid ((fs[k].nm.toList == v.toList) = false) := by unfold Hid; rw [Gate.beq_toList]; simpa using he
        clear he hno
        go_wp2_with fail
        refine (zk HE.out (zir _ _ _ _ _ _ _ _ _ _ _ _ _ _ hbn1 hn1)).mono ?_
        rintro e w2 ⟨rfl, hb2⟩
        go_wp2_with fail
        exact ⟨⟨k + 1, by omega, by go_num, HS.out, hB.trans (hb2.mono hB.size)⟩, by simp [intOf]; omega⟩
    · have HA : Hid (Gate.zS fs v = -1) := Gate.zeY fs v (by rw [<- Gate.zgf fs v k (by omega)]; exact hno)
      clear hno hw
      go_wp2
      go_ret
      exact ⟨zh HA.out.symm, hB⟩
set_option maxHeartbeats 400000 in
theorem qI (a : Option Addr) (cap : Nat) (fs : List Fld) (v : ByteArray) (w : World) (hw : yc w a fs) :
    Calls Tryz.prog 177 #[.slice a fs.length cap, .string v] w fun e w' => e = .returned (.int .i64 (Gate.zS fs v)) /\ Below w.heap.size w w' := by
  go_enter Tryz.func177, Tryz.ntmps177
  go_wp2_with fail
  refine (ziy _ _ _ v _ _ (hw.mono ((Below.refl _ _).alloc (Nat.le_refl _) _)) (by simp) (by rw [World.cell?_alloc_at _ _ _ _ rfl]; rfl)).mono ?_
  rintro e w2 ⟨rfl, hb2⟩
  go_wp2_with fail
  go_ret
  exact ⟨rfl, ((Below.refl _ _).alloc (Nat.le_refl _) _).trans (hb2.mono (by simp))⟩
end Go.Proofs.YtfapkhgallmkdaaGreat

namespace Go.Proofs.YtfapkhgallmkdaaGreat
open Go.RowKit
set_option maxHeartbeats 400000 in
theorem zdU (nm : ByteArray) (kd ls ms : Int) (sl : Value) (to : ByteArray) (rl : Int) (mu fx : Bool) (df wg : ByteArray) (s : ByteArray) (w : World) (hs : s.size <= maxLen) :
    Calls Tryz.prog 241 #[.agg #[.string nm, .int .i64 kd, .int .i64 ls, .int .i64 ms, sl, .string to, .int .i64 rl, .bool mu, .bool fx, .string df, .string wg], .string s] w
      fun e w' => e = .returned (.bool (Gate.jX ls ms s)) /\ Below w.heap.size w w' := by
  by_cases hd : Gate.jS s = true
  · have HE : Hid (jV s = Gate.zeE s) := by unfold jV Hid; rw [hd]; rfl
    have HF : Hid (Gate.jX ls ms s = (decide (ls <= Gate.zeE s) && decide (Gate.zeE s <= ms))) := by unfold Gate.jX Hid; rw [hd]; rfl
    go_enter Tryz.func241, Tryz.ntmps241
    go_wp2_with (go_at_call 219; refine (zcn _ _ hs).mono ?_; rintro e w' ⟨rfl, rfl⟩)
    all_goals
      go_ret
      refine ⟨ze ?_, (Below.refl _ _).alloc (Nat.le_refl _) _⟩
      rw [HF.out]; have := HE.out; rw [Bool.eq_iff_iff]; simp; omega
  · have hd' : Gate.jS s = false := by simpa using hd
    have HF : Hid (Gate.jX ls ms s = false) := by unfold Gate.jX Hid; rw [hd']; rfl
    go_enter Tryz.func241, Tryz.ntmps241
    go_wp2_with (go_at_call 219; refine (zcn _ _ hs).mono ?_; rintro e w' ⟨rfl, rfl⟩)
    go_ret
    exact ⟨ze HF.out.symm, (Below.refl _ _).alloc (Nat.le_refl _) _⟩
end Go.Proofs.YtfapkhgallmkdaaGreat

namespace Go.Proofs.YtfapkhgallmkdaaGreat
open Go.RowKit
def qK : Array MapEntry := #[⟨.int .i64 1, .func (.func 170) #[] #[], 0⟩, ⟨.int .i64 2, .func (.func 171) #[] #[], 1⟩, ⟨.int .i64 3, .func (.func 172) #[] #[], 2⟩, ⟨.int .i64 4, .func (.func 173) #[] #[], 3⟩]
set_option maxHeartbeats 400000 in
theorem zbR (w : World) :
    Calls Tryz.prog 130 #[] w fun e w' => e = .returned (.map (some w.heap.size)) /\ w' = w.alloc (.map qK 4) := by
  have hmm := @run_makeMap Tryz.prog
  have i1 := zax (P := Tryz.prog) Tryz.underlying192 Tryz.underlying3 (.int .i64 1) (.func (.func 170) #[] #[]) rfl #[] 0 rfl
  have i2 := zax (P := Tryz.prog) Tryz.underlying192 Tryz.underlying3 (.int .i64 2) (.func (.func 171) #[] #[]) rfl #[⟨.int .i64 1, .func (.func 170) #[] #[], 0⟩] 1 rfl
  have i3 := zax (P := Tryz.prog) Tryz.underlying192 Tryz.underlying3 (.int .i64 3) (.func (.func 172) #[] #[]) rfl #[⟨.int .i64 1, .func (.func 170) #[] #[], 0⟩, ⟨.int .i64 2, .func (.func 171) #[] #[], 1⟩] 2 rfl
  have i4 := zax (P := Tryz.prog) Tryz.underlying192 Tryz.underlying3 (.int .i64 4) (.func (.func 173) #[] #[]) rfl #[⟨.int .i64 1, .func (.func 170) #[] #[], 0⟩, ⟨.int .i64 2, .func (.func 171) #[] #[], 1⟩, ⟨.int .i64 3, .func (.func 172) #[] #[], 2⟩] 3 rfl
  simp only [List.push_toArray, List.cons_append, List.nil_append, Nat.zero_add, Nat.reduceAdd] at i1 i2 i3 i4
  go_enter Tryz.func130, Tryz.ntmps130
  go_wp2
  go_ret
  exact ⟨rfl, rfl⟩
set_option maxHeartbeats 400000 in
theorem zja (nm : ByteArray) (kd ls ms : Int) (a : Option Addr) (n cap : Nat) (to : ByteArray) (rl : Int) (mu fx : Bool) (df wg : ByteArray) (w : World) :
    Calls Tryz.prog 170 #[.agg #[.string nm, .int .i64 kd, .int .i64 ls, .int .i64 ms, .slice a n cap, .string to, .int .i64 rl, .bool mu, .bool fx, .string df, .string wg]] w
      fun e w' => e = .returned (.iface 234 (.agg #[.string nm, .int .i64 kd, .int .i64 ls, .int .i64 ms, .slice a n cap, .string to, .int .i64 rl, .bool mu, .bool fx, .string df, .string wg])) /\ Below w.heap.size w w' := by
  go_enter Tryz.func170, Tryz.ntmps170
  go_wp2
  go_ret
  exact ⟨rfl, (Below.refl _ _).alloc (Nat.le_refl _) _⟩
set_option maxHeartbeats 400000 in
theorem zjq (nm : ByteArray) (kd ls ms : Int) (a : Option Addr) (n cap : Nat) (to : ByteArray) (rl : Int) (mu fx : Bool) (df wg : ByteArray) (w : World) :
    Calls Tryz.prog 171 #[.agg #[.string nm, .int .i64 kd, .int .i64 ls, .int .i64 ms, .slice a n cap, .string to, .int .i64 rl, .bool mu, .bool fx, .string df, .string wg]] w
      fun e w' => e = .returned (.iface 236 (.agg #[.string nm, .int .i64 kd, .int .i64 ls, .int .i64 ms, .slice a n cap, .string to, .int .i64 rl, .bool mu, .bool fx, .string df, .string wg])) /\ Below w.heap.size w w' := by
  go_enter Tryz.func171, Tryz.ntmps171
  go_wp2
  go_ret
  exact ⟨rfl, (Below.refl _ _).alloc (Nat.le_refl _) _⟩
set_option maxHeartbeats 400000 in
theorem zjv (nm : ByteArray) (kd ls ms : Int) (a : Option Addr) (n cap : Nat) (to : ByteArray) (rl : Int) (mu fx : Bool) (df wg : ByteArray) (w : World) :
    Calls Tryz.prog 172 #[.agg #[.string nm, .int .i64 kd, .int .i64 ls, .int .i64 ms, .slice a n cap, .string to, .int .i64 rl, .bool mu, .bool fx, .string df, .string wg]] w
      fun e w' => e = .returned (.iface 237 (.agg #[.string nm, .int .i64 kd, .int .i64 ls, .int .i64 ms, .slice a n cap, .string to, .int .i64 rl, .bool mu, .bool fx, .string df, .string wg])) /\ Below w.heap.size w w' := by
  go_enter Tryz.func172, Tryz.ntmps172
  go_wp2
  go_ret
  exact ⟨rfl, (Below.refl _ _).alloc (Nat.le_refl _) _⟩
set_option maxHeartbeats 400000 in
theorem zi7 (nm : ByteArray) (kd ls ms : Int) (a : Option Addr) (n cap : Nat) (to : ByteArray) (rl : Int) (mu fx : Bool) (df wg : ByteArray) (w : World) :
    Calls Tryz.prog 173 #[.agg #[.string nm, .int .i64 kd, .int .i64 ls, .int .i64 ms, .slice a n cap, .string to, .int .i64 rl, .bool mu, .bool fx, .string df, .string wg]] w
      fun e w' => e = .returned (.iface 238 (.agg #[.string nm, .int .i64 kd, .int .i64 ls, .int .i64 ms, .slice a n cap, .string to, .int .i64 rl, .bool mu, .bool fx, .string df, .string wg])) /\ Below w.heap.size w w' := by
  go_enter Tryz.func173, Tryz.ntmps173
  go_wp2
  go_ret
  exact ⟨rfl, (Below.refl _ _).alloc (Nat.le_refl _) _⟩
theorem zeS (x : Value) (w : World) : (method 412 234 x "loop.example/wharfgate/impl.fits").run Tryz.prog w = .ok (241, x) w := by kernel_rfl
theorem zeL (x : Value) (w : World) : (method 412 236 x "loop.example/wharfgate/impl.fits").run Tryz.prog w = .ok (244, x) w := by kernel_rfl
theorem zfh (x : Value) (w : World) : (method 412 237 x "loop.example/wharfgate/impl.fits").run Tryz.prog w = .ok (249, x) w := by kernel_rfl
theorem zeC (x : Value) (w : World) : (method 412 238 x "loop.example/wharfgate/impl.fits").run Tryz.prog w = .ok (252, x) w := by kernel_rfl
set_option maxRecDepth 20000 in
set_option maxHeartbeats 400000 in
theorem zbf (r fk T fF : Nat) (Ft : Bool) (nm : ByteArray) (kd ls ms : Int) (a : Option Addr) (cap : Nat) (ws : List ByteArray) (to : ByteArray) (rl : Int) (mu fx : Bool) (df wg : ByteArray) (v : ByteArray) (w : World)
    (hlk : ∀ o, (Instr.lookup 192 (.map (some r)) (.int .i64 kd) true).run Tryz.prog (w.alloc o) = .ok (.tuple #[.func (.func fk) #[] #[], .bool true]) (w.alloc o))
    (hm3 : ∀ x w, (method 412 T x "loop.example/wharfgate/impl.fits").run Tryz.prog w = .ok (fF, x) w)
    (hc0 : ∀ args w, (callFunc fk args).run Tryz.prog w = .ok (.enter fk args) w) (hc1 : ∀ args w, (callFunc fF args).run Tryz.prog w = .ok (.enter fF args) w)
    (HK : Hid (∀ W, Calls Tryz.prog fk #[.agg #[.string nm, .int .i64 kd, .int .i64 ls, .int .i64 ms, .slice a ws.length cap, .string to, .int .i64 rl, .bool mu, .bool fx, .string df, .string wg]] W fun e w' => e = .returned (.iface T (.agg #[.string nm, .int .i64 kd, .int .i64 ls, .int .i64 ms, .slice a ws.length cap, .string to, .int .i64 rl, .bool mu, .bool fx, .string df, .string wg])) /\ Below W.heap.size W w'))
    (HF : Hid (v.toList.isEmpty = false -> ∀ W, Below w.heap.size w W -> Calls Tryz.prog fF #[.agg #[.string nm, .int .i64 kd, .int .i64 ls, .int .i64 ms, .slice a ws.length cap, .string to, .int .i64 rl, .bool mu, .bool fx, .string df, .string wg], .string v] W fun e w' => e = .returned (.bool Ft) /\ Below W.heap.size W w')) (HE : Hid (v.toList.isEmpty = true -> Ft = false)) :
    Calls Tryz.prog 176 #[.map (some r), .agg #[.string nm, .int .i64 kd, .int .i64 ls, .int .i64 ms, .slice a ws.length cap, .string to, .int .i64 rl, .bool mu, .bool fx, .string df, .string wg], .string v] w fun e w' => e = .returned (.bool Ft) /\ Below w.heap.size w w' := by
  go_enter Tryz.func176, Tryz.ntmps176
  rcases hd : v.toList.isEmpty with _ | _
  · go_wp2_with fail
    refine (HK.out _).mono ?_
    rintro e w1 ⟨rfl, hb1⟩
    have H1 := hid (((Below.refl _ _).alloc (Nat.le_refl _) _).trans (hb1.mono (by simp)))
    clear hb1 hlk
    go_wp2_with fail
    refine (HF.out hd _ H1.out).mono ?_
    rintro e w2 ⟨rfl, hb2⟩
    have H2 := hid (H1.out.trans (hb2.mono H1.out.size))
    clear hb2
    go_wp2_with fail
    go_ret
    exact ⟨rfl, H2.out⟩
  · go_wp2_with fail
    go_ret
    exact ⟨ze (HE.out hd).symm, (Below.refl _ _).alloc (Nat.le_refl _) _⟩
theorem zjr (w : World) : (zeroValue 235).run Tryz.prog w = .ok .nilFunc w := by kernel_rfl
theorem zjy (kd : Int) (h1 : kd ≠ 1) (h2 : kd ≠ 2) (h3 : kd ≠ 3) (h4 : kd ≠ 4) : Instr.findNow (.int .i64) (.int .i64 kd) qK.toList 0 = some none := by
  have e1 : (kd == 1) = false := by simpa using h1
  have e2 : (kd == 2) = false := by simpa using h2
  have e3 : (kd == 3) = false := by simpa using h3
  have e4 : (kd == 4) = false := by simpa using h4
  simp [Instr.findNow, Instr.sameNow, qK, e1, e2, e3, e4]
set_option maxHeartbeats 400000 in
theorem zgO (r : Nat) (nm : ByteArray) (kd ls ms : Int) (a : Option Addr) (cap : Nat) (ws : List ByteArray) (to : ByteArray) (rl : Int) (mu fx : Bool) (df wg : ByteArray) (v : ByteArray) (w : World) (hr : w.heap[r]? = some (.map qK 4)) (h1 : kd ≠ 1) (h2 : kd ≠ 2) (h3 : kd ≠ 3) (h4 : kd ≠ 4) :
    Calls Tryz.prog 176 #[.map (some r), .agg #[.string nm, .int .i64 kd, .int .i64 ls, .int .i64 ms, .slice a ws.length cap, .string to, .int .i64 rl, .bool mu, .bool fx, .string df, .string wg], .string v] w
      fun e w' => e = .returned (.bool (Gate.fits kd ls ms ws v)) /\ Below w.heap.size w w' := by
  rw [Gate.zhs kd ls ms ws v h1 h2 h3 h4]
  have hlt : r < w.heap.size := (Array.getElem?_eq_some_iff.1 hr).1
  have hlk : ∀ o, (Instr.lookup 192 (.map (some r)) (.int .i64 kd) true).run Tryz.prog (w.alloc o) = .ok (.tuple #[.nilFunc, .bool false]) (w.alloc o) :=
    fun o => zbt Tryz.underlying192 Tryz.underlying3 (.int .i64 kd) _ rfl qK 4 (zjy kd h1 h2 h3 h4) (w.alloc o) (zjr _) r ((Below.heap_alloc w o r hlt).trans hr)
  clear hr h1 h2 h3 h4
  go_enter Tryz.func176, Tryz.ntmps176
  go_wp2_with fail
  go_ret
  exact ⟨rfl, (Below.refl _ _).alloc (Nat.le_refl _) _⟩
theorem zd6 (r : Nat) (nm : ByteArray) (kd ls ms : Int) (a : Option Addr) (cap : Nat) (ws : List ByteArray) (to : ByteArray) (rl : Int) (mu fx : Bool) (df wg : ByteArray) (v : ByteArray) (w : World) (hr : w.heap[r]? = some (.map qK 4)) (hv : v.size <= maxLen) (hws : zC w a ws) :
    Calls Tryz.prog 176 #[.map (some r), .agg #[.string nm, .int .i64 kd, .int .i64 ls, .int .i64 ms, .slice a ws.length cap, .string to, .int .i64 rl, .bool mu, .bool fx, .string df, .string wg], .string v] w
      fun e w' => e = .returned (.bool (Gate.fits kd ls ms ws v)) /\ Below w.heap.size w w' := by
  have hlt := (Array.getElem?_eq_some_iff.1 hr).1
  by_cases h1 : kd = 1
  · subst h1
    exact zbf r 170 234 241 (Gate.fits 1 ls ms ws v) nm 1 ls ms a cap ws to rl mu fx df wg v w
      (fun o => qw Tryz.underlying192 Tryz.underlying3 (.int .i64 1) _ rfl qK 4 0 rfl (w.alloc o) r ((Below.heap_alloc w o r hlt).trans hr)) zeS (by intros; go_simp) (by intros; go_simp)
      (fun W => zja _ _ _ _ _ _ _ _ _ _ _ _ _ _) (fun hd W hb => by rw [Gate.zmh ls ms ws v (by intro h; rw [Gate.zq] at hd; simp [h] at hd)]; exact zdU _ _ _ _ _ _ _ _ _ _ _ _ _ hv) (fun hd => Gate.jL 1 ls ms ws v (by rw [Gate.zq] at hd; simpa using hd))
  by_cases h2 : kd = 2
  · subst h2
    exact zbf r 171 236 244 (Gate.fits 2 ls ms ws v) nm 2 ls ms a cap ws to rl mu fx df wg v w
      (fun o => qw Tryz.underlying192 Tryz.underlying3 (.int .i64 2) _ rfl qK 4 1 rfl (w.alloc o) r ((Below.heap_alloc w o r hlt).trans hr)) zeL (by intros; go_simp) (by intros; go_simp)
      (fun W => zjq _ _ _ _ _ _ _ _ _ _ _ _ _ _) (fun hd W hb => by rw [Gate.zmw ls ms ws v (by intro h; rw [Gate.zq] at hd; simp [h] at hd)]; exact zeQ _ _ _ _ _ _ _ _ _ _ _ _ _ _ _ (hws.mono hb)) (fun hd => Gate.jL 2 ls ms ws v (by rw [Gate.zq] at hd; simpa using hd))
  by_cases h3 : kd = 3
  · subst h3
    exact zbf r 172 237 249 (Gate.fits 3 ls ms ws v) nm 3 ls ms a cap ws to rl mu fx df wg v w
      (fun o => qw Tryz.underlying192 Tryz.underlying3 (.int .i64 3) _ rfl qK 4 2 rfl (w.alloc o) r ((Below.heap_alloc w o r hlt).trans hr)) zfh (by intros; go_simp) (by intros; go_simp)
      (fun W => zjv _ _ _ _ _ _ _ _ _ _ _ _ _ _) (fun hd W hb => by rw [Gate.zjE ls ms ws v (by intro h; rw [Gate.zq] at hd; simp [h] at hd)]; exact zeF _ _ _ _ _ _ _ _ _ _ _ _ _ hv) (fun hd => Gate.jL 3 ls ms ws v (by rw [Gate.zq] at hd; simpa using hd))
  by_cases h4 : kd = 4
  · subst h4
    exact zbf r 173 238 252 (Gate.fits 4 ls ms ws v) nm 4 ls ms a cap ws to rl mu fx df wg v w
      (fun o => qw Tryz.underlying192 Tryz.underlying3 (.int .i64 4) _ rfl qK 4 3 rfl (w.alloc o) r ((Below.heap_alloc w o r hlt).trans hr)) zeC (by intros; go_simp) (by intros; go_simp)
      (fun W => zi7 _ _ _ _ _ _ _ _ _ _ _ _ _ _) (fun hd W hb => by rw [Gate.zmU ls ms ws v (by intro h; rw [Gate.zq] at hd; simp [h] at hd)]; exact zeW _ _ _ _ _ _ _ _ _ _ _ _ _ hv) (fun hd => Gate.jL 4 ls ms ws v (by rw [Gate.zq] at hd; simpa using hd))
  exact zgO r nm kd ls ms a cap ws to rl mu fx df wg v w hr h1 h2 h3 h4
end Go.Proofs.YtfapkhgallmkdaaGreat

namespace Go.Proofs.YtfapkhgallmkdaaGreat
open Go.RowKit
def zo (lo : Nat) (w : World) (a : Option Addr) (ws : List ByteArray) : Prop :=
  (a = none /\ ws = []) \/ ∃ g C, a = some ⟨g, 0, none⟩ /\ lo <= g /\ w.heap[g]? = some (.cells C 9) /\ ∀ i (h : i < ws.length), C[i]? = some (.string ws[i])
theorem zo.zfp {lo : Nat} {w : World} {v : Value} {ws : List ByteArray} (h : w.ownsRow lo 9 1 v ws.length (ws.map Value.string)) : ∃ a cap, v = .slice a ws.length cap /\ zo lo w a ws := by
  obtain ⟨_, ⟨rfl, h0⟩ | ⟨g, cap, cur, rfl, hg, hh, _, _, _, ht⟩⟩ := h
  · exact ⟨none, 0, by rw [h0], Or.inl ⟨rfl, List.length_eq_zero_iff.1 h0⟩⟩
  · refine ⟨some ⟨g, 0, none⟩, cap, rfl, Or.inr ⟨g, cur, rfl, hg, hh, fun i hi => ?_⟩⟩
    have h1 : (cur.toList.take (ws.length * 1))[i]? = (ws.map Value.string)[i]? := by rw [ht]
    rw [List.getElem?_take_of_lt (by omega), List.getElem?_map, List.getElem?_eq_getElem hi] at h1
    simpa using h1
theorem zo.mono {lo : Nat} {w w' : World} {a : Option Addr} {ws : List ByteArray} (h : zo lo w a ws) (hb : Below w.heap.size w w') : zo lo w' a ws := by
  rcases h with ⟨rfl, rfl⟩ | ⟨g, C, rfl, hg, hh, hc⟩
  · exact Or.inl ⟨rfl, rfl⟩
  · exact Or.inr ⟨g, C, rfl, hg, (hb.block g (Array.getElem?_eq_some_iff.1 hh).1).trans hh, hc⟩
theorem zo.at {lo : Nat} {w : World} {a : Option Addr} {ws : List ByteArray} (h : zo lo w a ws) (hl : ws.length <= maxLen) (hs : ∀ s ∈ ws, s.size <= maxLen) : zC w a ws := by
  refine ⟨hl, hs, fun hne => ?_⟩
  rcases h with ⟨_, rfl⟩ | ⟨g, C, rfl, _, hh, hc⟩
  · exact absurd rfl hne
  · refine ⟨g, 0, rfl, (Array.getElem?_eq_some_iff.1 hh).1, fun i hi => ?_⟩
    simp only [World.cell?, hh, Nat.zero_add]
    simpa using hc i hi
end Go.Proofs.YtfapkhgallmkdaaGreat

namespace Go.Proofs.YtfapkhgallmkdaaGreat
open Go.RowKit
theorem zo.setCell {lo : Nat} {w : World} {a : Option Addr} {ws : List ByteArray} (h : zo lo w a ws) (p : Addr) (hp : p.block < lo) (v : Value) : zo lo (w.setCell p v) a ws := by
  rcases h with ⟨rfl, rfl⟩ | ⟨g, C, rfl, hg, hh, hc⟩
  · exact Or.inl ⟨rfl, rfl⟩
  · exact Or.inr ⟨g, C, rfl, hg, (Below.heap_setCell _ _ _ _ (by omega)).trans hh, hc⟩
theorem zo.low {lo lo' : Nat} {w : World} {a : Option Addr} {ws : List ByteArray} (h : zo lo w a ws) (hl : lo' <= lo) : zo lo' w a ws := by
  rcases h with ⟨rfl, rfl⟩ | ⟨g, C, rfl, hg, hh, hc⟩
  · exact Or.inl ⟨rfl, rfl⟩
  · exact Or.inr ⟨g, C, rfl, by omega, hh, hc⟩
end Go.Proofs.YtfapkhgallmkdaaGreat

namespace Go.Proofs.YtfapkhgallmkdaaGreat
open Go.ChangeShapes Go.WideShapes Go.ChangeAt Go.RowKit
theorem Tryz.znu : Tryz.prog.cellsOf 95 = 1 := by kernel_rfl
theorem Tryz.zjo : Tryz.prog.cellsOf 97 = 4 := by kernel_rfl
section
variable {H : Type} {enc : TypeId × Value -> H} {w : World} {base : Nat} {spare : Nat -> Bool} {held : Bool}
theorem zno {fuel : Nat} {cs : List Value} {x : DataW H × List MemPlace} (h : DataW.trod enc Tryz.prog w base spare held fuel 95 cs = some x) :
    ∃ a cap vs, cs = [.slice a (List.length vs) cap] /\ yw w a vs := by
  obtain ⟨a, len, cap, rfl, hm, hr⟩ := zai Tryz.underlying95 Tryz.qW (by omega) h
  rcases Nat.eq_zero_or_pos len with h0 | hp
  · subst h0
    exact ⟨a, cap, [], rfl, ⟨by simp [maxLen], fun h => absurd rfl h⟩⟩
  · obtain ⟨b, off, rfl, hb, hrow⟩ := hr hp
    have hf : ∀ i, i < len -> ∃ v : Int, w.cell? ⟨b, off + i, none⟩ = some (.int .i64 v) := by
      intro i hi
      obtain ⟨es, n, y, hel, hcell, hy⟩ := hrow i hi
      obtain ⟨v, e0, _, _⟩ := DataW.trod_int Tryz.underlying3 hy
      subst e0
      exact ⟨v, by simpa using hcell 0 (by omega)⟩
    obtain ⟨vs, hl, hvs⟩ := zbk len hf
    exact ⟨_, cap, vs, by rw [hl], ⟨by omega, fun _ => ⟨b, off, rfl, hb, hvs⟩⟩⟩
theorem zns {fuel : Nat} {cs : List Value} {x : DataW H × List MemPlace} (h : DataW.trod enc Tryz.prog w base spare held fuel 97 cs = some x) :
    ∃ (r : Rl) (a : Option Addr) (cap : Nat), cs = (r.cells a cap).toList /\ r.Small /\ yw w a r.vs := by
  have hlen : cs.length = 4 := by
    obtain ⟨_, _, _, _, hl, _, _⟩ := DataW.trod_struct Tryz.underlying97 h
    rw [hl]; exact Tryz.zjo
  match cs, hlen with
  | [c0, c1, c2, c3], _ =>
    have hf := jh Tryz.underlying97 h
    obtain ⟨_, _, f0⟩ := hf 0 95 0 c0 rfl Tryz.znu rfl
    obtain ⟨_, _, f1⟩ := hf 1 9 1 c1 rfl Tryz.zJ rfl
    obtain ⟨_, _, f2⟩ := hf 2 9 2 c2 rfl Tryz.zJ rfl
    obtain ⟨_, _, f3⟩ := hf 3 9 3 c3 rfl Tryz.zJ rfl
    obtain ⟨a, cap, vs, e0, hI⟩ := zno f0
    obtain ⟨x1, e1, _, s1⟩ := DataW.trod_string Tryz.underlying9 f1
    obtain ⟨x2, e2, _, s2⟩ := DataW.trod_string Tryz.underlying9 f2
    obtain ⟨x3, e3, _, s3⟩ := DataW.trod_string Tryz.underlying9 f3
    simp only [List.cons.injEq, and_true] at e0 e1 e2 e3
    subst e0 e1 e2 e3
    exact ⟨⟨vs, x1, x2, x3⟩, a, cap, rfl, ⟨s1, s2, s3⟩, hI⟩
end
end Go.Proofs.YtfapkhgallmkdaaGreat

namespace Go.Proofs.YtfapkhgallmkdaaGreat
open Go.ChangeShapes Go.WideShapes Go.ChangeAt Go.RowKit
theorem Tryz.zoA : Tryz.prog.cellsOf 34 = 4 := by kernel_rfl
section
variable {H : Type} {enc : TypeId × Value -> H} {w : World} {base : Nat} {spare : Nat -> Bool} {held : Bool}
theorem zoz {fuel : Nat} {cs : List Value} {x : DataW H × List MemPlace} (h : DataW.trod enc Tryz.prog w base spare held fuel 34 cs = some x) :
    ∃ r : Ac, cs = r.cells.toList /\ r.Small := by
  have hlen : cs.length = 4 := by
    obtain ⟨_, _, _, _, hl, _, _⟩ := DataW.trod_struct Tryz.underlying34 h
    rw [hl]; exact Tryz.zoA
  match cs, hlen with
  | [c0, c1, c2, c3], _ =>
    have hf := jh Tryz.underlying34 h
    obtain ⟨_, _, f0⟩ := hf 0 3 0 c0 rfl Tryz.qW rfl
    obtain ⟨_, _, f1⟩ := hf 1 9 1 c1 rfl Tryz.zJ rfl
    obtain ⟨_, _, f2⟩ := hf 2 9 2 c2 rfl Tryz.zJ rfl
    obtain ⟨_, _, f3⟩ := hf 3 9 3 c3 rfl Tryz.zJ rfl
    obtain ⟨x0, e0, _, _⟩ := DataW.trod_int Tryz.underlying3 f0
    obtain ⟨x1, e1, _, s1⟩ := DataW.trod_string Tryz.underlying9 f1
    obtain ⟨x2, e2, _, s2⟩ := DataW.trod_string Tryz.underlying9 f2
    obtain ⟨x3, e3, _, s3⟩ := DataW.trod_string Tryz.underlying9 f3
    simp only [List.cons.injEq, and_true] at e0 e1 e2 e3
    subst e0 e1 e2 e3
    exact ⟨⟨x0, x1, x2, x3⟩, rfl, s1, s2, s3⟩
end
end Go.Proofs.YtfapkhgallmkdaaGreat
