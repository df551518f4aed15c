import Derived.Test.YtnbpglbbjnkhpaaGreatM07
import Derived.Test.YtnbpglbbjnkhpaaGreatM06
import Derived.Test.YtnbpglbbjnkhpaaGreatM02
import Derived.Test.YtnbpglbbjnkhpaaGreatM04
import Derived.Test.YtnbpglbbjnkhpaaGreatM05
import Derived.Deep.QuietTactic
import Derived.BigQuiet
namespace Go.Proofs.YtnbpglbbjnkhpaaGreat
open Go.RowKit
set_option maxHeartbeats 400000 in
theorem zaY (ls ms lo hi : Int) (w : World) :
    Calls Tryz.prog 124 #[.int .i64 ls, .int .i64 ms, .int .i64 lo, .int .i64 hi] w fun e w' => e = .returned (.bool (Gate.jh ls ms lo hi)) /\ w' = w := by
  go_enter Tryz.func124, Tryz.ntmps124
  go_wp2
  all_goals
    go_ret
    refine ⟨ze ?_, rfl⟩
    rw [Bool.eq_iff_iff]; simp [Gate.jh]; try omega
set_option maxHeartbeats 400000 in
theorem zba (nm : ByteArray) (kd ls ms : Int) (a : Option Addr) (n cap : Nat) (to : ByteArray) (rl : Int) (mu fx : Bool) (df wg : ByteArray) (w : World) :
    Calls Tryz.prog 217 #[.agg #[.string nm, .int .i64 kd, .int .i64 ls, .int .i64 ms, .slice a n cap, .string to, .int .i64 rl, .bool mu, .bool fx, .string df, .string wg]] w fun e w' => e = .returned (.bool (Gate.yD 1 ls ms n to rl wg)) /\ Below w.heap.size w w' := by
  go_enter Tryz.func217, Tryz.ntmps217
  go_wp2
  all_goals
    go_ret
    refine ⟨ze ?_, (Below.refl _ _).alloc (Nat.le_refl _) _⟩
    simp_all [Gate.yD]
    try (rw [Bool.eq_iff_iff]; simp)
set_option maxHeartbeats 400000 in
theorem zbL (nm : ByteArray) (kd ls ms : Int) (a : Option Addr) (n cap : Nat) (to : ByteArray) (rl : Int) (mu fx : Bool) (df wg : ByteArray) (w : World) :
    Calls Tryz.prog 220 #[.agg #[.string nm, .int .i64 kd, .int .i64 ls, .int .i64 ms, .slice a n cap, .string to, .int .i64 rl, .bool mu, .bool fx, .string df, .string wg]] w fun e w' => e = .returned (.bool (Gate.yD 2 ls ms n to rl wg)) /\ Below w.heap.size w w' := by
  go_enter Tryz.func220, Tryz.ntmps220
  go_wp2
  all_goals
    go_ret
    refine ⟨ze ?_, (Below.refl _ _).alloc (Nat.le_refl _) _⟩
    simp_all [Gate.yD]
    try (rw [Bool.eq_iff_iff]; simp)
set_option maxHeartbeats 400000 in
theorem zbR (nm : ByteArray) (kd ls ms : Int) (a : Option Addr) (n cap : Nat) (to : ByteArray) (rl : Int) (mu fx : Bool) (df wg : ByteArray) (w : World) :
    Calls Tryz.prog 225 #[.agg #[.string nm, .int .i64 kd, .int .i64 ls, .int .i64 ms, .slice a n cap, .string to, .int .i64 rl, .bool mu, .bool fx, .string df, .string wg]] w fun e w' => e = .returned (.bool (Gate.yD 3 ls ms n to rl wg)) /\ Below w.heap.size w w' := by
  go_enter Tryz.func225, Tryz.ntmps225
  go_wp2
  all_goals
    go_ret
    refine ⟨ze ?_, (Below.refl _ _).alloc (Nat.le_refl _) _⟩
    simp_all [Gate.yD]
    try (rw [Bool.eq_iff_iff]; simp)
set_option maxHeartbeats 400000 in
theorem zbP (nm : ByteArray) (kd ls ms : Int) (a : Option Addr) (n cap : Nat) (to : ByteArray) (rl : Int) (mu fx : Bool) (df wg : ByteArray) (w : World) :
    Calls Tryz.prog 228 #[.agg #[.string nm, .int .i64 kd, .int .i64 ls, .int .i64 ms, .slice a n cap, .string to, .int .i64 rl, .bool mu, .bool fx, .string df, .string wg]] w fun e w' => e = .returned (.bool (Gate.yD 4 ls ms n to rl wg)) /\ Below w.heap.size w w' := by
  go_enter Tryz.func228, Tryz.ntmps228
  go_wp2
  all_goals
    go_ret
    refine ⟨ze ?_, (Below.refl _ _).alloc (Nat.le_refl _) _⟩
    simp_all [Gate.yD]
    try (rw [Bool.eq_iff_iff]; simp)
set_option maxHeartbeats 400000 in
theorem zbF (nm : ByteArray) (ls ms : Int) (a : Option Addr) (cap : Nat) (ws : List ByteArray) (to : ByteArray) (rl : Int) (mu fx : Bool) (df wg : ByteArray) (a0 : Option Addr) (cap0 : Nat) (ss : List Shp) (w : World) (hwg : wg.size <= maxLen) :
    Calls Tryz.prog 219 #[.agg #[.string nm, .int .i64 1, .int .i64 ls, .int .i64 ms, .slice a ws.length cap, .string to, .int .i64 rl, .bool mu, .bool fx, .string df, .string wg], .slice a0 ss.length cap0] w fun e w' => e = .returned (.bool (Gate.zS ss ⟨nm, 1, ls, ms, ws, to, rl, mu, fx, df, wg⟩)) /\ Below w.heap.size w w' := by
  have HF : Hid (Gate.zS ss ⟨nm, 1, ls, ms, ws, to, rl, mu, fx, df, wg⟩ = (Gate.jh ls ms 0 1000000 && (wg.toList.isEmpty || Gate.zx wg))) := by simp [Gate.zS, Hid]
  by_cases hr : Gate.jh ls ms 0 1000000 = true
  · by_cases he : wg.toList.isEmpty = true
    · go_enter Tryz.func219, Tryz.ntmps219
      go_wp2_with (go_at_call 124; refine (zaY _ _ _ _ _).mono ?_; rintro e w' ⟨rfl, rfl⟩)
      go_ret
      exact ⟨ze (by rw [HF.out, hr, he]; rfl), (Below.refl _ _).alloc (Nat.le_refl _) _⟩
    · have he' : wg.toList.isEmpty = false := by simpa using he
      clear he
      go_enter Tryz.func219, Tryz.ntmps219
      go_wp2_with (first | (go_at_call 124; refine (zaY _ _ _ _ _).mono ?_; rintro e w' ⟨rfl, rfl⟩) | (go_at_call 108; refine (zF _ _ hwg).mono ?_; rintro e w' ⟨rfl, rfl⟩))
      go_ret
      exact ⟨ze (by rw [HF.out, hr, he']; rfl), (Below.refl _ _).alloc (Nat.le_refl _) _⟩
  · have hr' : Gate.jh ls ms 0 1000000 = false := by simpa using hr
    clear hr
    go_enter Tryz.func219, Tryz.ntmps219
    go_wp2_with (go_at_call 124; refine (zaY _ _ _ _ _).mono ?_; rintro e w' ⟨rfl, rfl⟩)
    go_ret
    exact ⟨ze (by rw [HF.out, hr']; rfl), (Below.refl _ _).alloc (Nat.le_refl _) _⟩
set_option maxHeartbeats 400000 in
theorem zcr (nm : ByteArray) (ls ms : Int) (a : Option Addr) (cap : Nat) (ws : List ByteArray) (to : ByteArray) (rl : Int) (mu fx : Bool) (df wg : ByteArray) (a0 : Option Addr) (cap0 : Nat) (ss : List Shp) (w : World) :
    Calls Tryz.prog 227 #[.agg #[.string nm, .int .i64 3, .int .i64 ls, .int .i64 ms, .slice a ws.length cap, .string to, .int .i64 rl, .bool mu, .bool fx, .string df, .string wg], .slice a0 ss.length cap0] w fun e w' => e = .returned (.bool (Gate.zS ss ⟨nm, 3, ls, ms, ws, to, rl, mu, fx, df, wg⟩)) /\ Below w.heap.size w w' := by
  have HF : Hid (Gate.zS ss ⟨nm, 3, ls, ms, ws, to, rl, mu, fx, df, wg⟩ = Gate.jh ls ms 1 40) := by simp [Gate.zS, Hid]
  go_enter Tryz.func227, Tryz.ntmps227
  go_wp2_with (go_at_call 124; refine (zaY _ _ _ _ _).mono ?_; rintro e w' ⟨rfl, rfl⟩)
  go_ret
  exact ⟨ze HF.out.symm, (Below.refl _ _).alloc (Nat.le_refl _) _⟩
set_option maxHeartbeats 400000 in
theorem zcn (nm : ByteArray) (ls ms : Int) (a : Option Addr) (cap : Nat) (ws : List ByteArray) (to : ByteArray) (rl : Int) (mu fx : Bool) (df wg : ByteArray) (a0 : Option Addr) (cap0 : Nat) (ss : List Shp) (w : World) (hw : zD w a ws) :
    Calls Tryz.prog 222 #[.agg #[.string nm, .int .i64 2, .int .i64 ls, .int .i64 ms, .slice a ws.length cap, .string to, .int .i64 rl, .bool mu, .bool fx, .string df, .string wg], .slice a0 ss.length cap0] w fun e w' => e = .returned (.bool (Gate.zS ss ⟨nm, 2, ls, ms, ws, to, rl, mu, fx, df, wg⟩)) /\ Below w.heap.size w w' := by
  have HF : Hid (Gate.zS ss ⟨nm, 2, ls, ms, ws, to, rl, mu, fx, df, wg⟩ = (decide (1 <= ws.length) && decide (ws.length <= 6) && Gate.asc ws)) := by simp [Gate.zS, Hid]
  have hl := hw.len
  unfold maxLen at hl
  by_cases h1 : 0 < ws.length
  · by_cases h6 : ws.length <= 6
    · go_enter Tryz.func222, Tryz.ntmps222
      go_wp2_with (go_at_call 196; refine (zhU _ _ _ _ (by exact hw.mono ((Below.refl _ _).alloc (Nat.le_refl _) _))).mono ?_; rintro e w' ⟨rfl, rfl⟩)
      go_ret
      exact ⟨ze (by rw [HF.out, decide_eq_true (show 1 <= ws.length by omega), decide_eq_true h6]; rfl), (Below.refl _ _).alloc (Nat.le_refl _) _⟩
    · go_enter Tryz.func222, Tryz.ntmps222
      go_wp2_with fail
      go_ret
      exact ⟨ze (by rw [HF.out, decide_eq_true (show 1 <= ws.length by omega), decide_eq_false (show ¬ ws.length <= 6 by omega)]; rfl), (Below.refl _ _).alloc (Nat.le_refl _) _⟩
  · go_enter Tryz.func222, Tryz.ntmps222
    go_wp2_with fail
    go_ret
    exact ⟨ze (by rw [HF.out, decide_eq_false (show ¬ 1 <= ws.length by omega)]; rfl), (Below.refl _ _).alloc (Nat.le_refl _) _⟩
end Go.Proofs.YtnbpglbbjnkhpaaGreat

namespace Go.Proofs.YtnbpglbbjnkhpaaGreat
open Go.RowKit
set_option maxHeartbeats 1000000 in
theorem zcq (nm : ByteArray) (ls ms : Int) (a : Option Addr) (cap : Nat) (ws : List ByteArray) (to : ByteArray) (rl : Int) (mu fx : Bool) (df wg : ByteArray) (a0 : Option Addr) (cap0 : Nat) (ss : List Shp) (w : World) (hw : yG w a0 ss) :
    Calls Tryz.prog 230 #[.agg #[.string nm, .int .i64 4, .int .i64 ls, .int .i64 ms, .slice a ws.length cap, .string to, .int .i64 rl, .bool mu, .bool fx, .string df, .string wg], .slice a0 ss.length cap0] w fun e w' => e = .returned (.bool (Gate.zS ss ⟨nm, 4, ls, ms, ws, to, rl, mu, fx, df, wg⟩)) /\ Below w.heap.size w w' := by
  have HF : Hid (Gate.zS ss ⟨nm, 4, ls, ms, ws, to, rl, mu, fx, df, wg⟩ = (Gate.zG ss to && (decide (1 <= rl) && decide (rl <= 3)) && df.toList.isEmpty && (decide (rl ≠ 2) || !mu))) := by simp [Gate.zS, Hid]
  by_cases hk : Gate.zG ss to = true
  rotate_left
  · have hk' : Gate.zG ss to = false := by simpa using hk
    have HK : Hid (Gate.zG ss to = false) := hk'
    clear hk hk'
    go_enter Tryz.func230, Tryz.ntmps230
    go_wp2_with fail
    refine (qA _ _ _ _ _ (hw.mono ((Below.refl _ _).alloc (Nat.le_refl _) _))).mono ?_
    rintro e w1 ⟨fa, fcap, rfl, _, hb1⟩
    rw [HK.out]
    have hX1 := za (zl w _ _) (by simp) hb1
    have hz1 : w.heap.size < w1.heap.size := by have := hb1.size; simp at this; omega
    have hB1 : Below w.heap.size w w1 := ((Below.refl _ _).alloc (Nat.le_refl _) _).trans (hb1.mono (by simp))
    clear hb1 hw
    go_wp2_with fail
    go_ret
    exact ⟨ze (by rw [HF.out, HK.out]; rfl), hB1.alloc (by omega) _⟩
  have HK : Hid (Gate.zG ss to = true) := hk
  clear hk
  by_cases hd : df.toList.isEmpty = true
  rotate_left
  · have hd' : df.toList.isEmpty = false := by simpa using hd
    clear hd
    go_enter Tryz.func230, Tryz.ntmps230
    go_wp2_with fail
    refine (qA _ _ _ _ _ (hw.mono ((Below.refl _ _).alloc (Nat.le_refl _) _))).mono ?_
    rintro e w1 ⟨fa, fcap, rfl, _, hb1⟩
    rw [HK.out]
    have hX1 := za (zl w _ _) (by simp) hb1
    have hz1 : w.heap.size < w1.heap.size := by have := hb1.size; simp at this; omega
    have hB1 : Below w.heap.size w w1 := ((Below.refl _ _).alloc (Nat.le_refl _) _).trans (hb1.mono (by simp))
    clear hb1 hw
    go_wp2_with fail
    go_ret
    exact ⟨ze (by rw [HF.out, HK.out, hd']; simp), hB1.alloc (by omega) _⟩
  by_cases h1 : rl = 1
  · subst h1
    go_enter Tryz.func230, Tryz.ntmps230
    go_wp2_with fail
    refine (qA _ _ _ _ _ (hw.mono ((Below.refl _ _).alloc (Nat.le_refl _) _))).mono ?_
    rintro e w1 ⟨fa, fcap, rfl, _, hb1⟩
    rw [HK.out]
    have hX1 := za (zl w _ _) (by simp) hb1
    have hz1 : w.heap.size < w1.heap.size := by have := hb1.size; simp at this; omega
    have hB1 : Below w.heap.size w w1 := ((Below.refl _ _).alloc (Nat.le_refl _) _).trans (hb1.mono (by simp))
    clear hb1 hw
    go_wp2_with fail
    go_ret
    exact ⟨ze (by rw [HF.out, HK.out, hd]; rfl), hB1.alloc (by omega) _⟩
  by_cases h3 : rl = 3
  · subst h3
    go_enter Tryz.func230, Tryz.ntmps230
    go_wp2_with fail
    refine (qA _ _ _ _ _ (hw.mono ((Below.refl _ _).alloc (Nat.le_refl _) _))).mono ?_
    rintro e w1 ⟨fa, fcap, rfl, _, hb1⟩
    rw [HK.out]
    have hX1 := za (zl w _ _) (by simp) hb1
    have hz1 : w.heap.size < w1.heap.size := by have := hb1.size; simp at this; omega
    have hB1 : Below w.heap.size w w1 := ((Below.refl _ _).alloc (Nat.le_refl _) _).trans (hb1.mono (by simp))
    clear hb1 hw
    go_wp2_with fail
    go_ret
    exact ⟨ze (by rw [HF.out, HK.out, hd]; rfl), hB1.alloc (by omega) _⟩
  by_cases h2 : rl = 2
  · subst h2
    clear h1 h3
    go_enter Tryz.func230, Tryz.ntmps230
    go_wp2_with fail
    refine (qA _ _ _ _ _ (hw.mono ((Below.refl _ _).alloc (Nat.le_refl _) _))).mono ?_
    rintro e w1 ⟨fa, fcap, rfl, _, hb1⟩
    rw [HK.out]
    have hX1 := za (zl w _ _) (by simp) hb1
    have hz1 : w.heap.size < w1.heap.size := by have := hb1.size; simp at this; omega
    have hB1 : Below w.heap.size w w1 := ((Below.refl _ _).alloc (Nat.le_refl _) _).trans (hb1.mono (by simp))
    clear hb1 hw
    go_wp2_with fail
    go_ret
    exact ⟨ze (by rw [HF.out, HK.out, hd]; rfl), hB1.alloc (by omega) _⟩
  · have HR : Hid ((decide (1 <= rl) && decide (rl <= 3)) = false) := by unfold Hid; rw [Bool.eq_false_iff]; simp; omega
    have e1 : (rl == 1) = false := by simpa using h1
    have e2 : (rl == 2) = false := by simpa using h2
    have e3 : (rl == 3) = false := by simpa using h3
    clear h1 h2 h3
    go_enter Tryz.func230, Tryz.ntmps230
    go_wp2_with fail
    refine (qA _ _ _ _ _ (hw.mono ((Below.refl _ _).alloc (Nat.le_refl _) _))).mono ?_
    rintro e w1 ⟨fa, fcap, rfl, _, hb1⟩
    rw [HK.out]
    have hX1 := za (zl w _ _) (by simp) hb1
    have hz1 : w.heap.size < w1.heap.size := by have := hb1.size; simp at this; omega
    have hB1 : Below w.heap.size w w1 := ((Below.refl _ _).alloc (Nat.le_refl _) _).trans (hb1.mono (by simp))
    clear hb1 hw
    go_wp2_with fail
    go_ret
    exact ⟨ze (by rw [HF.out, HK.out, HR.out]; simp), hB1.alloc (by omega) _⟩
end Go.Proofs.YtnbpglbbjnkhpaaGreat

namespace Go.Proofs.YtnbpglbbjnkhpaaGreat
open Go.RowKit
set_option maxHeartbeats 400000 in
theorem zhs (nm : ByteArray) (kd ls ms : Int) (sl : Value) (to : ByteArray) (rl : Int) (mu fx : Bool) (df wg : ByteArray) (v : ByteArray) (bn : Nat) (w : World) (hb : bn < w.heap.size) (hn : w.cell? ⟨bn, 0, none⟩ = some (.string v)) :
    Calls Tryz.prog 178 #[.agg #[.string nm, .int .i64 kd, .int .i64 ls, .int .i64 ms, sl, .string to, .int .i64 rl, .bool mu, .bool fx, .string df, .string wg], .pointer (some ⟨bn, 0, none⟩)] w fun e w' => e = .returned (.bool (nm.toList == v.toList)) /\ Below w.heap.size w w' := by
  go_enter Tryz.func178, Tryz.ntmps178
  go_wp2
  go_ret
  exact ⟨rfl, (Below.refl _ _).alloc (Nat.le_refl _) _⟩
set_option maxHeartbeats 1000000 in
theorem ziH (a : Option Addr) (cap : Nat) (fs : List Fld) (v : ByteArray) (bn : Nat) (w : World) (hw : zP w a fs) (hbn : bn < w.heap.size) (hn : w.cell? ⟨bn, 0, none⟩ = some (.string v)) :
    Calls Tryz.prog 177 #[.slice a fs.length cap, .func (.func 178) #[] #[.pointer (some ⟨bn, 0, none⟩)]] w fun e w' => e = .returned (.int .i64 (Gate.zN fs v)) /\ Below w.heap.size w w' := by
  have hl := hw.len
  unfold maxLen at hl
  go_enter Tryz.func177, Tryz.ntmps177
  go_wp2
  go_loopw [8] (fun i wr => ∃ k : Nat, k <= fs.length /\ i = .int .i64 k /\ Gate.hasName (fs.take k) v = false /\ Below w.heap.size w wr) (fun i _ => fs.length - (intOf i).toNat)
  case atStart => exact ⟨0, Nat.zero_le _, rfl, rfl, Below.refl _ _⟩
  case round =>
    obtain ⟨k, hk, rfl, hno, hB⟩ := hrel
    by_cases hlt : k < fs.length
    · obtain ⟨b, off, rfl, hb, hr⟩ := hw.rows (by rintro rfl; simp at hlt)
      obtain ⟨wa, wcap, hf⟩ := hr k hlt
      obtain ⟨c0, c1, c2, c3, c4, c5, c6, c7, c8, c9, c10⟩ := (hf.mono hb hB).load
      have hn1 := (hB.cell (p := ⟨bn, 0, none⟩) hbn).trans hn
      have hbn1 : bn < wr.heap.size := Nat.lt_of_lt_of_le hbn hB.size
      clear hw hr hf hn
      by_cases he : fs[k].nm = v
      · have HA : Hid (Gate.zN fs v = k) := Gate.zdd fs v k hlt hno he
        have HE : Hid ((fs[k].nm.toList == v.toList) = true) := by unfold Hid; rw [Gate.beq_toList]; simpa using he
        clear he hno
        go_wp2_with fail
        refine (zf HE.out (zhs _ _ _ _ _ _ _ _ _ _ _ _ _ _ hbn1 hn1)).mono ?_
        rintro e w2 ⟨rfl, hb2⟩
        go_wp2_with fail
        go_ret
        exact ⟨zo HA.out.symm, hB.trans (hb2.mono hB.size)⟩
      · have HS : Hid (Gate.hasName (fs.take (k + 1)) v = false) := by unfold Hid; rw [Gate.zc1 fs v k hlt, hno, decide_eq_false he]; rfl
        have HE : Hid ((fs[k].nm.toList == v.toList) = false) := by unfold Hid; rw [Gate.beq_toList]; simpa using he
        clear he hno
        go_wp2_with fail
        refine (zf HE.out (zhs _ _ _ _ _ _ _ _ _ _ _ _ _ _ hbn1 hn1)).mono ?_
        rintro e w2 ⟨rfl, hb2⟩
        go_wp2_with fail
        exact ⟨⟨k + 1, by omega, by go_num, HS.out, hB.trans (hb2.mono hB.size)⟩, by simp [intOf]; omega⟩
    · have HA : Hid (Gate.zN fs v = -1) := Gate.ze1 fs v (by rw [<- Gate.zgn fs v k (by omega)]; exact hno)
      clear hno hw
      go_wp2
      go_ret
      exact ⟨zo HA.out.symm, hB⟩
set_option maxHeartbeats 400000 in
theorem q9 (a : Option Addr) (cap : Nat) (fs : List Fld) (v : ByteArray) (w : World) (hw : zP w a fs) :
    Calls Tryz.prog 154 #[.slice a fs.length cap, .string v] w fun e w' => e = .returned (.int .i64 (Gate.zN fs v)) /\ Below w.heap.size w w' := by
  go_enter Tryz.func154, Tryz.ntmps154
  go_wp2_with fail
  refine (ziH _ _ _ v _ _ (hw.mono ((Below.refl _ _).alloc (Nat.le_refl _) _)) (by simp) (by rw [World.cell?_alloc_at _ _ _ _ rfl]; rfl)).mono ?_
  rintro e w2 ⟨rfl, hb2⟩
  go_wp2_with fail
  go_ret
  exact ⟨rfl, ((Below.refl _ _).alloc (Nat.le_refl _) _).trans (hb2.mono (by simp))⟩
end Go.Proofs.YtnbpglbbjnkhpaaGreat

namespace Go.Proofs.YtnbpglbbjnkhpaaGreat
open Go.RowKit
theorem zav {w w' : World} {base : Nat} {e : TypeId} {size : Nat} {v : Value} {n : Nat} {xs : List Value} (h : w.ownsRow base e size v n xs) (hb : ∀ g, v.ownBlock = some g -> w'.heap[g]? = w.heap[g]?) : w'.ownsRow base e size v n xs := by
  obtain ⟨h0, h1 | ⟨g, cap, cur, rfl, h2, h3, h4⟩⟩ := h
  · exact ⟨h0, Or.inl h1⟩
  · exact ⟨h0, Or.inr ⟨g, cap, cur, rfl, h2, (hb g rfl).trans h3, h4⟩⟩
theorem qX {w w' : World} {base : Nat} {e : TypeId} {size : Nat} {v : Value} {n : Nat} {xs : List Value} (h : w.ownsRow base e size v n xs) (hb : Below w.heap.size w w') : w'.ownsRow base e size v n xs :=
  zav h fun g hg => hb.block g (h.lt g hg).2
theorem zb8 {w : World} {base base' : Nat} {e : TypeId} {size : Nat} {v : Value} {n : Nat} {xs : List Value} (h : w.ownsRow base e size v n xs) (hb : base' <= base) : w.ownsRow base' e size v n xs := by
  obtain ⟨h0, h1 | ⟨g, cap, cur, rfl, h2, h3, h4⟩⟩ := h
  · exact ⟨h0, Or.inl h1⟩
  · exact ⟨h0, Or.inr ⟨g, cap, cur, rfl, Nat.le_trans hb h2, h3, h4⟩⟩
theorem zdY (w : World) (x : Value) (t : TypeId) : ∀ j u, [x][j]? = some u -> (w.alloc (.cells #[x] t)).cell? ((⟨w.heap.size, 0, none⟩ : Addr).add j) = some u := by
  intro j u hj
  rcases j with _ | j
  · have e : (⟨w.heap.size, 0, none⟩ : Addr).add 0 = ⟨w.heap.size, 0, none⟩ := rfl
    rw [e, World.cell?_alloc_at (hn := rfl)]
    simpa using hj
  · simp at hj
theorem zao {w w1 : World} {row : Option Nat} {b : Nat} (hg : w.grownBy w1 row) (hb : b < w.heap.size) (h : ∀ g, row = some g -> b ≠ g) : w1.heap[b]? = w.heap[b]? :=
  hg.block b hb (fun e => h b e.symm rfl)
theorem zcc {B : Nat} {w0 w w1 : World} {v x : Value} {t : TypeId} (h : Below B w0 w) (hB : B <= w.heap.size) (hg : (w.alloc (.cells #[x] t)).grownBy w1 v.ownBlock) (hr : ∀ k, v.ownBlock = some k -> B <= k) : Below B w0 w1 :=
  (h.alloc hB _).grown hg (by simp; omega) hr
namespace Gate
def isSet (s : ByteArray) : Bool := !s.toList.isEmpty
def zK (m : Mnd) : List ByteArray := [m.wh, m.fr].filter isSet
def turns (m : Mnd) (s : Shp) (p : Nat) : Bool := decide (m.kd = s.kd) && decide (m.fd = (s.fs.getD p za1).nm)
end Gate
theorem Tryz.zjV : (Tryz.prog.info? 3).map (fun i => (i.zero, i.size, i.bytes)) = some (some (.int .i64 0), 1, 8) := by kernel_rfl
set_option maxRecDepth 20000 in
set_option maxHeartbeats 2000000 in
theorem zea (m : Mnd) (w : World) :
    Calls Tryz.prog 152 #[.agg m.cells] w fun e w' => ∃ v, e = .returned v /\ w'.ownsRow w.heap.size 9 1 v (Gate.zK m).length ((Gate.zK m).map Value.string) /\ Below w.heap.size w w' := by
  unfold Mnd.cells
  obtain ⟨i0, hi, hz0, hz1', hz2⟩ := info_parts Tryz.zb1
  go_enter Tryz.func152, Tryz.ntmps152
  go_wp2_with fail
  go_loopw [3, 12] (fun nv0 iv wr => ∃ (k : Nat) (nv : Value), nv = nv0 /\ k <= 2 /\ iv = .int .i64 k /\ wr.ownsRow (w.heap.size + 2) 9 1 nv (([m.wh, m.fr].take k).filter Gate.isSet).length ((([m.wh, m.fr].take k).filter Gate.isSet).map Value.string) /\ wr.heap[w.heap.size + 1]? = some (.cells #[.string m.wh, .string m.fr] 9) /\ Below w.heap.size w wr) (fun _ iv _ => 2 - (intOf iv).toNat)
  case atStart => exact ⟨0, _, rfl, by omega, rfl, World.ownsRow_nil _ _ _ _, (yh _ _ _).2, zB _ _ _⟩
  case round =>
    obtain ⟨k, nv, hnv, hk, rfl, hown, hlit, hB⟩ := hrel
    subst hnv
    by_cases hlt : k < 2
    · have hltI : (k : Int) < 2 := by omega
      obtain ⟨x, hx, HT⟩ : ∃ x, (#[.string m.wh, .string m.fr] : Array Value)[k]? = some (.string x) /\ Hid (([m.wh, m.fr].take (k + 1)).filter Gate.isSet = ([m.wh, m.fr].take k).filter Gate.isSet ++ if Gate.isSet x = true then [x] else []) := by
        rcases k with _ | _ | k
        · refine ⟨m.wh, rfl, ?_⟩
          by_cases h : Gate.isSet m.wh = true <;> simp [Hid, h]
        · refine ⟨m.fr, rfl, ?_⟩
          by_cases h : Gate.isSet m.fr = true <;> by_cases h' : Gate.isSet m.wh = true <;> simp [Hid, h, h']
        · omega
      have hcx : wr.cell? ⟨w.heap.size + 1, k, none⟩ = some (.string x) := by rw [cell_of_block hlit]; exact hx
      have hlen : (([m.wh, m.fr].take k).filter Gate.isSet).length <= 2 := Nat.le_trans (List.length_filter_le _ _) (by simp; omega)
      have HB : Hid (wr.heap[w.heap.size + 1]? = some (.cells #[.string m.wh, .string m.fr] 9) /\ Below w.heap.size w wr /\ w.heap.size + 1 < wr.heap.size) := ⟨hlit, hB, (Array.getElem?_eq_some_iff.1 hlit).1⟩
      have HW : Hid (wr.ownsRow (w.heap.size + 2) 9 1 nv (([m.wh, m.fr].take k).filter Gate.isSet).length ((([m.wh, m.fr].take k).filter Gate.isSet).map Value.string)) := hown
      clear hlit hB hx hown
      by_cases hs : x.toList.isEmpty = true
      · have HE : Hid (Gate.isSet x = false) := by unfold Hid Gate.isSet; rw [hs]; rfl
        go_wp2_with fail
        have HT' : ([m.wh, m.fr].take (k + 1)).filter Gate.isSet = ([m.wh, m.fr].take k).filter Gate.isSet := by rw [HT.out, HE.out]; simp
        exact ⟨⟨k + 1, _, rfl, by omega, by go_num, by rw [HT']; exact HW.out, HB.out.1, HB.out.2.1⟩, zw hlt⟩
      · have hs' : x.toList.isEmpty = false := by simpa using hs
        have HE : Hid (Gate.isSet x = true) := by unfold Hid Gate.isSet; rw [hs']; rfl
        clear hs
        go_wp2_with (at_builtin; refine wpList_append_own _ rfl (.tmp 18) (.tmp 20) 87 rfl (w.heap.size + 2) 9 i0 (.string ByteArray.empty) 1 16 Tryz.underlying87 hi hz0 hz1' hz2 rfl (by decide) _ _ _ rfl (HW.out.alloc _) ⟨wr.heap.size, 0, none⟩ 1 1 [.string x] rfl rfl (zdY _ _ _) (by intro u hu; simp at hu; subst hu; rfl) (by unfold maxLen; omega) (by omega) (by have := HB.out.2.2; simp; omega) ?_; intro v' w1 hown' hgr _)
        have HT' : ([m.wh, m.fr].take (k + 1)).filter Gate.isSet = ([m.wh, m.fr].take k).filter Gate.isSet ++ [x] := by rw [HT.out, HE.out]; simp
        have hgb : ∀ g, nv.ownBlock = some g -> w.heap.size + 2 <= g := fun g hg => (HW.out.lt g hg).1
        refine ⟨⟨k + 1, _, rfl, by omega, by go_num, ?_, ?_, zcc HB.out.2.1 HB.out.2.1.size hgr (fun g hg => by have := hgb g hg; omega)⟩, zw hlt⟩
        · rw [HT', List.length_append, List.map_append]; exact hown'
        · rw [zao hgr (by have := HB.out.2.2; simp; omega) (fun g hg => by have := hgb g hg; omega), Below.heap_alloc _ _ _ HB.out.2.2]; exact HB.out.1
    · have e : k = 2 := by omega
      subst e
      have HF : Hid (wr.ownsRow w.heap.size 9 1 nv (Gate.zK m).length ((Gate.zK m).map Value.string) /\ Below w.heap.size w wr) := ⟨zb8 hown (by omega), hB⟩
      clear hown hlit hB
      go_wp2_with fail
      go_ret
      exact ⟨nv, rfl, HF.out⟩
set_option maxHeartbeats 1000000 in
theorem zjd (m : Mnd) (s : Shp) (fa : Option Addr) (fcap p : Nat) (w : World) (hf : zP w fa s.fs) (hp : p < s.fs.length) :
    Calls Tryz.prog 157 #[.agg m.cells, .agg #[.string s.kd, .slice fa s.fs.length fcap], .int .i64 p] w fun e w' => e = .returned (.bool (Gate.turns m s p)) /\ Below w.heap.size w w' := by
  unfold Mnd.cells
  have hB : ∀ o1 o2, Below w.heap.size w ((w.alloc o1).alloc o2) := fun o1 o2 => zB w o1 o2
  have hl := hf.len
  unfold maxLen at hl
  obtain ⟨b, off, rfl, hb, hr⟩ := hf.rows (by intro e; rw [e] at hp; simp at hp)
  obtain ⟨wa, wcap, hf0⟩ := hr p hp
  obtain ⟨c0, c1, c2, c3, c4, c5, c6, c7, c8, c9, c10⟩ := hf0.load
  have hpI : (p : Int) < (s.fs.length : Int) := by omega
  have HD : Hid ((s.fs.getD p Gate.za1).nm = s.fs[p].nm) := by unfold Hid; rw [Gate.getD_at _ _ _ hp]
  clear hf hr hf0 c1 c2 c3 c4 c5 c6 c7 c8 c9 c10
  by_cases h1 : m.kd = s.kd
  · by_cases h2 : m.fd = s.fs[p].nm
    · have HR : Hid (Gate.turns m s p = true) := by unfold Hid Gate.turns; rw [HD.out]; simp [h1, h2]
      have hq : (m.kd.toList == s.kd.toList) = true := by rw [Gate.beq_toList]; simpa using h1
      have hr : (m.fd.toList == s.fs[p].nm.toList) = true := by rw [Gate.beq_toList]; simpa using h2
      clear h1 h2
      go_enter Tryz.func157, Tryz.ntmps157
      go_wp2_with fail
      go_quiet (fail)
      go_wp2_with fail
      go_ret
      exact ⟨by rw [HR.out]; rfl, below_drewN (hB _ _) _⟩
    · have HR : Hid (Gate.turns m s p = false) := by unfold Hid Gate.turns; rw [HD.out]; simp [h1, h2]
      have hq : (m.kd.toList == s.kd.toList) = true := by rw [Gate.beq_toList]; simpa using h1
      have hr : (m.fd.toList == s.fs[p].nm.toList) = false := by rw [Gate.beq_toList]; simpa using h2
      clear h1 h2
      go_enter Tryz.func157, Tryz.ntmps157
      go_wp2_with fail
      go_quiet (fail)
      go_wp2_with fail
      go_ret
      exact ⟨by rw [HR.out]; rfl, below_drewN (hB _ _) _⟩
  · have HR : Hid (Gate.turns m s p = false) := by unfold Hid Gate.turns; rw [HD.out]; simp [h1]
    have hq : (m.kd.toList == s.kd.toList) = false := by rw [Gate.beq_toList]; simpa using h1
    clear h1
    go_enter Tryz.func157, Tryz.ntmps157
    go_wp2_with fail
    go_quiet (fail)
    go_wp2_with fail
    go_ret
    exact ⟨by rw [HR.out]; rfl, below_drewN (hB _ _) _⟩
end Go.Proofs.YtnbpglbbjnkhpaaGreat
