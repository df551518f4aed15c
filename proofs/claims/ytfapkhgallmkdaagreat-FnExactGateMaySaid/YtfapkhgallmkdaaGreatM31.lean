import Derived.Test.YtfapkhgallmkdaaGreatM13
import Derived.Test.YtfapkhgallmkdaaGreatM24
import Derived.Test.YtfapkhgallmkdaaGreatM06
import Derived.Test.YtfapkhgallmkdaaGreatM04
import Derived.Test.YtfapkhgallmkdaaGreatM25
import Derived.Test.YtfapkhgallmkdaaGreatM07
namespace Go.Proofs.YtfapkhgallmkdaaGreat
open Go.RowKit
set_option maxHeartbeats 1000000 in
theorem zl9 (nm : ByteArray) (ls ms : Int) (a : Option Addr) (n cap : Nat) (to : ByteArray) (rl : Int) (mu fx : Bool) (df wg : ByteArray) (w : World) :
    Calls Tryz.prog 197 #[.agg #[.string nm, .int .i64 1, .int .i64 ls, .int .i64 ms, .slice a n cap, .string to, .int .i64 rl, .bool mu, .bool fx, .string df, .string wg]] w fun e w' => e = .returned (.bool (Gate.qP 1 ls ms n to rl wg)) /\ Below w.heap.size w w' := by
  go_enter Tryz.func197, Tryz.ntmps197
  go_wp2
  all_goals
    go_ret
    refine ⟨ze ?_, (Below.refl _ _).alloc (Nat.le_refl _) _⟩
    simp_all [Gate.qP]
    try first | omega | (intros; omega) | (rw [Bool.eq_iff_iff]; simp)
set_option maxHeartbeats 1000000 in
theorem zmP (nm : ByteArray) (ls ms : Int) (a : Option Addr) (n cap : Nat) (to : ByteArray) (rl : Int) (mu fx : Bool) (df wg : ByteArray) (w : World) :
    Calls Tryz.prog 197 #[.agg #[.string nm, .int .i64 2, .int .i64 ls, .int .i64 ms, .slice a n cap, .string to, .int .i64 rl, .bool mu, .bool fx, .string df, .string wg]] w fun e w' => e = .returned (.bool (Gate.qP 2 ls ms n to rl wg)) /\ Below w.heap.size w w' := by
  go_enter Tryz.func197, Tryz.ntmps197
  go_wp2
  all_goals
    go_ret
    refine ⟨ze ?_, (Below.refl _ _).alloc (Nat.le_refl _) _⟩
    simp_all [Gate.qP]
    try first | omega | (intros; omega) | (rw [Bool.eq_iff_iff]; simp)
set_option maxHeartbeats 1000000 in
theorem zmd (nm : ByteArray) (ls ms : Int) (a : Option Addr) (n cap : Nat) (to : ByteArray) (rl : Int) (mu fx : Bool) (df wg : ByteArray) (w : World) :
    Calls Tryz.prog 197 #[.agg #[.string nm, .int .i64 3, .int .i64 ls, .int .i64 ms, .slice a n cap, .string to, .int .i64 rl, .bool mu, .bool fx, .string df, .string wg]] w fun e w' => e = .returned (.bool (Gate.qP 3 ls ms n to rl wg)) /\ Below w.heap.size w w' := by
  go_enter Tryz.func197, Tryz.ntmps197
  go_wp2
  all_goals
    go_ret
    refine ⟨ze ?_, (Below.refl _ _).alloc (Nat.le_refl _) _⟩
    simp_all [Gate.qP]
    try first | omega | (intros; omega) | (rw [Bool.eq_iff_iff]; simp)
set_option maxHeartbeats 1000000 in
theorem zma (nm : ByteArray) (ls ms : Int) (a : Option Addr) (n cap : Nat) (to : ByteArray) (rl : Int) (mu fx : Bool) (df wg : ByteArray) (w : World) :
    Calls Tryz.prog 197 #[.agg #[.string nm, .int .i64 4, .int .i64 ls, .int .i64 ms, .slice a n cap, .string to, .int .i64 rl, .bool mu, .bool fx, .string df, .string wg]] w fun e w' => e = .returned (.bool (Gate.qP 4 ls ms n to rl wg)) /\ Below w.heap.size w w' := by
  go_enter Tryz.func197, Tryz.ntmps197
  go_wp2
  all_goals
    go_ret
    refine ⟨ze ?_, (Below.refl _ _).alloc (Nat.le_refl _) _⟩
    simp_all [Gate.qP]
    try first | omega | (intros; omega) | (rw [Bool.eq_iff_iff]; simp)
set_option maxHeartbeats 1000000 in
theorem zhl (nm : ByteArray) (kd ls ms : Int) (a : Option Addr) (n cap : Nat) (to : ByteArray) (rl : Int) (mu fx : Bool) (df wg : ByteArray) (w : World) (h1 : kd ≠ 1) (h2 : kd ≠ 2) (h3 : kd ≠ 3) (h4 : kd ≠ 4) :
    Calls Tryz.prog 197 #[.agg #[.string nm, .int .i64 kd, .int .i64 ls, .int .i64 ms, .slice a n cap, .string to, .int .i64 rl, .bool mu, .bool fx, .string df, .string wg]] w fun e w' => ∃ b, e = .returned (.bool b) /\ Below w.heap.size w w' := by
  have e1 : (kd == 1) = false := by simpa using h1
  have e2 : (kd == 2) = false := by simpa using h2
  have e3 : (kd == 3) = false := by simpa using h3
  have e4 : (kd == 4) = false := by simpa using h4
  have n1 : (kd != 1) = true := by simpa using h1
  have n2 : (kd != 2) = true := by simpa using h2
  clear h1 h2 h3 h4
  go_enter Tryz.func197, Tryz.ntmps197
  go_wp2
  all_goals
    go_ret
    exact ⟨_, rfl, (Below.refl _ _).alloc (Nat.le_refl _) _⟩
end Go.Proofs.YtfapkhgallmkdaaGreat

namespace Go.Proofs.YtfapkhgallmkdaaGreat
open Go.RowKit
namespace Gate
def jQ (f : Fld) (v : ByteArray) : ByteArray := if v.toList.isEmpty = true then f.df else v
def jG (fs : List Fld) (vs : List ByteArray) : List ByteArray := List.zipWith jQ fs vs
def qJ (fs : List Fld) (vs : List ByteArray) (k : Nat) : List ByteArray := (jG fs vs).take k ++ vs.drop k
theorem y5 {fs : List Fld} {vs : List ByteArray} (h : vs.length = fs.length) : (jG fs vs).length = vs.length := by simp [jG]; omega
theorem jU {fs : List Fld} {vs : List ByteArray} (h : vs.length = fs.length) (k : Nat) : (qJ fs vs k).length = vs.length := by
  simp [qJ, y5 h]; omega
theorem zge (fs : List Fld) (vs : List ByteArray) : qJ fs vs 0 = vs := by simp [qJ]
theorem zhv {fs : List Fld} {vs : List ByteArray} (h : vs.length = fs.length) : qJ fs vs fs.length = jG fs vs := by
  unfold qJ
  rw [List.take_of_length_le (by rw [y5 h]; omega), List.drop_of_length_le (by omega), List.append_nil]
theorem zdX {fs : List Fld} {vs : List ByteArray} (h : vs.length = fs.length) (k : Nat) (hk : k < fs.length) : (qJ fs vs k)[k]? = vs[k]? := by
  unfold qJ
  rw [List.getElem?_append_right (by simp; omega)]
  simp [y5 h, Nat.min_eq_left (show k <= vs.length by omega)]
theorem zcg {fs : List Fld} {vs : List ByteArray} (h : vs.length = fs.length) (k : Nat) (hk : k < fs.length) : qJ fs vs (k + 1) = (qJ fs vs k).set k (jQ fs[k] (vs[k]'(by omega))) := by
  have hl := y5 h
  have hv : (jG fs vs)[k]'(by omega) = jQ fs[k] (vs[k]'(by omega)) := by simp [jG]
  unfold qJ
  rw [List.set_append_right _ _ (by simp; omega)]
  have e : k - ((jG fs vs).take k).length = 0 := by simp; omega
  rw [e, List.drop_eq_getElem_cons (show k < vs.length by omega), List.set_cons_zero, List.take_succ_eq_append_getElem (by omega), hv]
  simp
end Gate
theorem zo.set {lo : Nat} {w : World} {g : Nat} {ws : List ByteArray} (h : zo lo w (some ⟨g, 0, none⟩) ws) (k : Nat) (s : ByteArray) : zo lo (w.setCell ⟨g, k, none⟩ (.string s)) (some ⟨g, 0, none⟩) (ws.set k s) := by
  rcases h with ⟨h0, _⟩ | ⟨b, C, h0, hg, hh, hc⟩
  · cases h0
  · cases h0
    refine Or.inr ⟨g, _, rfl, hg, zf hh _, fun i hi => ?_⟩
    have hi' : i < ws.length := by rw [List.length_set] at hi; exact hi
    by_cases e : i = k
    · subst e
      have hsz : i < C.size := by
        rcases Nat.lt_or_ge i C.size with h1 | h1
        · exact h1
        · have := hc i hi'; rw [Array.getElem?_eq_none h1] at this; cases this
      rw [Array.getElem?_setIfInBounds_self_of_lt hsz, List.getElem_set_self]
    · rw [Array.getElem?_setIfInBounds_ne (fun h => e h.symm), hc i hi', List.getElem_set_ne (fun h => e h.symm)]
def zo8 (w : World) (b : Nat) (v0 v1 v2 v3 v4 v5 v6 : Value) : World := ((((((w.setCell ⟨b, 0, none⟩ v0).setCell ⟨b, 1, none⟩ v1).setCell ⟨b, 2, none⟩ v2).setCell ⟨b, 3, none⟩ v3).setCell ⟨b, 4, none⟩ v4).setCell ⟨b, 5, none⟩ v5).setCell ⟨b, 6, none⟩ v6
theorem qZ {lo : Nat} {w : World} {a : Option Addr} {ws : List ByteArray} (h : zo lo w a ws) (b : Nat) (hb : b < lo) (v0 v1 v2 v3 v4 v5 v6 : Value) : zo lo (zo8 w b v0 v1 v2 v3 v4 v5 v6) a ws :=
  ((((((h.setCell _ hb _).setCell _ hb _).setCell _ hb _).setCell _ hb _).setCell _ hb _).setCell _ hb _).setCell _ hb _
theorem zad {B : Nat} {w0 w : World} (h : Below B w0 w) (b : Nat) (hb : B <= b) (v0 v1 v2 v3 v4 v5 v6 : Value) : Below B w0 (zo8 w b v0 v1 v2 v3 v4 v5 v6) :=
  ((((((h.setCell (p := ⟨b, 0, none⟩) hb _).setCell (p := ⟨b, 1, none⟩) hb _).setCell (p := ⟨b, 2, none⟩) hb _).setCell (p := ⟨b, 3, none⟩) hb _).setCell (p := ⟨b, 4, none⟩) hb _).setCell (p := ⟨b, 5, none⟩) hb _).setCell (p := ⟨b, 6, none⟩) hb _
end Go.Proofs.YtfapkhgallmkdaaGreat

namespace Go.Proofs.YtfapkhgallmkdaaGreat
open Go.RowKit
def zjK (c p : Int) : Value := if c = 0 then .nilIface else .iface 275 (.agg #[.int .i64 c, .int .i64 p])
set_option maxHeartbeats 400000 in
theorem zg4 (w : World) : Calls Tryz.prog 215 #[.bool true] w fun e w' => e = .returned .nilIface /\ w' = w := by
  go_enter Tryz.func215, Tryz.ntmps215
  go_wp2
  go_ret
  exact ⟨rfl, rfl⟩
set_option maxHeartbeats 400000 in
theorem zh5 (w : World) : Calls Tryz.prog 215 #[.bool false] w fun e w' => e = .returned (.iface 275 (.agg #[.int .i64 1, .int .i64 0])) /\ w' = w := by
  go_enter Tryz.func215, Tryz.ntmps215
  go_wp2
  go_ret
  exact ⟨rfl, rfl⟩
def qX (b : Bool) : Value := if b then .nilIface else .iface 275 (.agg #[.int .i64 1, .int .i64 0])
theorem qN (b : Bool) (w : World) : Calls Tryz.prog 215 #[.bool b] w fun e w' => e = .returned (qX b) /\ w' = w := by
  cases b
  · exact zh5 w
  · exact zg4 w
theorem zca {a b : Bool} (h : a = b) : Ending.returned (qX a) = .returned (qX b) := by rw [h]
set_option maxHeartbeats 1000000 in
theorem zdO (a0 : Option Addr) (cap0 : Nat) (ss : List Shp) (o : Ob) (a a' : Option Addr) (cap cap' : Nat) (w : World) (ho : jg w o a a') :
    Calls Tryz.prog 204 #[.slice a0 ss.length cap0, .agg (oC o a a' cap cap')] w fun e w' => e = .returned (qX (Gate.yX o)) /\ Below w.heap.size w w' := by
  have h1 := ho.small.nm
  have h2 := ho.small.tm
  by_cases hn : Gate.zy o.nm = true
  · have HN : Hid (Gate.zy o.nm = true) := hn
    clear hn ho
    go_enter Tryz.func204, Tryz.ntmps204
    go_wp2_with fail
    refine (zk HN.out (zN _ _ h1)).mono ?_
    rintro e w1 ⟨rfl, rfl⟩
    go_wp2_with fail
    refine (zN _ _ h2).mono ?_
    rintro e w1 ⟨rfl, rfl⟩
    go_wp2_with fail
    refine (qN _ _).mono ?_
    rintro e w1 ⟨rfl, rfl⟩
    go_wp2_with fail
    go_ret
    exact ⟨zca (by unfold Gate.yX; rw [HN.out]; rfl), (Below.refl _ _).alloc (Nat.le_refl _) _⟩
  · have HN : Hid (Gate.zy o.nm = false) := by simpa [Hid] using hn
    clear hn ho
    go_enter Tryz.func204, Tryz.ntmps204
    go_wp2_with fail
    refine (zk HN.out (zN _ _ h1)).mono ?_
    rintro e w1 ⟨rfl, rfl⟩
    go_wp2_with fail
    refine (qN _ _).mono ?_
    rintro e w1 ⟨rfl, rfl⟩
    go_wp2_with fail
    go_ret
    exact ⟨zca (a := false) (b := Gate.yX o) (by unfold Gate.yX; rw [HN.out]; rfl), (Below.refl _ _).alloc (Nat.le_refl _) _⟩
set_option maxHeartbeats 1000000 in
theorem zdN (a0 : Option Addr) (cap0 : Nat) (ss : List Shp) (o : Ob) (a a' : Option Addr) (cap cap' : Nat) (w : World) (ho : jg w o a a') :
    Calls Tryz.prog 205 #[.slice a0 ss.length cap0, .agg (oC o a a' cap cap')] w fun e w' => e = .returned (qX (Gate.qm o)) /\ Below w.heap.size w w' := by
  have hl := ho.holds.len
  unfold maxLen at hl
  by_cases h3 : o.hs.length <= 3
  · go_enter Tryz.func205, Tryz.ntmps205
    go_wp2_with fail
    refine (ziq _ _ _ _ (ho.holds.mono ((Below.refl _ _).alloc (Nat.le_refl _) _))).mono ?_
    rintro e w1 ⟨rfl, rfl⟩
    go_wp2_with fail
    refine (qN _ _).mono ?_
    rintro e w1 ⟨rfl, rfl⟩
    go_wp2_with fail
    go_ret
    exact ⟨zca (by unfold Gate.qm; rw [decide_eq_true h3]; rfl), (Below.refl _ _).alloc (Nat.le_refl _) _⟩
  · go_enter Tryz.func205, Tryz.ntmps205
    go_wp2_with fail
    refine (qN _ _).mono ?_
    rintro e w1 ⟨rfl, rfl⟩
    go_wp2_with fail
    go_ret
    exact ⟨zca (a := false) (b := Gate.qm o) (by unfold Gate.qm; rw [decide_eq_false (show ¬ o.hs.length <= 3 by omega)]; rfl), (Below.refl _ _).alloc (Nat.le_refl _) _⟩
set_option maxHeartbeats 1000000 in
theorem zct (a0 : Option Addr) (cap0 : Nat) (ss : List Shp) (o : Ob) (a a' : Option Addr) (cap cap' : Nat) (w : World) :
    Calls Tryz.prog 206 #[.slice a0 ss.length cap0, .agg (oC o a a' cap cap')] w fun e w' => e = .returned (qX (Gate.yO o)) /\ Below w.heap.size w w' := by
  by_cases h0 : 0 <= o.vr
  · have HV : Hid (Gate.yO o = decide (o.vr <= 1000000)) := by unfold Hid Gate.yO; rw [decide_eq_true h0]; rfl
    go_enter Tryz.func206, Tryz.ntmps206
    go_wp2_with (go_at_call 215; refine (qN _ _).mono ?_; rintro e w1 ⟨rfl, rfl⟩)
    go_ret
    exact ⟨zca HV.out.symm, (Below.refl _ _).alloc (Nat.le_refl _) _⟩
  · have HV : Hid (Gate.yO o = false) := by unfold Hid Gate.yO; rw [decide_eq_false h0]; rfl
    go_enter Tryz.func206, Tryz.ntmps206
    go_wp2_with (go_at_call 215; refine (qN _ _).mono ?_; rintro e w1 ⟨rfl, rfl⟩)
    go_ret
    exact ⟨zca HV.out.symm, (Below.refl _ _).alloc (Nat.le_refl _) _⟩
set_option maxHeartbeats 1000000 in
theorem zdM (a0 : Option Addr) (cap0 : Nat) (ss : List Shp) (o : Ob) (a a' : Option Addr) (cap cap' : Nat) (w : World) (hw : yH w a0 ss) (_ho : jg w o a a') :
    Calls Tryz.prog 207 #[.slice a0 ss.length cap0, .agg (oC o a a' cap cap')] w fun e w' => e = .returned (qX (Gate.zx ss o)) /\ Below w.heap.size w w' := by
  by_cases hk : Gate.zF ss o.kd = true
  all_goals
    first
      | (have HK : Hid (Gate.zF ss o.kd = true) := hk)
      | (have HK : Hid (Gate.zF ss o.kd = false) := by simpa [Hid] using hk)
    clear hk
    go_enter Tryz.func207, Tryz.ntmps207
    go_wp2_with fail
    refine (qC _ _ _ _ _ (hw.mono ((Below.refl _ _).alloc (Nat.le_refl _) _))).mono ?_
    rintro e w1 ⟨fa, fcap, rfl, _, hb1⟩
    rw [HK.out]
    have hX1 := za (zG w _ _) (by simp) hb1
    have hz1 : w.heap.size < w1.heap.size := by have := hb1.size; simp at this; omega
    have hB1 : Below w.heap.size w w1 := ((Below.refl _ _).alloc (Nat.le_refl _) _).trans (hb1.mono (by simp))
    clear hb1
    go_wp2_with (go_at_call 215; refine (qN _ _).mono ?_; rintro e w2 ⟨rfl, rfl⟩)
    go_ret
  · refine ⟨zca ?_, hB1.alloc (by omega) _⟩
    unfold Gate.zx; rw [HK.out]
    rw [Bool.eq_iff_iff]; simp; omega
  · refine ⟨zca (a := false) (b := Gate.zx ss o) ?_, hB1.alloc (by omega) _⟩
    unfold Gate.zx; rw [HK.out]; rfl
end Go.Proofs.YtfapkhgallmkdaaGreat
