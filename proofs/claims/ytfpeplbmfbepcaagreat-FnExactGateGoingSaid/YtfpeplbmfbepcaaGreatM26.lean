import Derived.Test.YtfpeplbmfbepcaaGreatM18
import Derived.Test.YtfpeplbmfbepcaaGreatM03
import Derived.Test.YtfpeplbmfbepcaaGreatM21
import Derived.Test.YtfpeplbmfbepcaaGreatM07
import Derived.Test.YtfpeplbmfbepcaaGreatM15
namespace Go.Proofs.YtfpeplbmfbepcaaGreat
open Go.RowKit
namespace Gate
def jW (f : Fld) (v : ByteArray) : ByteArray := if v.toList.isEmpty = true then f.df else v
def jN (fs : List Fld) (vs : List ByteArray) : List ByteArray := List.zipWith jW fs vs
def qH (fs : List Fld) (vs : List ByteArray) (k : Nat) : List ByteArray := (jN fs vs).take k ++ vs.drop k
theorem qj {fs : List Fld} {vs : List ByteArray} (h : vs.length = fs.length) : (jN fs vs).length = vs.length := by simp [jN]; omega
theorem zaa {fs : List Fld} {vs : List ByteArray} (h : vs.length = fs.length) (k : Nat) : (qH fs vs k).length = vs.length := by
  simp [qH, qj h]; omega
theorem zg2 (fs : List Fld) (vs : List ByteArray) : qH fs vs 0 = vs := by simp [qH]
theorem zis {fs : List Fld} {vs : List ByteArray} (h : vs.length = fs.length) : qH fs vs fs.length = jN fs vs := by
  unfold qH
  rw [List.take_of_length_le (by rw [qj h]; omega), List.drop_of_length_le (by omega), List.append_nil]
theorem zes {fs : List Fld} {vs : List ByteArray} (h : vs.length = fs.length) (k : Nat) (hk : k < fs.length) : (qH fs vs k)[k]? = vs[k]? := by
  unfold qH
  rw [List.getElem?_append_right (by simp; omega)]
  simp [qj h, Nat.min_eq_left (show k <= vs.length by omega)]
theorem zcz {fs : List Fld} {vs : List ByteArray} (h : vs.length = fs.length) (k : Nat) (hk : k < fs.length) : qH fs vs (k + 1) = (qH fs vs k).set k (jW fs[k] (vs[k]'(by omega))) := by
  have hl := qj h
  have hv : (jN fs vs)[k]'(by omega) = jW fs[k] (vs[k]'(by omega)) := by simp [jN]
  unfold qH
  rw [List.set_append_right _ _ (by simp; omega)]
  have e : k - ((jN fs vs).take k).length = 0 := by simp; omega
  rw [e, List.drop_eq_getElem_cons (show k < vs.length by omega), List.set_cons_zero, List.take_succ_eq_append_getElem (by omega), hv]
  simp
end Gate
theorem zq.set {lo : Nat} {w : World} {g : Nat} {ws : List ByteArray} (h : zq lo w (some ⟨g, 0, none⟩) ws) (k : Nat) (s : ByteArray) : zq lo (w.setCell ⟨g, k, none⟩ (.string s)) (some ⟨g, 0, none⟩) (ws.set k s) := by
  rcases h with ⟨h0, _⟩ | ⟨b, C, h0, hg, hh, hc⟩
  · cases h0
  · cases h0
    refine Or.inr ⟨g, _, rfl, hg, zf hh _, fun i hi => ?_⟩
    have hi' : i < ws.length := by rw [List.length_set] at hi; exact hi
    by_cases e : i = k
    · subst e
      have hsz : i < C.size := by
        rcases Nat.lt_or_ge i C.size with h1 | h1
        · exact h1
        · have := hc i hi'; rw [Array.getElem?_eq_none h1] at this; cases this
      rw [Array.getElem?_setIfInBounds_self_of_lt hsz, List.getElem_set_self]
    · rw [Array.getElem?_setIfInBounds_ne (fun h => e h.symm), hc i hi', List.getElem_set_ne (fun h => e h.symm)]
def zqo (w : World) (b : Nat) (v0 v1 v2 v3 v4 v5 v6 : Value) : World := ((((((w.setCell ⟨b, 0, none⟩ v0).setCell ⟨b, 1, none⟩ v1).setCell ⟨b, 2, none⟩ v2).setCell ⟨b, 3, none⟩ v3).setCell ⟨b, 4, none⟩ v4).setCell ⟨b, 5, none⟩ v5).setCell ⟨b, 6, none⟩ v6
theorem qW {lo : Nat} {w : World} {a : Option Addr} {ws : List ByteArray} (h : zq lo w a ws) (b : Nat) (hb : b < lo) (v0 v1 v2 v3 v4 v5 v6 : Value) : zq lo (zqo w b v0 v1 v2 v3 v4 v5 v6) a ws :=
  ((((((h.setCell _ hb _).setCell _ hb _).setCell _ hb _).setCell _ hb _).setCell _ hb _).setCell _ hb _).setCell _ hb _
theorem zau {B : Nat} {w0 w : World} (h : Below B w0 w) (b : Nat) (hb : B <= b) (v0 v1 v2 v3 v4 v5 v6 : Value) : Below B w0 (zqo w b v0 v1 v2 v3 v4 v5 v6) :=
  ((((((h.setCell (p := ⟨b, 0, none⟩) hb _).setCell (p := ⟨b, 1, none⟩) hb _).setCell (p := ⟨b, 2, none⟩) hb _).setCell (p := ⟨b, 3, none⟩) hb _).setCell (p := ⟨b, 4, none⟩) hb _).setCell (p := ⟨b, 5, none⟩) hb _).setCell (p := ⟨b, 6, none⟩) hb _
end Go.Proofs.YtfpeplbmfbepcaaGreat

namespace Go.Proofs.YtfpeplbmfbepcaaGreat
open Go.RowKit
def zkN (c p : Int) : Value := if c = 0 then .nilIface else .iface 279 (.agg #[.int .i64 c, .int .i64 p])
set_option maxHeartbeats 400000 in
theorem zhW (w : World) : Calls Tryz.prog 221 #[.bool true] w fun e w' => e = .returned .nilIface /\ w' = w := by
  go_enter Tryz.func221, Tryz.ntmps221
  go_wp2
  go_ret
  exact ⟨rfl, rfl⟩
set_option maxHeartbeats 400000 in
theorem zi3 (w : World) : Calls Tryz.prog 221 #[.bool false] w fun e w' => e = .returned (.iface 279 (.agg #[.int .i64 1, .int .i64 0])) /\ w' = w := by
  go_enter Tryz.func221, Tryz.ntmps221
  go_wp2
  go_ret
  exact ⟨rfl, rfl⟩
def qU (b : Bool) : Value := if b then .nilIface else .iface 279 (.agg #[.int .i64 1, .int .i64 0])
theorem qL (b : Bool) (w : World) : Calls Tryz.prog 221 #[.bool b] w fun e w' => e = .returned (qU b) /\ w' = w := by
  cases b
  · exact zi3 w
  · exact zhW w
theorem zcs {a b : Bool} (h : a = b) : Ending.returned (qU a) = .returned (qU b) := by rw [h]
set_option maxHeartbeats 1000000 in
theorem zei (a0 : Option Addr) (cap0 : Nat) (ss : List Shp) (o : Ob) (a a' : Option Addr) (cap cap' : Nat) (w : World) (ho : qR w o a a') :
    Calls Tryz.prog 209 #[.slice a0 ss.length cap0, .agg (oC o a a' cap cap')] w fun e w' => e = .returned (qU (Gate.y5 o)) /\ Below w.heap.size w w' := by
  have h1 := ho.small.nm
  have h2 := ho.small.tm
  by_cases hn : Gate.zy o.nm = true
  · have HN : Hid (Gate.zy o.nm = true) := hn
    clear hn ho
    go_enter Tryz.func209, Tryz.ntmps209
    go_wp2_with fail
    refine (zw HN.out (zR _ _ h1)).mono ?_
    rintro e w1 ⟨rfl, rfl⟩
    go_wp2_with fail
    refine (zR _ _ h2).mono ?_
    rintro e w1 ⟨rfl, rfl⟩
    go_wp2_with fail
    refine (qL _ _).mono ?_
    rintro e w1 ⟨rfl, rfl⟩
    go_wp2_with fail
    go_ret
    exact ⟨zcs (by unfold Gate.y5; rw [HN.out]; rfl), (Below.refl _ _).alloc (Nat.le_refl _) _⟩
  · have HN : Hid (Gate.zy o.nm = false) := by simpa [Hid] using hn
    clear hn ho
    go_enter Tryz.func209, Tryz.ntmps209
    go_wp2_with fail
    refine (zw HN.out (zR _ _ h1)).mono ?_
    rintro e w1 ⟨rfl, rfl⟩
    go_wp2_with fail
    refine (qL _ _).mono ?_
    rintro e w1 ⟨rfl, rfl⟩
    go_wp2_with fail
    go_ret
    exact ⟨zcs (a := false) (b := Gate.y5 o) (by unfold Gate.y5; rw [HN.out]; rfl), (Below.refl _ _).alloc (Nat.le_refl _) _⟩
set_option maxHeartbeats 1000000 in
theorem zeh (a0 : Option Addr) (cap0 : Nat) (ss : List Shp) (o : Ob) (a a' : Option Addr) (cap cap' : Nat) (w : World) (ho : qR w o a a') :
    Calls Tryz.prog 210 #[.slice a0 ss.length cap0, .agg (oC o a a' cap cap')] w fun e w' => e = .returned (qU (Gate.qx o)) /\ Below w.heap.size w w' := by
  have hl := ho.holds.len
  unfold maxLen at hl
  by_cases h3 : o.hs.length <= 3
  · go_enter Tryz.func210, Tryz.ntmps210
    go_wp2_with fail
    refine (zjm _ _ _ _ (ho.holds.mono ((Below.refl _ _).alloc (Nat.le_refl _) _))).mono ?_
    rintro e w1 ⟨rfl, rfl⟩
    go_wp2_with fail
    refine (qL _ _).mono ?_
    rintro e w1 ⟨rfl, rfl⟩
    go_wp2_with fail
    go_ret
    exact ⟨zcs (by unfold Gate.qx; rw [decide_eq_true h3]; rfl), (Below.refl _ _).alloc (Nat.le_refl _) _⟩
  · go_enter Tryz.func210, Tryz.ntmps210
    go_wp2_with fail
    refine (qL _ _).mono ?_
    rintro e w1 ⟨rfl, rfl⟩
    go_wp2_with fail
    go_ret
    exact ⟨zcs (a := false) (b := Gate.qx o) (by unfold Gate.qx; rw [decide_eq_false (show ¬ o.hs.length <= 3 by omega)]; rfl), (Below.refl _ _).alloc (Nat.le_refl _) _⟩
set_option maxHeartbeats 1000000 in
theorem zcR (a0 : Option Addr) (cap0 : Nat) (ss : List Shp) (o : Ob) (a a' : Option Addr) (cap cap' : Nat) (w : World) :
    Calls Tryz.prog 211 #[.slice a0 ss.length cap0, .agg (oC o a a' cap cap')] w fun e w' => e = .returned (qU (Gate.yQ o)) /\ Below w.heap.size w w' := by
  by_cases h0 : 0 <= o.vr
  · have HV : Hid (Gate.yQ o = decide (o.vr <= 1000000)) := by unfold Hid Gate.yQ; rw [decide_eq_true h0]; rfl
    go_enter Tryz.func211, Tryz.ntmps211
    go_wp2_with (go_at_call 221; refine (qL _ _).mono ?_; rintro e w1 ⟨rfl, rfl⟩)
    go_ret
    exact ⟨zcs HV.out.symm, (Below.refl _ _).alloc (Nat.le_refl _) _⟩
  · have HV : Hid (Gate.yQ o = false) := by unfold Hid Gate.yQ; rw [decide_eq_false h0]; rfl
    go_enter Tryz.func211, Tryz.ntmps211
    go_wp2_with (go_at_call 221; refine (qL _ _).mono ?_; rintro e w1 ⟨rfl, rfl⟩)
    go_ret
    exact ⟨zcs HV.out.symm, (Below.refl _ _).alloc (Nat.le_refl _) _⟩
set_option maxHeartbeats 1000000 in
theorem zeg (a0 : Option Addr) (cap0 : Nat) (ss : List Shp) (o : Ob) (a a' : Option Addr) (cap cap' : Nat) (w : World) (hw : yI w a0 ss) (_ho : qR w o a a') :
    Calls Tryz.prog 212 #[.slice a0 ss.length cap0, .agg (oC o a a' cap cap')] w fun e w' => e = .returned (qU (Gate.zo ss o)) /\ Below w.heap.size w w' := by
  by_cases hk : Gate.zC ss o.kd = true
  all_goals
    first
      | (have HK : Hid (Gate.zC ss o.kd = true) := hk)
      | (have HK : Hid (Gate.zC ss o.kd = false) := by simpa [Hid] using hk)
    clear hk
    go_enter Tryz.func212, Tryz.ntmps212
    go_wp2_with fail
    refine (qC _ _ _ _ _ (hw.mono ((Below.refl _ _).alloc (Nat.le_refl _) _))).mono ?_
    rintro e w1 ⟨fa, fcap, rfl, _, hb1⟩
    rw [HK.out]
    have hX1 := za (zG w _ _) (by simp) hb1
    have hz1 : w.heap.size < w1.heap.size := by have := hb1.size; simp at this; omega
    have hB1 : Below w.heap.size w w1 := ((Below.refl _ _).alloc (Nat.le_refl _) _).trans (hb1.mono (by simp))
    clear hb1
    go_wp2_with (go_at_call 221; refine (qL _ _).mono ?_; rintro e w2 ⟨rfl, rfl⟩)
    go_ret
  · refine ⟨zcs ?_, hB1.alloc (by omega) _⟩
    unfold Gate.zo; rw [HK.out]
    rw [Bool.eq_iff_iff]; simp; omega
  · refine ⟨zcs (a := false) (b := Gate.zo ss o) ?_, hB1.alloc (by omega) _⟩
    unfold Gate.zo; rw [HK.out]; rfl
end Go.Proofs.YtfpeplbmfbepcaaGreat

namespace Go.Proofs.YtfpeplbmfbepcaaGreat
open Go.RowKit
structure jd (lo hi : Nat) (w : World) (bo : Nat) (ms : List Ob) : Prop where
  low : lo <= bo
  high : bo < hi
  rows : ∃ C, w.heap[bo]? = some (.cells C 119) /\ C.size = ms.length * 7 /\ ∀ i (h : i < ms.length), (∀ j, j < 7 -> j ≠ 3 -> j ≠ 5 -> zaP C (i * 7 + j)) /\ (∃ bk cap, q9 lo hi w bk ms[i].vs.length /\ C[i * 7 + 3]? = some (.slice (some ⟨bk, 0, none⟩) ms[i].vs.length cap)) /\ (∃ bk cap, q9 lo hi w bk ms[i].hs.length /\ C[i * 7 + 5]? = some (.slice (some ⟨bk, 0, none⟩) ms[i].hs.length cap))
theorem jd.mono {lo hi : Nat} {w w' : World} {b : Nat} {ms : List Ob} (h : jd lo hi w b ms) (hM : Marked lo hi w w') : jd lo hi w' b ms := by
  obtain ⟨C, hC, hs, hn⟩ := h.rows
  obtain ⟨C', hC', hs', hk⟩ := hM.inn b C _ h.low h.high hC
  refine ⟨h.low, h.high, C', hC', by omega, fun i hi => ?_⟩
  obtain ⟨h0, ⟨bk3, cap3, f3, g3⟩, ⟨bk5, cap5, f5, g5⟩⟩ := hn i hi
  exact ⟨fun j hj n3 n5 a m c he => h0 j hj n3 n5 a m c ((hk _ a m c).1 he), ⟨bk3, cap3, f3.mono hM, (hk _ _ _ _).2 g3⟩, ⟨bk5, cap5, f5.mono hM, (hk _ _ _ _).2 g5⟩⟩
theorem qV.form {lo : Nat} {w : World} {bo : Nat} {ms : List Ob} (h : qV lo w bo ms ms.length) : jd lo w.heap.size w bo ms := by
  obtain ⟨C, hC, hsz, hr⟩ := h.rows
  refine ⟨h.low, (Array.getElem?_eq_some_iff.1 hC).1, C, hC, hsz, fun i hi => ?_⟩
  obtain ⟨g0, g1, hl0, hn0, hg0, hl1, hn1, hg1, hc⟩ := hr i hi hi
  refine ⟨fun j hj n3 n5 a n c he => ?_, ⟨g0, _, ⟨hl0, (Array.getElem?_eq_some_iff.1 hg0).1, _, hg0, by simp [jk], fun j _ => zcm _ j⟩, hc 3 (by omega)⟩, ⟨g1, _, ⟨hl1, (Array.getElem?_eq_some_iff.1 hg1).1, _, hg1, by simp [jk], fun j _ => zcm _ j⟩, hc 5 (by omega)⟩⟩
  rw [hc j hj] at he
  rcases j with _ | _ | _ | _ | _ | _ | _ | j <;> first | omega | (simp [Ob.row] at he)
theorem jd.ready {lo hi bo : Nat} {w W : World} {ms : List Ob} (h : jd lo hi w bo ms) (hM : Marked lo hi w W) (i : Nat) (hi' : i < ms.length) :
    (∀ j, j < 7 -> ∃ v, W.cell? ⟨bo, i * 7 + j, none⟩ = some v) /\ (∀ o, W.frozen? ⟨bo, o, none⟩ = false) := by
  have h' := h.mono hM
  obtain ⟨C, hC, hs, hn⟩ := h'.rows
  exact ⟨fun j hj => ⟨C[i * 7 + j]'(by omega), by rw [cell_of_block hC]; exact Array.getElem?_eq_getElem (by omega)⟩, fun o => zh hC⟩
theorem jd.put {lo hi bo : Nat} {w W : World} {ms : List Ob} (h : jd lo hi w bo ms) (hM : Marked lo hi w W) (i j : Nat) (hi' : i < ms.length) (hj : j < 7) (n3 : j ≠ 3) (n5 : j ≠ 5) (v : Value) (hv : ∀ a n c, v ≠ Value.slice a n c) : Marked lo hi w (W.setCell ⟨bo, i * 7 + j, none⟩ v) := by
  obtain ⟨C, hC, hs, hn⟩ := h.rows
  exact hM.put h.low h.high hC ((hn i hi').1 j hj n3 n5) v hv
theorem jd.zpk {lo hi bo : Nat} {w : World} {ms : List Ob} (h : jd lo hi w bo ms) (i : Nat) (hi' : i < ms.length) :
    ∃ bk cap, q9 lo hi w bk ms[i].vs.length /\ ∀ W, Marked lo hi w W -> W.cell? ⟨bo, i * 7 + 3, none⟩ = some (.slice (some ⟨bk, 0, none⟩) ms[i].vs.length cap) := by
  obtain ⟨C, hC, hs, hn⟩ := h.rows
  obtain ⟨bk, cap, h1, h2⟩ := (hn i hi').2.1
  refine ⟨bk, cap, h1, fun W hM => ?_⟩
  obtain ⟨C', hC', _, hk⟩ := hM.inn bo C _ h.low h.high hC
  rw [cell_of_block hC']
  exact (hk _ _ _ _).2 h2
theorem jd.zqr {lo hi bo : Nat} {w : World} {ms : List Ob} (h : jd lo hi w bo ms) (i : Nat) (hi' : i < ms.length) :
    ∃ bk cap, q9 lo hi w bk ms[i].hs.length /\ ∀ W, Marked lo hi w W -> W.cell? ⟨bo, i * 7 + 5, none⟩ = some (.slice (some ⟨bk, 0, none⟩) ms[i].hs.length cap) := by
  obtain ⟨C, hC, hs, hn⟩ := h.rows
  obtain ⟨bk, cap, h1, h2⟩ := (hn i hi').2.2
  refine ⟨bk, cap, h1, fun W hM => ?_⟩
  obtain ⟨C', hC', _, hk⟩ := hM.inn bo C _ h.low h.high hC
  rw [cell_of_block hC']
  exact (hk _ _ _ _).2 h2
set_option maxRecDepth 20000 in
set_option maxHeartbeats 8000000 in
theorem zeA (lo hi bo cap : Nat) (ms : List Ob) (k : Int) (w : World) (h : jd lo hi w bo ms) (hl : ms.length <= 1048576) (hls : ∀ i (h : i < ms.length), ms[i].vs.length <= 1048576 /\ ms[i].hs.length <= 1048576) (hk : 0 < k) (hk2 : k < 5000000000000000000) :
    Calls Tryz.prog 47 #[.slice (some ⟨bo, 0, none⟩) ms.length cap, .int .i64 k] w fun e w' => ∃ k', e = .returned (.int .i64 k') /\ k <= k' /\ k' <= k + ms.length * 2097159 /\ Marked lo hi w w' := by
  have HF : Hid (jd lo hi w bo ms) := h
  have HL : Hid (ms.length <= 1048576 /\ ∀ i (h : i < ms.length), ms[i].vs.length <= 1048576 /\ ms[i].hs.length <= 1048576) := ⟨hl, hls⟩
  have HK : Hid (0 < k /\ k < 5000000000000000000) := ⟨hk, hk2⟩
  clear h hl hk hk2 hls
  go_enter Tryz.func47, Tryz.ntmps47
  go_wp2_with fail
  go_loopw [1, 5] (fun kv iv wr => ∃ (i : Nat) (kk : Int), i <= ms.length /\ kv = .int .i64 kk /\ iv = .int .i64 i /\ k <= kk /\ kk <= k + i * 2097159 /\ Marked lo hi w wr) (fun _ iv _ => ms.length - (intOf iv).toNat)
  case atStart => exact ⟨0, k, Nat.zero_le _, rfl, rfl, Int.le_refl _, by simp, Marked.refl _ _ _⟩
  case round =>
    obtain ⟨i, kk, hile, rfl, rfl, h1, h2, hM⟩ := hrel
    by_cases hlt : i < ms.length
    · have hltI : (i : Int) < (ms.length : Int) := by omega
      have HB : Hid (0 < kk /\ kk < 7000000000000000000 /\ kk <= k + i * 2097159 /\ k <= kk) := by have a := HK.out; have b := HL.out.1; exact ⟨by omega, by omega, h2, h1⟩
      have HM : Hid (Marked lo hi w wr) := hM
      clear h1 h2 hM
      obtain ⟨bk3, bc3, hT, hsl⟩ := HF.out.zpk i hlt
      have HT3 : Hid (q9 lo hi w bk3 ms[i].vs.length /\ ∀ W, Marked lo hi w W -> W.cell? ⟨bo, i * 7 + 3, none⟩ = some (.slice (some ⟨bk3, 0, none⟩) ms[i].vs.length bc3)) := ⟨hT, hsl⟩
      clear hT hsl
      obtain ⟨bk5, bc5, hT, hsl⟩ := HF.out.zqr i hlt
      have HT5 : Hid (q9 lo hi w bk5 ms[i].hs.length /\ ∀ W, Marked lo hi w W -> W.cell? ⟨bo, i * 7 + 5, none⟩ = some (.slice (some ⟨bk5, 0, none⟩) ms[i].hs.length bc5)) := ⟨hT, hsl⟩
      clear hT hsl
      go_wp2_with fail
      refine (zI _ _ (by have a0 := HB.out; omega) (by have a0 := HB.out; omega)).mono ?_
      rintro e wm1 ⟨s1, rfl, hb⟩
      have HM1 : Hid (Marked lo hi w wm1) := (HM.out).trans (Marked.of_below hb)
      clear hb
      obtain ⟨hex, hfz1⟩ := HF.out.ready (HM1.out) i hlt
      obtain ⟨v1, hv1⟩ := hex 0 (by omega)
      rw [Nat.add_zero] at hv1
      clear hex
      have HP1_0 : Hid (Marked lo hi w (wm1.setCell ⟨bo, i * 7, none⟩ (.string s1))) := HF.out.put (HM1.out) i 0 hlt (by omega) (by omega) (by omega) (.string s1) (fun _ _ _ h => by cases h)
      have hw1 : wrap64 (kk + 1) = kk + 1 := z8 _ ⟨by have a0 := HB.out; omega, by have a0 := HB.out; omega⟩
      go_wp2_with fail
      clear hfz1 hv1
      refine (zI _ _ (by have a0 := HB.out; omega) (by have a0 := HB.out; omega)).mono ?_
      rintro e wm2 ⟨s2, rfl, hb⟩
      have HM2 : Hid (Marked lo hi w wm2) := (HP1_0.out).trans (Marked.of_below hb)
      clear hb
      obtain ⟨hex, hfz2⟩ := HF.out.ready (HM2.out) i hlt
      obtain ⟨v2, hv2⟩ := hex 1 (by omega)
      clear hex
      have HP2_1 : Hid (Marked lo hi w (wm2.setCell ⟨bo, i * 7 + 1, none⟩ (.string s2))) := HF.out.put (HM2.out) i 1 hlt (by omega) (by omega) (by omega) (.string s2) (fun _ _ _ h => by cases h)
      have hw2 : wrap64 (kk + 1 + 1) = kk + 1 + 1 := z8 _ ⟨by have a0 := HB.out; omega, by have a0 := HB.out; omega⟩
      go_wp2_with fail
      clear hfz2 hv2
      refine (zI _ _ (by have a0 := HB.out; omega) (by have a0 := HB.out; omega)).mono ?_
      rintro e wm3 ⟨s3, rfl, hb⟩
      have HM3 : Hid (Marked lo hi w wm3) := (HP2_1.out).trans (Marked.of_below hb)
      clear hb
      obtain ⟨hex, hfz3⟩ := HF.out.ready (HM3.out) i hlt
      obtain ⟨v3, hv3⟩ := hex 2 (by omega)
      clear hex
      have HP3_2 : Hid (Marked lo hi w (wm3.setCell ⟨bo, i * 7 + 2, none⟩ (.string s3))) := HF.out.put (HM3.out) i 2 hlt (by omega) (by omega) (by omega) (.string s3) (fun _ _ _ h => by cases h)
      have hw3 : wrap64 (kk + 1 + 1 + 1) = kk + 1 + 1 + 1 := z8 _ ⟨by have a0 := HB.out; omega, by have a0 := HB.out; omega⟩
      have hsl3 := HT3.out.2 _ (HP3_2.out)
      go_wp2_with fail
      clear hfz3 hv3 hsl3
      refine (zbx lo hi bk3 _ bc3 _ _ (HT3.out.1.mono (HP3_2.out)) ((HL.out.2 i hlt).1) (by have a0 := HB.out; omega) (by have a0 := HB.out; omega)).mono ?_
      rintro e wm4 ⟨k4, rfl, hke, hMn⟩
      have HM4 : Hid (Marked lo hi w wm4) := (HP3_2.out).trans hMn
      have HK4 : Hid (k4 = kk + 1 + 1 + 1 + ms[i].vs.length /\ ms[i].vs.length <= 1048576) := ⟨by omega, (HL.out.2 i hlt).1⟩
      clear hMn hke
      obtain ⟨hex, hfz4⟩ := HF.out.ready (HM4.out) i hlt
      obtain ⟨v4, hv4⟩ := hex 4 (by omega)
      clear hex
      have HP4_4 : Hid (Marked lo hi w (wm4.setCell ⟨bo, i * 7 + 4, none⟩ (.bool (k4 % 3 == 0)))) := HF.out.put (HM4.out) i 4 hlt (by omega) (by omega) (by omega) (.bool (k4 % 3 == 0)) (fun _ _ _ h => by cases h)
      have htm : (k4).tmod 3 = k4 % 3 := Int.tmod_eq_emod_of_nonneg (by have a0 := HB.out; have a1 := HK4.out; omega)
      have hwm : wrap64 (k4 % 3) = k4 % 3 := z8 _ ⟨by omega, by omega⟩
      have hw4 : wrap64 (k4 + 1) = k4 + 1 := z8 _ ⟨by have a0 := HB.out; have a1 := HK4.out; omega, by have a0 := HB.out; have a1 := HK4.out; omega⟩
      have hsl5 := HT5.out.2 _ (HP4_4.out)
      go_wp2_with fail
      clear hfz4 hv4 htm hwm hsl5
      refine (zbx lo hi bk5 _ bc5 _ _ (HT5.out.1.mono (HP4_4.out)) ((HL.out.2 i hlt).2) (by have a0 := HB.out; have a1 := HK4.out; omega) (by have a0 := HB.out; have a1 := HK4.out; omega)).mono ?_
      rintro e wm5 ⟨k5, rfl, hke, hMn⟩
      have HM5 : Hid (Marked lo hi w wm5) := (HP4_4.out).trans hMn
      have HK5 : Hid (k5 = k4 + 1 + ms[i].hs.length /\ ms[i].hs.length <= 1048576) := ⟨by omega, (HL.out.2 i hlt).2⟩
      clear hMn hke
      obtain ⟨hex, hfz5⟩ := HF.out.ready (HM5.out) i hlt
      obtain ⟨v5, hv5⟩ := hex 6 (by omega)
      clear hex
      have HP5_6 : Hid (Marked lo hi w (wm5.setCell ⟨bo, i * 7 + 6, none⟩ (.int .i64 (k5)))) := HF.out.put (HM5.out) i 6 hlt (by omega) (by omega) (by omega) (.int .i64 (k5)) (fun _ _ _ h => by cases h)
      have hw5 : wrap64 (k5 + 1) = k5 + 1 := z8 _ ⟨by have a0 := HB.out; have a1 := HK4.out; have a2 := HK5.out; omega, by have a0 := HB.out; have a1 := HK4.out; have a2 := HK5.out; omega⟩
      go_wp2_with fail
      go_roundw
      case rel => exact ⟨i + 1, k5 + 1, by omega, by first | rfl | rw [hw5], by rw [wrap_one (by have := HL.out.1; omega)], by have a0 := HB.out; have a1 := HK4.out; have a2 := HK5.out; omega, by have a0 := HB.out; have a1 := HK4.out; have a2 := HK5.out; omega, HP5_6.out⟩
      case measure => exact qK hlt (by have := HL.out.1; omega)
    · have e : i = ms.length := by omega
      subst e
      go_wp2_with fail
      go_ret
      exact ⟨kk, rfl, h1, h2, hM⟩
end Go.Proofs.YtfpeplbmfbepcaaGreat

namespace Go.Proofs.YtfpeplbmfbepcaaGreat
open Go.RowKit
structure jy (lo hi : Nat) (w : World) (bo : Nat) (ms : List Mnd) : Prop where
  low : lo <= bo
  high : bo < hi
  rows : ∃ C, w.heap[bo]? = some (.cells C 125) /\ C.size = ms.length * 6 /\ ∀ j, j < ms.length * 6 -> zaP C j
theorem jy.mono {lo hi : Nat} {w w' : World} {b : Nat} {ms : List Mnd} (h : jy lo hi w b ms) (hM : Marked lo hi w w') : jy lo hi w' b ms := by
  obtain ⟨C, hC, hs, hn⟩ := h.rows
  obtain ⟨C', hC', hs', hk⟩ := hM.inn b C _ h.low h.high hC
  exact ⟨h.low, h.high, C', hC', by omega, fun j hj a m c he => hn j hj a m c ((hk j a m c).1 he)⟩
theorem qF.form {lo : Nat} {w : World} {bo : Nat} {ms : List Mnd} (h : qF lo w bo ms ms.length) : jy lo w.heap.size w bo ms := by
  obtain ⟨C, hC, hsz, hr⟩ := h.rows
  refine ⟨h.low, (Array.getElem?_eq_some_iff.1 hC).1, C, hC, hsz, fun j hj a n c he => ?_⟩
  have hi : j / 6 < ms.length := by omega
  have e : j = j / 6 * 6 + j % 6 := by omega
  rw [e, hr (j / 6) hi hi (j % 6) (by omega)] at he
  have h6 : j % 6 < 6 := by omega
  revert he
  generalize j % 6 = q at h6
  intro he
  rcases q with _ | _ | _ | _ | _ | _ | q <;> first | omega | (simp [Mnd.cells] at he)
theorem jy.ready {lo hi bo : Nat} {w W : World} {ms : List Mnd} (h : jy lo hi w bo ms) (hM : Marked lo hi w W) (i : Nat) (hi' : i < ms.length) :
    (∀ j, j < 6 -> ∃ v, W.cell? ⟨bo, i * 6 + j, none⟩ = some v) /\ (∀ o, W.frozen? ⟨bo, o, none⟩ = false) := by
  have h' := h.mono hM
  obtain ⟨C, hC, hs, hn⟩ := h'.rows
  exact ⟨fun j hj => ⟨C[i * 6 + j]'(by omega), by rw [cell_of_block hC]; exact Array.getElem?_eq_getElem (by omega)⟩, fun o => zh hC⟩
theorem jy.put {lo hi bo : Nat} {w W : World} {ms : List Mnd} (h : jy lo hi w bo ms) (hM : Marked lo hi w W) (i j : Nat) (hi' : i < ms.length) (hj : j < 6) (v : Value) (hv : ∀ a n c, v ≠ Value.slice a n c) : Marked lo hi w (W.setCell ⟨bo, i * 6 + j, none⟩ v) := by
  obtain ⟨C, hC, hs, hn⟩ := h.rows
  exact hM.put h.low h.high hC (hn (i * 6 + j) (by omega)) v hv
set_option maxRecDepth 20000 in
set_option maxHeartbeats 4000000 in
theorem zfs (lo hi bo cap : Nat) (ms : List Mnd) (k : Int) (w : World) (h : jy lo hi w bo ms) (hl : ms.length <= 1048576) (hk : 0 < k) (hk2 : k < 6000000000000000000) :
    Calls Tryz.prog 45 #[.slice (some ⟨bo, 0, none⟩) ms.length cap, .int .i64 k] w fun e w' => ∃ k', e = .returned (.int .i64 k') /\ k <= k' /\ k' <= k + ms.length * 6 /\ Marked lo hi w w' := by
  have HF : Hid (jy lo hi w bo ms) := h
  have HL : Hid (ms.length <= 1048576) := hl
  have HK : Hid (0 < k /\ k < 6000000000000000000) := ⟨hk, hk2⟩
  clear h hl hk hk2
  go_enter Tryz.func45, Tryz.ntmps45
  go_wp2_with fail
  go_loopw [1, 5] (fun kv iv wr => ∃ (i : Nat) (kk : Int), i <= ms.length /\ kv = .int .i64 kk /\ iv = .int .i64 i /\ k <= kk /\ kk <= k + i * 6 /\ Marked lo hi w wr) (fun _ iv _ => ms.length - (intOf iv).toNat)
  case atStart => exact ⟨0, k, Nat.zero_le _, rfl, rfl, Int.le_refl _, by simp, Marked.refl _ _ _⟩
  case round =>
    obtain ⟨i, kk, hile, rfl, rfl, h1, h2, hM⟩ := hrel
    by_cases hlt : i < ms.length
    · have hltI : (i : Int) < (ms.length : Int) := by omega
      have HB : Hid (0 < kk /\ kk < 7000000000000000000 /\ kk <= k + i * 6 /\ k <= kk) := by have a := HK.out; have b := HL.out; exact ⟨by omega, by omega, h2, h1⟩
      have HM : Hid (Marked lo hi w wr) := hM
      clear h1 h2 hM
      have hw1 : wrap64 (kk + 1) = kk + 1 := by have := HB.out; exact z8 _ ⟨by omega, by omega⟩
      have hw2 : wrap64 (kk + 1 + 1) = kk + 1 + 1 := by have := HB.out; exact z8 _ ⟨by omega, by omega⟩
      have hw3 : wrap64 (kk + 1 + 1 + 1) = kk + 1 + 1 + 1 := by have := HB.out; exact z8 _ ⟨by omega, by omega⟩
      have hw4 : wrap64 (kk + 1 + 1 + 1 + 1) = kk + 1 + 1 + 1 + 1 := by have := HB.out; exact z8 _ ⟨by omega, by omega⟩
      have hw5 : wrap64 (kk + 1 + 1 + 1 + 1 + 1) = kk + 1 + 1 + 1 + 1 + 1 := by have := HB.out; exact z8 _ ⟨by omega, by omega⟩
      have hw6 : wrap64 (kk + 1 + 1 + 1 + 1 + 1 + 1) = kk + 1 + 1 + 1 + 1 + 1 + 1 := by have := HB.out; exact z8 _ ⟨by omega, by omega⟩
      go_wp2_with fail
      refine (zI _ _ (by have := HB.out; omega) (by have := HB.out; omega)).mono ?_
      rintro e wm0 ⟨s0, rfl, hb⟩
      have HM0 : Hid (Marked lo hi w wm0) := HM.out.trans (Marked.of_below hb)
      clear hb
      obtain ⟨hex, hfz⟩ := HF.out.ready HM0.out i hlt
      obtain ⟨v0, hv0⟩ := hex 0 (by omega)
      rw [Nat.add_zero] at hv0
      have HP0 : Hid (Marked lo hi w (wm0.setCell ⟨bo, i * 6, none⟩ (.string s0))) := HF.out.put HM0.out i 0 hlt (by omega) (.string s0) (fun _ _ _ h => by cases h)
      clear hex
      go_wp2_with fail
      clear hv0 hfz
      refine (zI _ _ (by have := HB.out; omega) (by have := HB.out; omega)).mono ?_
      rintro e wm1 ⟨s1, rfl, hb⟩
      have HM1 : Hid (Marked lo hi w wm1) := HP0.out.trans (Marked.of_below hb)
      clear hb
      obtain ⟨hex, hfz⟩ := HF.out.ready HM1.out i hlt
      obtain ⟨v1, hv1⟩ := hex 1 (by omega)
      have HP1 : Hid (Marked lo hi w (wm1.setCell ⟨bo, i * 6 + 1, none⟩ (.string s1))) := HF.out.put HM1.out i 1 hlt (by omega) (.string s1) (fun _ _ _ h => by cases h)
      clear hex
      go_wp2_with fail
      clear hv1 hfz
      refine (zI _ _ (by have := HB.out; omega) (by have := HB.out; omega)).mono ?_
      rintro e wm2 ⟨s2, rfl, hb⟩
      have HM2 : Hid (Marked lo hi w wm2) := HP1.out.trans (Marked.of_below hb)
      clear hb
      obtain ⟨hex, hfz⟩ := HF.out.ready HM2.out i hlt
      obtain ⟨v2, hv2⟩ := hex 2 (by omega)
      have HP2 : Hid (Marked lo hi w (wm2.setCell ⟨bo, i * 6 + 2, none⟩ (.string s2))) := HF.out.put HM2.out i 2 hlt (by omega) (.string s2) (fun _ _ _ h => by cases h)
      clear hex
      go_wp2_with fail
      clear hv2 hfz
      refine (zI _ _ (by have := HB.out; omega) (by have := HB.out; omega)).mono ?_
      rintro e wm3 ⟨s3, rfl, hb⟩
      have HM3 : Hid (Marked lo hi w wm3) := HP2.out.trans (Marked.of_below hb)
      clear hb
      obtain ⟨hex, hfz⟩ := HF.out.ready HM3.out i hlt
      obtain ⟨v3, hv3⟩ := hex 3 (by omega)
      have HP3 : Hid (Marked lo hi w (wm3.setCell ⟨bo, i * 6 + 3, none⟩ (.string s3))) := HF.out.put HM3.out i 3 hlt (by omega) (.string s3) (fun _ _ _ h => by cases h)
      clear hex
      go_wp2_with fail
      clear hv3 hfz
      refine (zI _ _ (by have := HB.out; omega) (by have := HB.out; omega)).mono ?_
      rintro e wm4 ⟨s4, rfl, hb⟩
      have HM4 : Hid (Marked lo hi w wm4) := HP3.out.trans (Marked.of_below hb)
      clear hb
      obtain ⟨hex, hfz⟩ := HF.out.ready HM4.out i hlt
      obtain ⟨v4, hv4⟩ := hex 4 (by omega)
      have HP4 : Hid (Marked lo hi w (wm4.setCell ⟨bo, i * 6 + 4, none⟩ (.string s4))) := HF.out.put HM4.out i 4 hlt (by omega) (.string s4) (fun _ _ _ h => by cases h)
      clear hex
      go_wp2_with fail
      clear hv4 hfz
      refine (zI _ _ (by have := HB.out; omega) (by have := HB.out; omega)).mono ?_
      rintro e wm5 ⟨s5, rfl, hb⟩
      have HM5 : Hid (Marked lo hi w wm5) := HP4.out.trans (Marked.of_below hb)
      clear hb
      obtain ⟨hex, hfz⟩ := HF.out.ready HM5.out i hlt
      obtain ⟨v5, hv5⟩ := hex 5 (by omega)
      have HP5 : Hid (Marked lo hi w (wm5.setCell ⟨bo, i * 6 + 5, none⟩ (.string s5))) := HF.out.put HM5.out i 5 hlt (by omega) (.string s5) (fun _ _ _ h => by cases h)
      clear hex
      go_wp2_with fail
      go_roundw
      case rel => exact ⟨i + 1, kk + 1 + 1 + 1 + 1 + 1 + 1, by omega, by rw [hw6], by rw [wrap_one (by have := HL.out; omega)], by have a := HB.out; omega, by have a := HB.out; omega, HP5.out⟩
      case measure => exact qK hlt (by have := HL.out; omega)
    · have e : i = ms.length := by omega
      subst e
      go_wp2_with fail
      go_ret
      exact ⟨kk, rfl, h1, h2, hM⟩
end Go.Proofs.YtfpeplbmfbepcaaGreat
