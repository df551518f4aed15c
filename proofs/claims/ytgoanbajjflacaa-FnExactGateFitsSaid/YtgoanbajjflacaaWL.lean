import Derived.Test.YtgoanbajjflacaaWH
import Derived.Test.YtgoanbajjflacaaWI
import Derived.Test.YtgoanbajjflacaaWJ
import Derived.Test.YtgoanbajjflacaaWK
namespace Go.Proofs.Ytgoanbajjflacaa
open Go.RowKit

theorem heap_strs {w : World} {bk : Nat} {ws : List ByteArray} {t : TypeId} (h : w.heap[bk]? = some (.cells (strArr ws) t)) (hl : ws.length ≤ maxLen) (hs : ∀ s ∈ ws, s.size ≤ maxLen) : StrsAt w (some ⟨bk, 0, none⟩) ws :=
  ⟨hl, hs, fun _ => ⟨bk, 0, rfl, (Array.getElem?_eq_some_iff.1 h).1, fun i hi => by
    simp [World.cell?, h, strArr, hi]⟩⟩

theorem box_later {wk wl : World} {b : Nat} {X : Array Value} (h : ∀ o, wk.cell? ⟨b, o, none⟩ = X[o]?) (hb : b < wk.heap.size) (hl : Below wk.heap.size wk wl) : ∀ o, wl.cell? ⟨b, o, none⟩ = X[o]? :=
  fun o => (hl.cell (p := ⟨b, o, none⟩) hb).trans (h o)

theorem box_new (w : World) (X : Array Value) (t : TypeId) : ∀ o, (w.alloc (.cells X t)).cell? ⟨w.heap.size, o, none⟩ = X[o]? := fun _ => World.cell?_alloc_at _ _ _ _ rfl

set_option maxHeartbeats 1000000 in
theorem lawFits_any (nm : ByteArray) (kd ls ms : Int) (a : Option Addr) (cap : Nat) (ws : List ByteArray) (to : ByteArray) (rl : Int) (mu fx : Bool) (df wg : ByteArray) (v : ByteArray) (w : World) (hw : StrsAt w a ws)
    (hnm : nm.size ≤ maxLen) (hto : to.size ≤ maxLen) (hdf : df.size ≤ maxLen) (hwg : wg.size ≤ maxLen) (hv : v.size ≤ maxLen) :
    Calls Try.prog 3 #[.agg #[.string nm, .int .i64 kd, .int .i64 ls, .int .i64 ms, .slice a ws.length cap, .string to, .int .i64 rl, .bool mu, .bool fx, .string df, .string wg], .string v] w fun e w' => e = .returned (.bool true) ∧ Below w.heap.size w w' := by
  have hv' := hv
  unfold maxLen at hv'
  by_cases hbig : (v.size : Int) > 1048576
  · go_enter Try.func3, Try.ntmps3
    go_wp2_with fail
    go_ret
    exact ⟨rfl, (Below.refl _ _).alloc (Nat.le_refl _) _⟩
  by_cases hsz : (fldSz nm ws to df wg : Int) ≤ 1048576
  rotate_left
  · go_enter Try.func3, Try.ntmps3
    go_wp2_with fail
    refine (szGateField_any _ _ _ _ _ _ _ _ _ _ _ _ _ _ _ (hw.mono ((Below.refl _ _).alloc (Nat.le_refl _) _)) (by omega) (by omega) hnm hto hdf hwg).mono ?_
    rintro e w1 ⟨rfl, hb1⟩
    rw [szRes_no (by omega)]
    go_wp2_with fail
    go_ret
    exact ⟨rfl, ((Below.refl _ _).alloc (Nat.le_refl _) _).trans (hb1.mono (by simp))⟩
  · have HL : Hid (ws.length ≤ 1048576) := by unfold fldSz strsSz at hsz; unfold Hid; omega
    go_enter Try.func3, Try.ntmps3
    go_wp2_with fail
    have hb0 : Below w.heap.size w (w.alloc (.cells #[.string nm, .int .i64 kd, .int .i64 ls, .int .i64 ms, .slice a ws.length cap, .string to, .int .i64 rl, .bool mu, .bool fx, .string df, .string wg] 24)) := (Below.refl _ _).alloc (Nat.le_refl _) _
    refine (szGateField_any _ _ _ _ _ _ _ _ _ _ _ _ _ _ _ (hw.mono hb0) (by omega) (by omega) hnm hto hdf hwg).mono ?_
    rintro e w1 ⟨rfl, hb1⟩
    rw [szRes_yes hsz]
    have hX1 := box_later (box_new w _ _) (by simp) hb1
    have hz1 : w.heap.size < w1.heap.size := by have := hb1.size; simp at this; omega
    have hB1 := hb0.trans (hb1.mono (by simp))
    clear hb1 hb0
    have hneg : decide (1048576 - (fldSz nm ws to df wg : Int) < 0) = false := by simp; omega
    go_wp2_with fail
    refine (toGateField_any _ _ _ _ _ _ _ _ _ _ _ _ _ _ (hw.mono hB1) HL.out).mono ?_
    rintro e w2 ⟨bk2, rfl, hlo2, hhi2, hbk2, hb2⟩
    have hX2 := box_later hX1 hz1 hb2
    have hz2 : w.heap.size < w2.heap.size := by have := hb2.size; omega
    have hB2 := hB1.trans (hb2.mono (by omega))
    have hS2 : StrsAt w2 (some ⟨bk2, 0, none⟩) ws := heap_strs hbk2 hw.len hw.small
    clear hX1 hB1 hb2 hbk2 hlo2 hhi2
    go_wp2_with fail
    refine (specFits_any _ _ _ _ _ _ _ _ _ _ _ _ _ _ _ hv hS2).mono ?_
    rintro e w3 ⟨rfl, hb3⟩
    have hX3 := box_later hX2 hz2 hb3
    have hz3 : w.heap.size < w3.heap.size := by have := hb3.size; omega
    have hB3 := hB2.trans (hb3.mono (by omega))
    clear hX2 hB2 hb3 hS2 hz1 hz2
    go_wp2_with fail
    refine (toGateField_any _ _ _ _ _ _ _ _ _ _ _ _ _ _ (hw.mono hB3) HL.out).mono ?_
    rintro e w4 ⟨bk4, rfl, hlo4, hhi4, hbk4, hb4⟩
    have hX4 := box_later hX3 hz3 hb4
    have hz4 : w.heap.size < w4.heap.size := by have := hb4.size; omega
    have hB4 := hB3.trans (hb4.mono (by omega))
    have hS4 : StrsAt w4 (some ⟨bk4, 0, none⟩) ws := heap_strs hbk4 hw.len hw.small
    clear hX3 hB3 hb4 hbk4 hlo4 hhi4 hz3
    go_wp2_with fail
    refine (implFits_any _ _ _ _ _ _ _ _ _ _ _ _ _ _ _ hv (by exact hS4.mono ((Below.refl _ _).alloc (Nat.le_refl _) _))).mono ?_
    rintro e w5 ⟨rfl, hb5⟩
    have hX5 := box_later hX4 hz4 (((Below.refl _ _).alloc (Nat.le_refl _) _).trans (hb5.mono (by simp)))
    have hY5 := box_later (box_new w4 _ _) (by simp) hb5
    have hz5 : w4.heap.size < w5.heap.size := by have := hb5.size; simp at this; omega
    have hb45 : Below w4.heap.size w4 w5 := ((Below.refl _ _).alloc (Nat.le_refl _) _).trans (hb5.mono (by simp))
    have hS5 := hS4.mono hb45
    have hB5 := hB4.trans (hb45.mono (by omega))
    clear hX4 hB4 hb5 hS4 hb45
    go_wp2_with fail
    go_region_with (first
      | (go_at_call 8; refine (toGateField_any _ _ _ _ _ _ _ _ _ _ _ _ _ _ (by exact hw.mono hB5.drew) HL.out).mono ?_; rintro e w6 ⟨bk6, rfl, hlo6, hhi6, hbk6, hb6'⟩; have hb6 := (Below.refl w5.heap.size w5).drew.trans hb6'; have hY6 := box_later hY5 hz5 hb6; have hS6 := heap_strs hbk6 hw.len hw.small; clear hb6')
      | (go_at_call 10; refine (eqGateField_yes _ _ _ _ _ _ _ _ _ _ _ _ _ _ _ _ (by exact hS5.mono hb6) (by exact hS6)).mono ?_; rintro e w7 ⟨rfl, hb7⟩))
    all_goals go_wp2_with fail
    all_goals go_ret
    all_goals exact ⟨rfl, (hB5.trans (hb6.mono (by omega))).trans (hb7.mono (by have := hb6.size; omega))⟩

end Go.Proofs.Ytgoanbajjflacaa
