import Derived.Test.YtmfgjafdnopfbaaGreatM14
namespace Go.Proofs.YtmfgjafdnopfbaaGreat
open Go.RowKit
abbrev Dr (r : Nat) (w w' : World) : Prop := Below w.heap.size (clr r w) (clr r w')
theorem qV {r : Nat} {w w' : World} (h : Below w.heap.size w w') : Dr r w w' := zbI h
theorem zaK {r : Nat} {w w' : World} (h : Dr r w w') : w.heap.size <= w'.heap.size := by have := h.size; rwa [jA, jA] at this
theorem jq {r : Nat} {a b c : World} (h : Dr r a b) (k : Dr r b c) : Dr r a c := Below.trans h (Below.mono k (zaK h))
theorem zH {r k : Nat} {w w' : World} (h : Dr r w w') (hk : k < w.heap.size) (hr : k ≠ r) : w'.heap[k]? = w.heap[k]? := by
  have := h.block k hk
  rwa [zam w hr, zam w' hr] at this
set_option maxHeartbeats 1000000 in
theorem zgW (a : Option Addr) (m cap : Nat) (w : World) (hu : zcq w a m) (hc : m <= cap) :
    Calls Tryz.prog 30 #[.slice a m cap] w fun e w' => e = .returned (.pointer (some ⟨w.heap.size, 0, none⟩)) /\ yF w' w.heap.size 0 /\ Below w.heap.size w w' := by
  have hl := hu.len
  unfold maxLen at hl
  have HU : Hid (zcq w a m) := hu
  clear hu
  have key : ∀ k c', k <= m -> k <= 2000 -> yF (w.alloc (.cells #[.slice a k c', .int .i64 ((0 : Nat) : Int)] 89)) w.heap.size 0 := fun k c' hk h2 => by
    refine ⟨a, k, c', h2, (MapKept.heap_alloc w _).1, fun hp => ?_⟩
    obtain ⟨b, off, ha, hb, hx⟩ := HU.out.cells (by omega)
    refine ⟨b, off, ha, hb, fun i hi => ?_⟩
    obtain ⟨x, x0, x1, hc⟩ := hx i (by omega)
    have hbl : Below w.heap.size w (w.alloc (.cells #[.slice a k c', .int .i64 ((0 : Nat) : Int)] 89)) := (Below.refl _ _).alloc (Nat.le_refl _) _
    exact ⟨x, x0, x1, (hbl.cell (p := ⟨b, off + i, none⟩) hb).trans hc⟩
  have HK : Hid (∀ k c', k <= m -> k <= 2000 -> yF (w.alloc (.cells #[.slice a k c', .int .i64 ((0 : Nat) : Int)] 89)) w.heap.size 0) := key
  clear key
  by_cases h2 : 2000 < m
  · have hd : decide ((2000 : Int) < (m : Int)) = true := by simp; omega
    go_enter Tryz.func30, Tryz.ntmps30
    go_wp2_with fail
    go_ret
    exact ⟨rfl, HK.out 2000 _ (by omega) (by omega), (Below.refl _ _).alloc (Nat.le_refl _) _⟩
  · have hd : decide ((2000 : Int) < (m : Int)) = false := by simp; omega
    go_enter Tryz.func30, Tryz.ntmps30
    go_wp2_with fail
    go_ret
    exact ⟨rfl, HK.out m _ (by omega) (by omega), (Below.refl _ _).alloc (Nat.le_refl _) _⟩
end Go.Proofs.YtmfgjafdnopfbaaGreat
