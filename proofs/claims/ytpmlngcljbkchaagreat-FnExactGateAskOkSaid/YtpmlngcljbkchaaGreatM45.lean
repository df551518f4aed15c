import Derived.Test.YtpmlngcljbkchaaGreatM44
import Derived.Test.YtpmlngcljbkchaaGreatM19
import Derived.Test.YtpmlngcljbkchaaGreatM16
import Derived.Deep.RegionHeld3
namespace Go.Proofs.YtpmlngcljbkchaaGreat
open Go.RowKit

set_option maxHeartbeats 4000000 in
theorem lawAskOk_any (l : Lw) (la lb lc : Option Addr) (lca lcb lcc : Nat) (x : Ak) (a0 a1 a2 : Option Addr) (c0 c1 c2 : Nat) (w : World) (hl : LwAt w l la lb lc) (ho : AkAt w x a0 a1 a2) :
    Calls Tryz.prog 3 #[.agg (l.cells la lb lc lca lcb lcc), .agg (x.cells a0 a1 a2 c0 c1 c2)] w fun e w' => e = .returned (.bool true) ∧ Below w.heap.size w w' := by
  have HL : Hid (LwAt w l la lb lc) := hl
  have HO : Hid (AkAt w x a0 a1 a2) := ho
  clear hl ho
  unfold Lw.cells Ak.cells
  go_enter Tryz.func3, Tryz.ntmps3
  go_wp2_with fail
  obtain ⟨hX0, hO0⟩ := two_boxesK w #[.slice la l.ss.length lca, .slice lb l.ms.length lcb, .slice lc l.ts.length lcc] #[.string x.who, .int .i64 x.vb, .string x.kd, .string x.nm, .string x.tm, .slice a0 x.vs.length c0, .slice a1 x.hs.length c1, .int .i64 x.sn, .string x.hd, .string x.to, .slice a2 x.r.vs.length c2, .string x.r.kd, .string x.r.tm, .string x.r.px, .int .i64 x.no] 26 32
  have hB0 := below2' w (.cells #[.slice la l.ss.length lca, .slice lb l.ms.length lcb, .slice lc l.ts.length lcc] 26) (.cells #[.string x.who, .int .i64 x.vb, .string x.kd, .string x.nm, .string x.tm, .slice a0 x.vs.length c0, .slice a1 x.hs.length c1, .int .i64 x.sn, .string x.hd, .string x.to, .slice a2 x.r.vs.length c2, .string x.r.kd, .string x.r.tm, .string x.r.px, .int .i64 x.no] 32)
  obtain ⟨W0, hW0⟩ : ∃ W0, W0 = (w.alloc (.cells #[.slice la l.ss.length lca, .slice lb l.ms.length lcb, .slice lc l.ts.length lcc] 26)).alloc (.cells #[.string x.who, .int .i64 x.vb, .string x.kd, .string x.nm, .string x.tm, .slice a0 x.vs.length c0, .slice a1 x.hs.length c1, .int .i64 x.sn, .string x.hd, .string x.to, .slice a2 x.r.vs.length c2, .string x.r.kd, .string x.r.tm, .string x.r.px, .int .i64 x.no] 32) := ⟨_, rfl⟩
  have zX0 : w.heap.size < W0.heap.size := by rw [hW0]; simp; omega
  have zO0 : w.heap.size + 1 < W0.heap.size := by rw [hW0]; simp
  rw [← hW0] at hB0 hX0 hO0 ⊢
  clear hW0
  refine (szGateLaw_any l _ _ _ _ _ _ _ _ (HL.out.mono hB0) (by omega) (by omega)).mono ?_
  rintro e w1 ⟨rfl, hb⟩
  have hX1 := box_later hX0 zX0 hb
  have zX1 := Nat.lt_of_lt_of_le zX0 hb.size
  have hO1 := box_later hO0 zO0 hb
  have zO1 := Nat.lt_of_lt_of_le zO0 hb.size
  have hB1 := hB0.trans (hb.mono hB0.size)
  clear hb hX0 zX0 hO0 zO0 hB0
  by_cases hsz : (l.sz : Int) ≤ 1048576
  rotate_left
  · rw [szRes_no (by omega)]
    go_wp2_with fail
    go_ret
    exact ⟨rfl, hB1⟩
  have HF : Hid l.Few := Lw.few hsz
  have hneg : decide (1048576 - (l.sz : Int) < 0) = false := by simp; omega
  rw [szRes_yes hsz]
  go_wp2_with fail
  refine (szGateAsk_any x _ _ _ _ _ _ _ _ (HO.out.mono hB1) (by omega) (by omega)).mono ?_
  rintro e w2 ⟨rfl, hb⟩
  have hX2 := box_later hX1 zX1 hb
  have zX2 := Nat.lt_of_lt_of_le zX1 hb.size
  have hO2 := box_later hO1 zO1 hb
  have zO2 := Nat.lt_of_lt_of_le zO1 hb.size
  have hB2 := hB1.trans (hb.mono hB1.size)
  clear hb hX1 zX1 hO1 zO1 hB1
  by_cases hoz : (x.sz : Int) ≤ 1048576 - (l.sz : Int)
  rotate_left
  · rw [szRes_no (by omega)]
    go_wp2_with fail
    go_ret
    exact ⟨rfl, hB2⟩
  have HG : Hid x.Few := Ak.few (by omega)
  have hneg2 : decide (1048576 - (l.sz : Int) - (x.sz : Int) < 0) = false := by simp; omega
  rw [szRes_yes hoz]
  go_wp2_with fail
  have hX := box_later hX2 zX2 (Below.refl w2.heap.size w2).drew
  have zX : w.heap.size < w2.drew.heap.size := zX2
  have hO := box_later hO2 zO2 (Below.refl w2.heap.size w2).drew
  have zO : w.heap.size + 1 < w2.drew.heap.size := zO2
  have hB := hB2.drew
  clear hX2 zX2 hO2 zO2 hB2
  go_region_held3 (fun w' => (∀ j, w'.cell? ⟨w.heap.size, j, none⟩ = (#[.slice la l.ss.length lca, .slice lb l.ms.length lcb, .slice lc l.ts.length lcc] : Array Value)[j]?) ∧ (∀ j, w'.cell? ⟨w.heap.size + 1, j, none⟩ = (#[.string x.who, .int .i64 x.vb, .string x.kd, .string x.nm, .string x.tm, .slice a0 x.vs.length c0, .slice a1 x.hs.length c1, .int .i64 x.sn, .string x.hd, .string x.to, .slice a2 x.r.vs.length c2, .string x.r.kd, .string x.r.tm, .string x.r.px, .int .i64 x.no] : Array Value)[j]?)) (exact ⟨hX, hO⟩) (first
    | (go_at_call 7; refine (toGateLaw_any l _ _ _ _ _ _ _ (by exact HL.out.mono hB) HF.out).mono ?_; rintro e w3 ⟨pa, pb, pc, rfl, hl30, hb⟩; unfold Lw.cells; have hl3 := hl30; have hX := box_later hX zX hb; have hO := box_later hO zO hb; have hB := hB.trans (hb.mono hB.size); have zX := Nat.lt_of_lt_of_le zX hb.size; have zO := Nat.lt_of_lt_of_le zO hb.size; clear hb)
    | (go_at_call 8; refine (toGateAsk_any x _ _ _ _ _ _ _ (by exact HO.out.mono hB) HG.out).mono ?_; rintro e w3 ⟨pd, pe, pf, rfl, ho30, hb⟩; unfold Ak.cells; have ho3 := ho30; have hX := box_later hX zX hb; have hO := box_later hO zO hb; have hl3 := hl3.mono hb; have hB := hB.trans (hb.mono hB.size); have zX := Nat.lt_of_lt_of_le zX hb.size; have zO := Nat.lt_of_lt_of_le zO hb.size; clear hb)
    | (go_at_call 6; refine (specAskOk_any l _ _ _ _ _ _ x _ _ _ _ _ _ _ (by exact hl3) (by exact ho3)).mono ?_; rintro e w3 ⟨rfl, hb⟩; clear hl3; clear ho3; have hX := box_later hX zX hb; have hO := box_later hO zO hb; have hB := hB.trans (hb.mono hB.size); have zX := Nat.lt_of_lt_of_le zX hb.size; have zO := Nat.lt_of_lt_of_le zO hb.size; clear hb))
  have hX3 := hX
  have zX3 := zX
  have hO3 := hO
  have zO3 := zO
  have hB3 := hB
  clear hX zX hO zO hB
  go_wp2_with fail
  refine (toGateLaw_any l _ _ _ _ _ _ _ (HL.out.mono hB3) HF.out).mono ?_
  rintro e w4 ⟨l4a, l4b, l4c, rfl, hl, hb⟩
  have kl4 := hl
  have hX4 := box_later hX3 zX3 hb
  have zX4 := Nat.lt_of_lt_of_le zX3 hb.size
  have hO4 := box_later hO3 zO3 hb
  have zO4 := Nat.lt_of_lt_of_le zO3 hb.size
  have hB4 := hB3.trans (hb.mono hB3.size)
  clear hb hX3 zX3 hO3 zO3 hB3 hl
  unfold Lw.cells
  go_wp2_with fail
  have hb : Below w4.heap.size w4 (w4.alloc (.cells #[.slice l4a l.ss.length l.ss.length, .slice l4b l.ms.length l.ms.length, .slice l4c l.ts.length l.ts.length] 40)) := (Below.refl _ _).alloc (Nat.le_refl _) _
  have hN := box_new w4 #[.slice l4a l.ss.length l.ss.length, .slice l4b l.ms.length l.ms.length, .slice l4c l.ts.length l.ts.length] 40
  obtain ⟨w5, hN0⟩ : ∃ w5, w5 = w4.alloc (.cells #[.slice l4a l.ss.length l.ss.length, .slice l4b l.ms.length l.ms.length, .slice l4c l.ts.length l.ts.length] 40) := ⟨_, rfl⟩
  have hNz : w4.heap.size < w5.heap.size := by rw [hN0]; simp
  rw [← hN0] at hb hN ⊢
  clear hN0
  have hX5 := box_later hX4 zX4 hb
  have zX5 := Nat.lt_of_lt_of_le zX4 hb.size
  have hO5 := box_later hO4 zO4 hb
  have zO5 := Nat.lt_of_lt_of_le zO4 hb.size
  have kl5 := kl4.mono hb
  have hB5 := hB4.trans (hb.mono hB4.size)
  clear hb hX4 zX4 hO4 zO4 kl4 hB4
  have hV5 := hN
  have zV5 := hNz
  clear hN hNz
  refine (toGateAsk_any x _ _ _ _ _ _ _ (HO.out.mono hB5) HG.out).mono ?_
  rintro e w6 ⟨b0, b1, b2, rfl, hl, hb⟩
  have ko6 := hl
  have hX6 := box_later hX5 zX5 hb
  have zX6 := Nat.lt_of_lt_of_le zX5 hb.size
  have hO6 := box_later hO5 zO5 hb
  have zO6 := Nat.lt_of_lt_of_le zO5 hb.size
  have hV6 := box_later hV5 zV5 hb
  have zV6 := Nat.lt_of_lt_of_le zV5 hb.size
  have kl6 := kl5.mono hb
  have hB6 := hB5.trans (hb.mono hB5.size)
  clear hb hX5 zX5 hO5 zO5 hV5 zV5 kl5 hB5 hl
  unfold Ak.cells
  go_wp2_with fail
  have hb : Below w6.heap.size w6 (w6.alloc (.cells #[.string x.who, .int .i64 x.vb, .string x.kd, .string x.nm, .string x.tm, .slice b0 x.vs.length x.vs.length, .slice b1 x.hs.length x.hs.length, .int .i64 x.sn, .string x.hd, .string x.to, .slice b2 x.r.vs.length x.r.vs.length, .string x.r.kd, .string x.r.tm, .string x.r.px, .int .i64 x.no] 44)) := (Below.refl _ _).alloc (Nat.le_refl _) _
  have hN := box_new w6 #[.string x.who, .int .i64 x.vb, .string x.kd, .string x.nm, .string x.tm, .slice b0 x.vs.length x.vs.length, .slice b1 x.hs.length x.hs.length, .int .i64 x.sn, .string x.hd, .string x.to, .slice b2 x.r.vs.length x.r.vs.length, .string x.r.kd, .string x.r.tm, .string x.r.px, .int .i64 x.no] 44
  obtain ⟨w7, hN0⟩ : ∃ w7, w7 = w6.alloc (.cells #[.string x.who, .int .i64 x.vb, .string x.kd, .string x.nm, .string x.tm, .slice b0 x.vs.length x.vs.length, .slice b1 x.hs.length x.hs.length, .int .i64 x.sn, .string x.hd, .string x.to, .slice b2 x.r.vs.length x.r.vs.length, .string x.r.kd, .string x.r.tm, .string x.r.px, .int .i64 x.no] 44) := ⟨_, rfl⟩
  have hNz : w6.heap.size < w7.heap.size := by rw [hN0]; simp
  rw [← hN0] at hb hN ⊢
  clear hN0
  have hX7 := box_later hX6 zX6 hb
  have zX7 := Nat.lt_of_lt_of_le zX6 hb.size
  have hO7 := box_later hO6 zO6 hb
  have zO7 := Nat.lt_of_lt_of_le zO6 hb.size
  have hV7 := box_later hV6 zV6 hb
  have zV7 := Nat.lt_of_lt_of_le zV6 hb.size
  have kl7 := kl6.mono hb
  have ko7 := ko6.mono hb
  have hB7 := hB6.trans (hb.mono hB6.size)
  clear hb hX6 zX6 hO6 zO6 hV6 zV6 kl6 ko6 hB6
  have hU7 := hN
  have zU7 := hNz
  clear hN hNz
  refine (implAskOk_any l _ _ _ _ _ _ x _ _ _ _ _ _ _ kl7 ko7 HF.out).mono ?_
  rintro e w8 ⟨rfl, hb⟩
  have hX8 := box_later hX7 zX7 hb
  have zX8 := Nat.lt_of_lt_of_le zX7 hb.size
  have hO8 := box_later hO7 zO7 hb
  have zO8 := Nat.lt_of_lt_of_le zO7 hb.size
  have hV8 := box_later hV7 zV7 hb
  have zV8 := Nat.lt_of_lt_of_le zV7 hb.size
  have hU8 := box_later hU7 zU7 hb
  have zU8 := Nat.lt_of_lt_of_le zU7 hb.size
  have kl8 := kl7.mono hb
  have ko8 := ko7.mono hb
  have hB8 := hB7.trans (hb.mono hB7.size)
  clear hb hX7 zX7 hO7 zO7 hV7 zV7 hU7 zU7 kl7 ko7 hB7
  have hnn : (Gate.askOk l x != Gate.askOk l x) = false := by simp
  go_wp2_with fail
  have hX := box_later hX8 zX8 (Below.refl w8.heap.size w8).drew
  have zX : w.heap.size < w8.drew.heap.size := zX8
  have hO := box_later hO8 zO8 (Below.refl w8.heap.size w8).drew
  have zO : w.heap.size + 1 < w8.drew.heap.size := zO8
  have hV := box_later hV8 zV8 (Below.refl w8.heap.size w8).drew
  have zV : w4.heap.size < w8.drew.heap.size := zV8
  have hU := box_later hU8 zU8 (Below.refl w8.heap.size w8).drew
  have zU : w6.heap.size < w8.drew.heap.size := zU8
  have kl := kl8.mono (Below.refl w8.heap.size w8).drew
  have ko := ko8.mono (Below.refl w8.heap.size w8).drew
  have hB := hB8.drew
  clear hX8 zX8 hO8 zO8 hV8 zV8 hU8 zU8 kl8 ko8 hB8
  go_region_held3 (fun w' => (∀ j, w'.cell? ⟨w.heap.size, j, none⟩ = (#[.slice la l.ss.length lca, .slice lb l.ms.length lcb, .slice lc l.ts.length lcc] : Array Value)[j]?) ∧ (∀ j, w'.cell? ⟨w.heap.size + 1, j, none⟩ = (#[.string x.who, .int .i64 x.vb, .string x.kd, .string x.nm, .string x.tm, .slice a0 x.vs.length c0, .slice a1 x.hs.length c1, .int .i64 x.sn, .string x.hd, .string x.to, .slice a2 x.r.vs.length c2, .string x.r.kd, .string x.r.tm, .string x.r.px, .int .i64 x.no] : Array Value)[j]?) ∧ (∀ j, w'.cell? ⟨w4.heap.size, j, none⟩ = (#[.slice l4a l.ss.length l.ss.length, .slice l4b l.ms.length l.ms.length, .slice l4c l.ts.length l.ts.length] : Array Value)[j]?) ∧ (∀ j, w'.cell? ⟨w6.heap.size, j, none⟩ = (#[.string x.who, .int .i64 x.vb, .string x.kd, .string x.nm, .string x.tm, .slice b0 x.vs.length x.vs.length, .slice b1 x.hs.length x.hs.length, .int .i64 x.sn, .string x.hd, .string x.to, .slice b2 x.r.vs.length x.r.vs.length, .string x.r.kd, .string x.r.tm, .string x.r.px, .int .i64 x.no] : Array Value)[j]?)) (exact ⟨hX, hO, hV, hU⟩) (first
    | (go_at_call 7; refine (toGateLaw_any l _ _ _ _ _ _ _ (by exact HL.out.mono hB) HF.out).mono ?_; rintro e w9 ⟨qa, qb, qc, rfl, hl90, hb⟩; unfold Lw.cells; have hl9 := hl90; have hX := box_later hX zX hb; have hO := box_later hO zO hb; have hV := box_later hV zV hb; have hU := box_later hU zU hb; have kl := kl.mono hb; have ko := ko.mono hb; have hB := hB.trans (hb.mono hB.size); have zX := Nat.lt_of_lt_of_le zX hb.size; have zO := Nat.lt_of_lt_of_le zO hb.size; have zV := Nat.lt_of_lt_of_le zV hb.size; have zU := Nat.lt_of_lt_of_le zU hb.size; clear hb)
    | (go_at_call 10; refine (eqGateLaw_yes l _ _ _ _ _ _ _ _ _ _ _ _ _ (by exact kl) (by exact hl9)).mono ?_; rintro e w9 ⟨rfl, hb⟩; clear hl9; have hX := box_later hX zX hb; have hO := box_later hO zO hb; have hV := box_later hV zV hb; have hU := box_later hU zU hb; have kl := kl.mono hb; have ko := ko.mono hb; have hB := hB.trans (hb.mono hB.size); have zX := Nat.lt_of_lt_of_le zX hb.size; have zO := Nat.lt_of_lt_of_le zO hb.size; have zV := Nat.lt_of_lt_of_le zV hb.size; have zU := Nat.lt_of_lt_of_le zU hb.size; clear hb))
  have hX9 := hX
  have zX9 := zX
  have hO9 := hO
  have zO9 := zO
  have hV9 := hV
  have zV9 := zV
  have hU9 := hU
  have zU9 := zU
  have kl9 := kl
  have ko9 := ko
  have hB9 := hB
  clear hX zX hO zO hV zV hU zU kl ko hB
  go_wp2_with fail
  have hX := box_later hX9 zX9 (Below.refl w9.heap.size w9).drew
  have zX : w.heap.size < w9.drew.heap.size := zX9
  have hO := box_later hO9 zO9 (Below.refl w9.heap.size w9).drew
  have zO : w.heap.size + 1 < w9.drew.heap.size := zO9
  have hV := box_later hV9 zV9 (Below.refl w9.heap.size w9).drew
  have zV : w4.heap.size < w9.drew.heap.size := zV9
  have hU := box_later hU9 zU9 (Below.refl w9.heap.size w9).drew
  have zU : w6.heap.size < w9.drew.heap.size := zU9
  have kl := kl9.mono (Below.refl w9.heap.size w9).drew
  have ko := ko9.mono (Below.refl w9.heap.size w9).drew
  have hB := hB9.drew
  clear hX9 zX9 hO9 zO9 hV9 zV9 hU9 zU9 kl9 ko9 hB9
  go_region_held3 (fun w' => (∀ j, w'.cell? ⟨w.heap.size, j, none⟩ = (#[.slice la l.ss.length lca, .slice lb l.ms.length lcb, .slice lc l.ts.length lcc] : Array Value)[j]?) ∧ (∀ j, w'.cell? ⟨w.heap.size + 1, j, none⟩ = (#[.string x.who, .int .i64 x.vb, .string x.kd, .string x.nm, .string x.tm, .slice a0 x.vs.length c0, .slice a1 x.hs.length c1, .int .i64 x.sn, .string x.hd, .string x.to, .slice a2 x.r.vs.length c2, .string x.r.kd, .string x.r.tm, .string x.r.px, .int .i64 x.no] : Array Value)[j]?) ∧ (∀ j, w'.cell? ⟨w4.heap.size, j, none⟩ = (#[.slice l4a l.ss.length l.ss.length, .slice l4b l.ms.length l.ms.length, .slice l4c l.ts.length l.ts.length] : Array Value)[j]?) ∧ (∀ j, w'.cell? ⟨w6.heap.size, j, none⟩ = (#[.string x.who, .int .i64 x.vb, .string x.kd, .string x.nm, .string x.tm, .slice b0 x.vs.length x.vs.length, .slice b1 x.hs.length x.hs.length, .int .i64 x.sn, .string x.hd, .string x.to, .slice b2 x.r.vs.length x.r.vs.length, .string x.r.kd, .string x.r.tm, .string x.r.px, .int .i64 x.no] : Array Value)[j]?)) (exact ⟨hX, hO, hV, hU⟩) (first
    | (go_at_call 8; refine (toGateAsk_any x _ _ _ _ _ _ _ (by exact HO.out.mono hB) HG.out).mono ?_; rintro e wA ⟨qd, qe, qf, rfl, hoA0, hb⟩; unfold Ak.cells; have hoA := hoA0; have hX := box_later hX zX hb; have hO := box_later hO zO hb; have hV := box_later hV zV hb; have hU := box_later hU zU hb; have kl := kl.mono hb; have ko := ko.mono hb; have hB := hB.trans (hb.mono hB.size); have zX := Nat.lt_of_lt_of_le zX hb.size; have zO := Nat.lt_of_lt_of_le zO hb.size; have zV := Nat.lt_of_lt_of_le zV hb.size; have zU := Nat.lt_of_lt_of_le zU hb.size; clear hb)
    | (go_at_call 11; refine (eqGateAsk_yes x _ _ _ _ _ _ _ _ _ _ _ _ _ (by exact ko) (by exact hoA)).mono ?_; rintro e wA ⟨rfl, hb⟩; clear hoA; have hX := box_later hX zX hb; have hO := box_later hO zO hb; have hV := box_later hV zV hb; have hU := box_later hU zU hb; have kl := kl.mono hb; have ko := ko.mono hb; have hB := hB.trans (hb.mono hB.size); have zX := Nat.lt_of_lt_of_le zX hb.size; have zO := Nat.lt_of_lt_of_le zO hb.size; have zV := Nat.lt_of_lt_of_le zV hb.size; have zU := Nat.lt_of_lt_of_le zU hb.size; clear hb))
  have hX10 := hX
  have zX10 := zX
  have hO10 := hO
  have zO10 := zO
  have hV10 := hV
  have zV10 := zV
  have hU10 := hU
  have zU10 := zU
  have kl10 := kl
  have ko10 := ko
  have hB10 := hB
  clear hX zX hO zO hV zV hU zU kl ko hB
  go_wp2_with fail
  go_ret
  exact ⟨rfl, hB10⟩

end Go.Proofs.YtpmlngcljbkchaaGreat
