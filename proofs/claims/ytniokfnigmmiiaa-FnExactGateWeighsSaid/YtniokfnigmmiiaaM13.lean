import Derived.Test.YtniokfnigmmiiaaM12
import Derived.Test.YtniokfnigmmiiaaM06
import Derived.Deep.RegionHeld3
import Derived.Test.YtniokfnigmmiiaaRows
import Derived.Test.YtniokfnigmmiiaaM02
import Derived.ProofKit
import Derived.SliceStrings
namespace Go.Proofs.Ytniokfnigmmiiaa
open Go.RowKit

set_option maxHeartbeats 4000000 in
theorem lawWeighs_any (l : Lw) (la lb lc : Option Addr) (lca lcb lcc : Nat) (o : Ob) (oa oa' : Option Addr) (ocap ocap' : Nat) (res : ByteArray) (w : World) (hl : LwAt w l la lb lc) (ho : ObAt w o oa oa') (hr : res.size ≤ maxLen) :
    Calls Try.prog 3 #[.agg (l.cells la lb lc lca lcb lcc), .agg #[.string o.kd, .string o.nm, .string o.tm, .slice oa o.vs.length ocap, .bool o.en, .slice oa' o.hs.length ocap', .int .i64 o.vr], .string res] w fun e w' => e = .returned (.bool true) ∧ Below w.heap.size w w' := by
  have HL : Hid (LwAt w l la lb lc) := hl
  have HO : Hid (ObAt w o oa oa') := ho
  have hr' := hr
  unfold maxLen at hr'
  clear hl ho hr
  unfold Lw.cells
  by_cases hrs : 1048576 < (res.size : Int)
  · go_enter Try.func3, Try.ntmps3
    go_wp2_with fail
    go_ret
    exact ⟨rfl, below2' _ _ _⟩
  go_enter Try.func3, Try.ntmps3
  go_wp2_with fail
  obtain ⟨hX0, hO0⟩ := two_boxes w #[.slice la l.ss.length lca, .slice lb l.ms.length lcb, .slice lc l.ts.length lcc] #[.string o.kd, .string o.nm, .string o.tm, .slice oa o.vs.length ocap, .bool o.en, .slice oa' o.hs.length ocap', .int .i64 o.vr] 26 29
  have hB0 := below2' w (.cells #[.slice la l.ss.length lca, .slice lb l.ms.length lcb, .slice lc l.ts.length lcc] 26) (.cells #[.string o.kd, .string o.nm, .string o.tm, .slice oa o.vs.length ocap, .bool o.en, .slice oa' o.hs.length ocap', .int .i64 o.vr] 29)
  obtain ⟨W0, hW0⟩ : ∃ W0, W0 = (w.alloc (.cells #[.slice la l.ss.length lca, .slice lb l.ms.length lcb, .slice lc l.ts.length lcc] 26)).alloc (.cells #[.string o.kd, .string o.nm, .string o.tm, .slice oa o.vs.length ocap, .bool o.en, .slice oa' o.hs.length ocap', .int .i64 o.vr] 29) := ⟨_, rfl⟩
  have zX0 : w.heap.size < W0.heap.size := by rw [hW0]; simp; omega
  have zO0 : w.heap.size + 1 < W0.heap.size := by rw [hW0]; simp
  rw [← hW0] at hB0 hX0 hO0 ⊢
  clear hW0
  refine (szGateLaw_any l _ _ _ _ _ _ _ _ (HL.out.mono hB0) (by omega) (by omega)).mono ?_
  rintro e w1 ⟨rfl, hb⟩
  have hX1 := box_later hX0 zX0 hb
  have zX1 := Nat.lt_of_lt_of_le zX0 hb.size
  have hO1 := box_later hO0 zO0 hb
  have zO1 := Nat.lt_of_lt_of_le zO0 hb.size
  have hB1 := hB0.trans (hb.mono hB0.size)
  clear hb hX0 zX0 hO0 zO0 hB0
  by_cases hsz : (l.sz : Int) ≤ 1048576
  rotate_left
  · rw [szRes_no (by omega)]
    go_wp2_with fail
    go_ret
    exact ⟨rfl, hB1⟩
  have HF : Hid l.Few := Lw.few hsz
  have hneg : decide (1048576 - (l.sz : Int) < 0) = false := by simp; omega
  rw [szRes_yes hsz]
  go_wp2_with fail
  refine (szGateObject_any o _ _ _ _ _ _ (HO.out.mono hB1) (by omega) (by omega)).mono ?_
  rintro e w2 ⟨rfl, hb⟩
  have hX2 := box_later hX1 zX1 hb
  have zX2 := Nat.lt_of_lt_of_le zX1 hb.size
  have hO2 := box_later hO1 zO1 hb
  have zO2 := Nat.lt_of_lt_of_le zO1 hb.size
  have hB2 := hB1.trans (hb.mono hB1.size)
  clear hb hX1 zX1 hO1 zO1 hB1
  by_cases hoz : (obSz o : Int) ≤ 1048576 - (l.sz : Int)
  rotate_left
  · rw [szRes_no (by omega)]
    go_wp2_with fail
    go_ret
    exact ⟨rfl, hB2⟩
  have HLO : Hid (o.vs.length ≤ 1048576 ∧ o.hs.length ≤ 1048576) := ob_few hoz (by omega)
  have hneg2 : decide (1048576 - (l.sz : Int) - (obSz o : Int) < 0) = false := by simp; omega
  rw [szRes_yes hoz]
  go_wp2_with fail
  have hX := box_later hX2 zX2 (Below.refl w2.heap.size w2).drew
  have zX : w.heap.size < w2.drew.heap.size := zX2
  have hO := box_later hO2 zO2 (Below.refl w2.heap.size w2).drew
  have zO : w.heap.size + 1 < w2.drew.heap.size := zO2
  have hB := hB2.drew
  clear hX2 zX2 hO2 zO2 hB2
  go_region_held3 (fun w' => (∀ j, w'.cell? ⟨w.heap.size, j, none⟩ = (#[.slice la l.ss.length lca, .slice lb l.ms.length lcb, .slice lc l.ts.length lcc] : Array Value)[j]?) ∧ (∀ j, w'.cell? ⟨w.heap.size + 1, j, none⟩ = (#[.string o.kd, .string o.nm, .string o.tm, .slice oa o.vs.length ocap, .bool o.en, .slice oa' o.hs.length ocap', .int .i64 o.vr] : Array Value)[j]?)) (exact ⟨hX, hO⟩) (first
    | (go_at_call 8; refine (toGateLaw_any l _ _ _ _ _ _ _ (by exact HL.out.mono hB) HF.out).mono ?_; rintro e w3 ⟨pa, pb, pc, rfl, hl30, hb⟩; unfold Lw.cells; have hl3 := hl30; have hX := box_later hX zX hb; have hO := box_later hO zO hb; have hB := hB.trans (hb.mono hB.size); have zX := Nat.lt_of_lt_of_le zX hb.size; have zO := Nat.lt_of_lt_of_le zO hb.size; clear hb)
    | (go_at_call 9; refine (toGateObject_any o _ _ _ _ _ (by exact HO.out.mono hB) HLO.out.1 HLO.out.2).mono ?_; rintro e w3 ⟨pv, ph, rfl, hlo, hhi, hne, hv0, hh0, hb⟩; have ho3 := ob_own HO.out hv0 hh0; clear hlo hhi hne hv0 hh0; have hX := box_later hX zX hb; have hO := box_later hO zO hb; have hl3 := hl3.mono hb; have hB := hB.trans (hb.mono hB.size); have zX := Nat.lt_of_lt_of_le zX hb.size; have zO := Nat.lt_of_lt_of_le zO hb.size; clear hb)
    | (go_at_call 7; refine (specWeighs_any l _ _ _ _ _ _ o _ _ _ _ res _ (by exact hl3) (by exact ho3) HLO.out.1).mono ?_; rintro e w3 ⟨rfl, hb⟩; clear hl3; clear ho3; have hX := box_later hX zX hb; have hO := box_later hO zO hb; have hB := hB.trans (hb.mono hB.size); have zX := Nat.lt_of_lt_of_le zX hb.size; have zO := Nat.lt_of_lt_of_le zO hb.size; clear hb))
  have hX3 := hX
  have zX3 := zX
  have hO3 := hO
  have zO3 := zO
  have hB3 := hB
  clear hX zX hO zO hB
  go_wp2_with fail
  refine (toGateLaw_any l _ _ _ _ _ _ _ (HL.out.mono hB3) HF.out).mono ?_
  rintro e w4 ⟨a4, b4, c4, rfl, hl, hb⟩
  have kl4 := hl
  have hX4 := box_later hX3 zX3 hb
  have zX4 := Nat.lt_of_lt_of_le zX3 hb.size
  have hO4 := box_later hO3 zO3 hb
  have zO4 := Nat.lt_of_lt_of_le zO3 hb.size
  have hB4 := hB3.trans (hb.mono hB3.size)
  clear hb hX3 zX3 hO3 zO3 hB3 hl
  unfold Lw.cells
  go_wp2_with fail
  have hb : Below w4.heap.size w4 (w4.alloc (.cells #[.slice a4 l.ss.length l.ss.length, .slice b4 l.ms.length l.ms.length, .slice c4 l.ts.length l.ts.length] 37)) := (Below.refl _ _).alloc (Nat.le_refl _) _
  have hN := box_new w4 #[.slice a4 l.ss.length l.ss.length, .slice b4 l.ms.length l.ms.length, .slice c4 l.ts.length l.ts.length] 37
  obtain ⟨w5, hN0⟩ : ∃ w5, w5 = w4.alloc (.cells #[.slice a4 l.ss.length l.ss.length, .slice b4 l.ms.length l.ms.length, .slice c4 l.ts.length l.ts.length] 37) := ⟨_, rfl⟩
  have hNz : w4.heap.size < w5.heap.size := by rw [hN0]; simp
  rw [← hN0] at hb hN ⊢
  clear hN0
  have hX5 := box_later hX4 zX4 hb
  have zX5 := Nat.lt_of_lt_of_le zX4 hb.size
  have hO5 := box_later hO4 zO4 hb
  have zO5 := Nat.lt_of_lt_of_le zO4 hb.size
  have kl5 := kl4.mono hb
  have hB5 := hB4.trans (hb.mono hB4.size)
  clear hb hX4 zX4 hO4 zO4 kl4 hB4
  have hV5 := hN
  have zV5 := hNz
  clear hN hNz
  refine (toGateObject_any o _ _ _ _ _ (HO.out.mono hB5) HLO.out.1 HLO.out.2).mono ?_
  rintro e w6 ⟨bv, bh, rfl, hlo, hhi, hne, hv0, hh0, hb⟩
  have ko6 := ob_own HO.out hv0 hh0
  have hX6 := box_later hX5 zX5 hb
  have zX6 := Nat.lt_of_lt_of_le zX5 hb.size
  have hO6 := box_later hO5 zO5 hb
  have zO6 := Nat.lt_of_lt_of_le zO5 hb.size
  have hV6 := box_later hV5 zV5 hb
  have zV6 := Nat.lt_of_lt_of_le zV5 hb.size
  have kl6 := kl5.mono hb
  have hB6 := hB5.trans (hb.mono hB5.size)
  clear hb hX5 zX5 hO5 zO5 hV5 zV5 kl5 hB5 hlo hhi hne hv0 hh0
  go_wp2_with fail
  have hb : Below w6.heap.size w6 (w6.alloc (.cells #[.string o.kd, .string o.nm, .string o.tm, .slice (some ⟨bv, 0, none⟩) o.vs.length o.vs.length, .bool o.en, .slice (some ⟨bh, 0, none⟩) o.hs.length o.hs.length, .int .i64 o.vr] 39)) := (Below.refl _ _).alloc (Nat.le_refl _) _
  have hN := box_new w6 #[.string o.kd, .string o.nm, .string o.tm, .slice (some ⟨bv, 0, none⟩) o.vs.length o.vs.length, .bool o.en, .slice (some ⟨bh, 0, none⟩) o.hs.length o.hs.length, .int .i64 o.vr] 39
  obtain ⟨w7, hN0⟩ : ∃ w7, w7 = w6.alloc (.cells #[.string o.kd, .string o.nm, .string o.tm, .slice (some ⟨bv, 0, none⟩) o.vs.length o.vs.length, .bool o.en, .slice (some ⟨bh, 0, none⟩) o.hs.length o.hs.length, .int .i64 o.vr] 39) := ⟨_, rfl⟩
  have hNz : w6.heap.size < w7.heap.size := by rw [hN0]; simp
  rw [← hN0] at hb hN ⊢
  clear hN0
  have hX7 := box_later hX6 zX6 hb
  have zX7 := Nat.lt_of_lt_of_le zX6 hb.size
  have hO7 := box_later hO6 zO6 hb
  have zO7 := Nat.lt_of_lt_of_le zO6 hb.size
  have hV7 := box_later hV6 zV6 hb
  have zV7 := Nat.lt_of_lt_of_le zV6 hb.size
  have kl7 := kl6.mono hb
  have ko7 := ko6.mono hb
  have hB7 := hB6.trans (hb.mono hB6.size)
  clear hb hX6 zX6 hO6 zO6 hV6 zV6 kl6 ko6 hB6
  have hU7 := hN
  have zU7 := hNz
  clear hN hNz
  refine (implWeighs_any l _ _ _ _ _ _ o _ _ _ _ res _ kl7 ko7 HLO.out.1).mono ?_
  rintro e w8 ⟨rfl, hb⟩
  have hX8 := box_later hX7 zX7 hb
  have zX8 := Nat.lt_of_lt_of_le zX7 hb.size
  have hO8 := box_later hO7 zO7 hb
  have zO8 := Nat.lt_of_lt_of_le zO7 hb.size
  have hV8 := box_later hV7 zV7 hb
  have zV8 := Nat.lt_of_lt_of_le zV7 hb.size
  have hU8 := box_later hU7 zU7 hb
  have zU8 := Nat.lt_of_lt_of_le zU7 hb.size
  have kl8 := kl7.mono hb
  have ko8 := ko7.mono hb
  have hB8 := hB7.trans (hb.mono hB7.size)
  clear hb hX7 zX7 hO7 zO7 hV7 zV7 hU7 zU7 kl7 ko7 hB7
  have hnn : (Gate.weighs l.ss o res != Gate.weighs l.ss o res) = false := by simp
  go_wp2_with fail
  have hX := box_later hX8 zX8 (Below.refl w8.heap.size w8).drew
  have zX : w.heap.size < w8.drew.heap.size := zX8
  have hO := box_later hO8 zO8 (Below.refl w8.heap.size w8).drew
  have zO : w.heap.size + 1 < w8.drew.heap.size := zO8
  have hV := box_later hV8 zV8 (Below.refl w8.heap.size w8).drew
  have zV : w4.heap.size < w8.drew.heap.size := zV8
  have hU := box_later hU8 zU8 (Below.refl w8.heap.size w8).drew
  have zU : w6.heap.size < w8.drew.heap.size := zU8
  have kl := kl8.mono (Below.refl w8.heap.size w8).drew
  have ko := ko8.mono (Below.refl w8.heap.size w8).drew
  have hB := hB8.drew
  clear hX8 zX8 hO8 zO8 hV8 zV8 hU8 zU8 kl8 ko8 hB8
  go_region_held3 (fun w' => (∀ j, w'.cell? ⟨w.heap.size, j, none⟩ = (#[.slice la l.ss.length lca, .slice lb l.ms.length lcb, .slice lc l.ts.length lcc] : Array Value)[j]?) ∧ (∀ j, w'.cell? ⟨w.heap.size + 1, j, none⟩ = (#[.string o.kd, .string o.nm, .string o.tm, .slice oa o.vs.length ocap, .bool o.en, .slice oa' o.hs.length ocap', .int .i64 o.vr] : Array Value)[j]?) ∧ (∀ j, w'.cell? ⟨w4.heap.size, j, none⟩ = (#[.slice a4 l.ss.length l.ss.length, .slice b4 l.ms.length l.ms.length, .slice c4 l.ts.length l.ts.length] : Array Value)[j]?) ∧ (∀ j, w'.cell? ⟨w6.heap.size, j, none⟩ = (#[.string o.kd, .string o.nm, .string o.tm, .slice (some ⟨bv, 0, none⟩) o.vs.length o.vs.length, .bool o.en, .slice (some ⟨bh, 0, none⟩) o.hs.length o.hs.length, .int .i64 o.vr] : Array Value)[j]?)) (exact ⟨hX, hO, hV, hU⟩) (first
    | (go_at_call 8; refine (toGateLaw_any l _ _ _ _ _ _ _ (by exact HL.out.mono hB) HF.out).mono ?_; rintro e w9 ⟨qa, qb, qc, rfl, hl90, hb⟩; unfold Lw.cells; have hl9 := hl90; have hX := box_later hX zX hb; have hO := box_later hO zO hb; have hV := box_later hV zV hb; have hU := box_later hU zU hb; have kl := kl.mono hb; have ko := ko.mono hb; have hB := hB.trans (hb.mono hB.size); have zX := Nat.lt_of_lt_of_le zX hb.size; have zO := Nat.lt_of_lt_of_le zO hb.size; have zV := Nat.lt_of_lt_of_le zV hb.size; have zU := Nat.lt_of_lt_of_le zU hb.size; clear hb)
    | (go_at_call 11; refine (eqGateLaw_yes l _ _ _ _ _ _ _ _ _ _ _ _ _ (by exact kl) (by exact hl9)).mono ?_; rintro e w9 ⟨rfl, hb⟩; clear hl9; have hX := box_later hX zX hb; have hO := box_later hO zO hb; have hV := box_later hV zV hb; have hU := box_later hU zU hb; have kl := kl.mono hb; have ko := ko.mono hb; have hB := hB.trans (hb.mono hB.size); have zX := Nat.lt_of_lt_of_le zX hb.size; have zO := Nat.lt_of_lt_of_le zO hb.size; have zV := Nat.lt_of_lt_of_le zV hb.size; have zU := Nat.lt_of_lt_of_le zU hb.size; clear hb))
  have hX9 := hX
  have zX9 := zX
  have hO9 := hO
  have zO9 := zO
  have hV9 := hV
  have zV9 := zV
  have hU9 := hU
  have zU9 := zU
  have kl9 := kl
  have ko9 := ko
  have hB9 := hB
  clear hX zX hO zO hV zV hU zU kl ko hB
  go_wp2_with fail
  have hX := box_later hX9 zX9 (Below.refl w9.heap.size w9).drew
  have zX : w.heap.size < w9.drew.heap.size := zX9
  have hO := box_later hO9 zO9 (Below.refl w9.heap.size w9).drew
  have zO : w.heap.size + 1 < w9.drew.heap.size := zO9
  have hV := box_later hV9 zV9 (Below.refl w9.heap.size w9).drew
  have zV : w4.heap.size < w9.drew.heap.size := zV9
  have hU := box_later hU9 zU9 (Below.refl w9.heap.size w9).drew
  have zU : w6.heap.size < w9.drew.heap.size := zU9
  have kl := kl9.mono (Below.refl w9.heap.size w9).drew
  have ko := ko9.mono (Below.refl w9.heap.size w9).drew
  have hB := hB9.drew
  clear hX9 zX9 hO9 zO9 hV9 zV9 hU9 zU9 kl9 ko9 hB9
  go_region_held3 (fun w' => (∀ j, w'.cell? ⟨w.heap.size, j, none⟩ = (#[.slice la l.ss.length lca, .slice lb l.ms.length lcb, .slice lc l.ts.length lcc] : Array Value)[j]?) ∧ (∀ j, w'.cell? ⟨w.heap.size + 1, j, none⟩ = (#[.string o.kd, .string o.nm, .string o.tm, .slice oa o.vs.length ocap, .bool o.en, .slice oa' o.hs.length ocap', .int .i64 o.vr] : Array Value)[j]?) ∧ (∀ j, w'.cell? ⟨w4.heap.size, j, none⟩ = (#[.slice a4 l.ss.length l.ss.length, .slice b4 l.ms.length l.ms.length, .slice c4 l.ts.length l.ts.length] : Array Value)[j]?) ∧ (∀ j, w'.cell? ⟨w6.heap.size, j, none⟩ = (#[.string o.kd, .string o.nm, .string o.tm, .slice (some ⟨bv, 0, none⟩) o.vs.length o.vs.length, .bool o.en, .slice (some ⟨bh, 0, none⟩) o.hs.length o.hs.length, .int .i64 o.vr] : Array Value)[j]?)) (exact ⟨hX, hO, hV, hU⟩) (first
    | (go_at_call 9; refine (toGateObject_any o _ _ _ _ _ (by exact HO.out.mono hB) HLO.out.1 HLO.out.2).mono ?_; rintro e wA ⟨qv, qh, rfl, hlo, hhi, hne, hv0, hh0, hb⟩; have hoA := ob_own HO.out hv0 hh0; clear hlo hhi hne hv0 hh0; have hX := box_later hX zX hb; have hO := box_later hO zO hb; have hV := box_later hV zV hb; have hU := box_later hU zU hb; have kl := kl.mono hb; have ko := ko.mono hb; have hB := hB.trans (hb.mono hB.size); have zX := Nat.lt_of_lt_of_le zX hb.size; have zO := Nat.lt_of_lt_of_le zO hb.size; have zV := Nat.lt_of_lt_of_le zV hb.size; have zU := Nat.lt_of_lt_of_le zU hb.size; clear hb)
    | (go_at_call 12; refine (eqGateObject_yes o _ _ _ _ _ _ _ _ _ (by exact ko) (by exact hoA)).mono ?_; rintro e wA ⟨rfl, hb⟩; clear hoA; have hX := box_later hX zX hb; have hO := box_later hO zO hb; have hV := box_later hV zV hb; have hU := box_later hU zU hb; have kl := kl.mono hb; have ko := ko.mono hb; have hB := hB.trans (hb.mono hB.size); have zX := Nat.lt_of_lt_of_le zX hb.size; have zO := Nat.lt_of_lt_of_le zO hb.size; have zV := Nat.lt_of_lt_of_le zV hb.size; have zU := Nat.lt_of_lt_of_le zU hb.size; clear hb))
  have hX10 := hX
  have zX10 := zX
  have hO10 := hO
  have zO10 := zO
  have hV10 := hV
  have zV10 := zV
  have hU10 := hU
  have zU10 := zU
  have kl10 := kl
  have ko10 := ko
  have hB10 := hB
  clear hX zX hO zO hV zV hU zU kl ko hB
  go_wp2_with fail
  go_ret
  exact ⟨rfl, hB10⟩

end Go.Proofs.Ytniokfnigmmiiaa

namespace Go.Proofs.Ytniokfnigmmiiaa
open Go.ChangeShapes Go.WideShapes Go.ChangeAt Go.RowKit

section
variable {H : Type} {enc : TypeId × Value → H} {P : Program} {w : World} {base : Nat} {spare : Nat → Bool} {held : Bool}

theorem addr_of_cell {a : Addr} {v : Value} (h : w.cell? a = some v) : a = ⟨a.block, a.off, none⟩ ∧ a.block < w.heap.size := by
  obtain ⟨b, o, s⟩ := a
  unfold World.cell? at h
  cases hb : w.heap[b]? with
  | none => simp [hb] at h
  | some x =>
    have hlt := (Array.getElem?_eq_some_iff.1 hb).1
    cases s with
    | none => exact ⟨rfl, hlt⟩
    | some k => cases x <;> simp [hb] at h

theorem read_strs {t e : TypeId} {fuel : Nat} {cs : List Value} {x : DataW H × List MemPlace} (ht : P.underlying t = some (.slice e)) (he : P.underlying e = some .string) (hc : P.cellsOf e = 1)
    (h : DataW.trod enc P w base spare held fuel t cs = some x) : ∃ a cap ws, cs = [.slice a ws.length cap] ∧ StrsAt w a ws := by
  rcases open_strings ht he hc h with ⟨rfl, _⟩ | ⟨a, len, cap, ss, rfl, _, hl, hm, hz, _, hcell, hws⟩
  · exact ⟨none, 0, [], rfl, ⟨by simp [maxLen], by simp, fun h => absurd rfl h⟩⟩
  · have hle : len ≤ ss.length := by rw [hz]; split <;> omega
    have hlen : (ss.take len).length = len := by rw [List.length_take]; omega
    refine ⟨some a, cap, ss.take len, by rw [hlen], ⟨by rw [hlen]; omega, fun s hs => hws s (List.mem_of_mem_take hs), fun hne => ?_⟩⟩
    have hpos : 0 < len := by
      rcases Nat.eq_zero_or_pos len with h0 | h0
      · rw [h0] at hne; simp at hne
      · exact h0
    have h0 := hcell 0 (by omega)
    obtain ⟨ha, hb⟩ := addr_of_cell h0
    simp only [Addr.add, if_true] at ha hb
    refine ⟨a.block, a.off, by rw [← ha], hb, fun i hi => ?_⟩
    have hi' : i < len := by omega
    have h1 := hcell i (by omega)
    have e1 : a.add i = ⟨a.block, a.off + i, none⟩ := by
      unfold Addr.add; split
      · rename_i h; subst h; simpa using ha
      · rfl
    rw [e1] at h1
    rw [h1, List.getElem_take, List.getD_eq_getElem?_getD, List.getElem?_eq_getElem (by omega)]
    rfl

theorem field_read {t : TypeId} {fs : Array Field} {fuel : Nat} {cs : List Value} {x : DataW H × List MemPlace} (ht : P.underlying t = some (.struct fs)) (h : DataW.trod enc P w base spare held fuel t cs = some x)
    (i : Nat) (f : Field) (hf : fs[i]? = some f) : ∃ n y, DataW.trod enc P w base spare held n f.type ((cs.drop f.offset).take (P.cellsOf f.type)) = some y := by
  obtain ⟨xs, n, _, _, _, hxl, hall⟩ := DataW.trod_struct ht h
  have hi : i < fs.size := (Array.getElem?_eq_some_iff.1 hf).1
  exact ⟨n, xs[i]'(by omega), by rw [hall i f hf, List.getElem?_eq_getElem (by omega)]⟩

/-- A field of one cell, read. -/
theorem field_one {t : TypeId} {fs : Array Field} {fuel : Nat} {cs : List Value} {x : DataW H × List MemPlace} (ht : P.underlying t = some (.struct fs)) (h : DataW.trod enc P w base spare held fuel t cs = some x)
    (i tf off : Nat) (c : Value) (hf : (fs[i]?).map (fun f => (f.type, f.offset)) = some (tf, off)) (hone : P.cellsOf tf = 1) (hc : cs[off]? = some c) : ∃ n y, DataW.trod enc P w base spare held n tf [c] = some y := by
  obtain ⟨f, hf1, hf2⟩ := Option.map_eq_some_iff.1 hf
  simp only [Prod.mk.injEq] at hf2
  obtain ⟨rfl, rfl⟩ := hf2
  obtain ⟨n, y, hy⟩ := field_read ht h i f hf1
  rw [hone] at hy
  obtain ⟨hlt, hget⟩ := List.getElem?_eq_some_iff.1 hc
  rw [List.drop_eq_getElem_cons hlt, hget] at hy
  exact ⟨n, y, hy⟩

end

theorem list_of {α : Type} {P : Nat → α → Prop} : ∀ n : Nat, (∀ i, i < n → ∃ x, P i x) → ∃ l : List α, l.length = n ∧ ∀ i (h : i < l.length), P i l[i]
  | 0, _ => ⟨[], rfl, fun i h => absurd h (by simp)⟩
  | n + 1, h => by
    obtain ⟨l, hl, hP⟩ := list_of n (fun i hi => h i (by omega))
    obtain ⟨x, hx⟩ := h n (by omega)
    refine ⟨l ++ [x], by simp [hl], fun i hi => ?_⟩
    rcases Nat.lt_or_ge i n with h1 | h1
    · rw [List.getElem_append_left (by omega)]; exact hP i (by omega)
    · have e : i = n := by simp at hi; omega
      subst e
      rw [List.getElem_append_right (by omega)]
      simpa [hl] using hx

theorem add_add (b o m j : Nat) : ((⟨b, o, none⟩ : Addr).add m).add j = ⟨b, o + m + j, none⟩ := by
  unfold Addr.add
  by_cases h1 : m = 0 <;> by_cases h2 : j = 0 <;> simp [h1, h2]

section
variable {H : Type} {enc : TypeId × Value → H} {P : Program} {w : World} {base : Nat} {spare : Nat → Bool} {held : Bool}

/-- A slice of rows of sz cells, read: nil, or where it lies and what each row reads as. -/
theorem read_rows {t e : TypeId} {sz fuel : Nat} {cs : List Value} {x : DataW H × List MemPlace} (ht : P.underlying t = some (.slice e)) (hsz : P.cellsOf e = sz) (hpos : 0 < sz)
    (h : DataW.trod enc P w base spare held fuel t cs = some x) :
    ∃ a len cap, cs = [.slice a len cap] ∧ len ≤ maxLen ∧ (0 < len → ∃ b off, a = some ⟨b, off, none⟩ ∧ b < w.heap.size ∧
      ∀ i, i < len → ∃ es n y, es.length = sz ∧ (∀ j, j < sz → w.cell? ⟨b, off + i * sz + j, none⟩ = es[j]?) ∧ DataW.trod enc P w base spare held n e es = some y) := by
  rcases DataW.trod_slice ht h with ⟨rfl, _⟩ | ⟨a, len, cap, elems, rest, n, _, rfl, _, hb, hl, hm, hlen, hel, _, _⟩
  · exact ⟨none, 0, 0, rfl, by simp [maxLen], fun h => absurd h (by omega)⟩
  · refine ⟨some a, len, cap, rfl, by omega, fun hp => ?_⟩
    have each : ∀ i, i < len → ∃ es y, w.cells? base (a.add (i * sz)) sz = some es ∧ DataW.trod enc P w base spare held n e es = some y := by
      intro i hi
      have h1 := hel i hi
      rw [hsz, List.getElem?_eq_getElem (by omega), Option.bind_eq_some_iff] at h1
      obtain ⟨es, h2, h3⟩ := h1
      exact ⟨es, _, h2, h3⟩
    obtain ⟨es0, y0, hc0, _⟩ := each 0 hp
    obtain ⟨_, _, hcell0⟩ := World.cells?_some hc0
    have h00 := hcell0 0 hpos
    have hes0 : ∃ v, w.cell? a = some v := by
      have hl0 := (World.cells?_some hc0).2.1
      refine ⟨es0[0]'(by omega), ?_⟩
      have := h00
      simp only [Nat.zero_mul, Addr.add, if_true] at this
      rw [this, List.getElem?_eq_getElem (by omega)]
    obtain ⟨v0, hv0⟩ := hes0
    obtain ⟨ha, hbl⟩ := addr_of_cell hv0
    refine ⟨a.block, a.off, by rw [← ha], hbl, fun i hi => ?_⟩
    obtain ⟨es, y, hc, hy⟩ := each i hi
    obtain ⟨_, hlen', hcell⟩ := World.cells?_some hc
    refine ⟨es, n, y, hlen', fun j hj => ?_, hy⟩
    have e1 : (a.add (i * sz)).add j = ⟨a.block, a.off + i * sz + j, none⟩ := by
      have := add_add a.block a.off (i * sz) j
      rwa [← ha] at this
    rw [← e1]
    exact hcell j hj

end

theorem Try.cellsString : Try.prog.cellsOf 9 = 1 := by kernel_rfl
theorem Try.cellsInt : Try.prog.cellsOf 3 = 1 := by kernel_rfl
theorem Try.cellsBool : Try.prog.cellsOf 4 = 1 := by kernel_rfl

end Go.Proofs.Ytniokfnigmmiiaa

namespace Go.Proofs.Ytniokfnigmmiiaa
open Go.ChangeShapes Go.WideShapes Go.ChangeAt Go.RowKit

theorem Try.cellsStrings : Try.prog.cellsOf 27 = 1 := by kernel_rfl
theorem Try.cellsField : Try.prog.cellsOf 150 = 11 := by kernel_rfl

/-- A field of a shape, read. -/
theorem read_field {H : Type} {enc : TypeId × Value → H} {w : World} {base : Nat} {spare : Nat → Bool} {held : Bool} {fuel : Nat} {cs : List Value} {x : DataW H × List MemPlace}
    (h : DataW.trod enc Try.prog w base spare held fuel 150 cs = some x) :
    ∃ nm kd ls ms a cap ws to rl mu fx df wg, cs = [.string nm, .int .i64 kd, .int .i64 ls, .int .i64 ms, .slice a (List.length ws) cap, .string to, .int .i64 rl, .bool mu, .bool fx, .string df, .string wg] ∧ StrsAt w a ws ∧
      nm.size ≤ maxLen ∧ to.size ≤ maxLen ∧ df.size ≤ maxLen ∧ wg.size ≤ maxLen := by
  have hlen : cs.length = 11 := by
    obtain ⟨_, _, _, _, hl, _, _⟩ := DataW.trod_struct Try.underlying150 h
    rw [hl]; exact Try.cellsField
  match cs, hlen with
  | [c0, c1, c2, c3, c4, c5, c6, c7, c8, c9, c10], _ =>
    have hf := field_one Try.underlying150 h
    obtain ⟨_, _, f0⟩ := hf 0 9 0 c0 rfl Try.cellsString rfl
    obtain ⟨_, _, f1⟩ := hf 1 3 1 c1 rfl Try.cellsInt rfl
    obtain ⟨_, _, f2⟩ := hf 2 3 2 c2 rfl Try.cellsInt rfl
    obtain ⟨_, _, f3⟩ := hf 3 3 3 c3 rfl Try.cellsInt rfl
    obtain ⟨_, _, f4⟩ := hf 4 27 4 c4 rfl Try.cellsStrings rfl
    obtain ⟨_, _, f5⟩ := hf 5 9 5 c5 rfl Try.cellsString rfl
    obtain ⟨_, _, f6⟩ := hf 6 3 6 c6 rfl Try.cellsInt rfl
    obtain ⟨_, _, f7⟩ := hf 7 4 7 c7 rfl Try.cellsBool rfl
    obtain ⟨_, _, f8⟩ := hf 8 4 8 c8 rfl Try.cellsBool rfl
    obtain ⟨_, _, f9⟩ := hf 9 9 9 c9 rfl Try.cellsString rfl
    obtain ⟨_, _, f10⟩ := hf 10 9 10 c10 rfl Try.cellsString rfl
    obtain ⟨nm, e0, _, s0⟩ := DataW.trod_string Try.underlying9 f0
    obtain ⟨kd, e1, _, _⟩ := DataW.trod_int Try.underlying3 f1
    obtain ⟨ls, e2, _, _⟩ := DataW.trod_int Try.underlying3 f2
    obtain ⟨ms, e3, _, _⟩ := DataW.trod_int Try.underlying3 f3
    obtain ⟨a, cap, ws, e4, hS⟩ := read_strs Try.underlying27 Try.underlying9 Try.cellsString f4
    obtain ⟨to, e5, _, s5⟩ := DataW.trod_string Try.underlying9 f5
    obtain ⟨rl, e6, _, _⟩ := DataW.trod_int Try.underlying3 f6
    obtain ⟨mu, e7, _⟩ := DataW.trod_bool Try.underlying4 f7
    obtain ⟨fx, e8, _⟩ := DataW.trod_bool Try.underlying4 f8
    obtain ⟨df, e9, _, s9⟩ := DataW.trod_string Try.underlying9 f9
    obtain ⟨wg, e10, _, s10⟩ := DataW.trod_string Try.underlying9 f10
    simp only [List.cons.injEq, and_true] at e0 e1 e2 e3 e4 e5 e6 e7 e8 e9 e10
    subst e0 e1 e2 e3 e4 e5 e6 e7 e8 e9 e10
    exact ⟨nm, kd, ls, ms, a, cap, ws, to, rl, mu, fx, df, wg, rfl, hS, s0, s5, s9, s10⟩

end Go.Proofs.Ytniokfnigmmiiaa
