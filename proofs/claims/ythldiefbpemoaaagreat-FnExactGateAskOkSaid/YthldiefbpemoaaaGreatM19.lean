import Derived.WalkKit
import Derived.Test.YthldiefbpemoaaaGreatM11
namespace Go.Proofs.YthldiefbpemoaaaGreat
open Go.RowKit

theorem step_less' {n i : Nat} (h : i < n) : n - (intOf (Value.int IntKind.i64 ((i : Int) + 1))).toNat < n - (intOf (Value.int IntKind.i64 (i : Int))).toNat := by
  show n - ((i + 1 : Nat) : Int).toNat < n - ((i : Nat) : Int).toNat
  rw [Int.toNat_natCast, Int.toNat_natCast]
  omega

theorem wrap_in (n : Int) (h : -9223372036854775808 ≤ n ∧ n ≤ 9223372036854775807) : wrap64 n = n := by unfold wrap64; omega

theorem wrap_one {i : Nat} (h : i < 9000000000000000000) : wrap64 ((i : Int) + 1) = ((i + 1 : Nat) : Int) := by
  rw [wrap_in _ ⟨by omega, by omega⟩]; omega

theorem step_less {n i : Nat} (h : i < n) (hi : i < 9000000000000000000) : n - (intOf (Value.int IntKind.i64 (wrap64 ((i : Int) + 1)))).toNat < n - (intOf (Value.int IntKind.i64 (i : Int))).toNat := by
  rw [wrap_one hi]
  show n - ((i + 1 : Nat) : Int).toNat < n - ((i : Nat) : Int).toNat
  rw [Int.toNat_natCast, Int.toNat_natCast]
  omega

end Go.Proofs.YthldiefbpemoaaaGreat

namespace Go.Proofs.YthldiefbpemoaaaGreat
open Go.RowKit

set_option maxHeartbeats 400000 in
theorem isRange_any (ls ms lo hi : Int) (w : World) :
    Calls Tryz.prog 158 #[.int .i64 ls, .int .i64 ms, .int .i64 lo, .int .i64 hi] w fun e w' => e = .returned (.bool (Gate.rangeOk ls ms lo hi)) ∧ w' = w := by
  go_enter Tryz.func158, Tryz.ntmps158
  go_wp2
  all_goals
    go_ret
    refine ⟨ret_bool ?_, rfl⟩
    rw [Bool.eq_iff_iff]; simp [Gate.rangeOk]; try omega

set_option maxHeartbeats 400000 in
theorem numberBare_any (nm : ByteArray) (kd ls ms : Int) (a : Option Addr) (n cap : Nat) (to : ByteArray) (rl : Int) (mu fx : Bool) (df wg : ByteArray) (w : World) :
    Calls Tryz.prog 154 #[.agg #[.string nm, .int .i64 kd, .int .i64 ls, .int .i64 ms, .slice a n cap, .string to, .int .i64 rl, .bool mu, .bool fx, .string df, .string wg]] w fun e w' => e = .returned (.bool (Gate.bareOf 1 ls ms n to rl wg)) ∧ Below w.heap.size w w' := by
  go_enter Tryz.func154, Tryz.ntmps154
  go_wp2
  all_goals
    go_ret
    refine ⟨ret_bool ?_, (Below.refl _ _).alloc (Nat.le_refl _) _⟩
    simp_all [Gate.bareOf]
    try (rw [Bool.eq_iff_iff]; simp)

set_option maxHeartbeats 400000 in
theorem wordBare_any (nm : ByteArray) (kd ls ms : Int) (a : Option Addr) (n cap : Nat) (to : ByteArray) (rl : Int) (mu fx : Bool) (df wg : ByteArray) (w : World) :
    Calls Tryz.prog 159 #[.agg #[.string nm, .int .i64 kd, .int .i64 ls, .int .i64 ms, .slice a n cap, .string to, .int .i64 rl, .bool mu, .bool fx, .string df, .string wg]] w fun e w' => e = .returned (.bool (Gate.bareOf 2 ls ms n to rl wg)) ∧ Below w.heap.size w w' := by
  go_enter Tryz.func159, Tryz.ntmps159
  go_wp2
  all_goals
    go_ret
    refine ⟨ret_bool ?_, (Below.refl _ _).alloc (Nat.le_refl _) _⟩
    simp_all [Gate.bareOf]
    try (rw [Bool.eq_iff_iff]; simp)

set_option maxHeartbeats 400000 in
theorem textBare_any (nm : ByteArray) (kd ls ms : Int) (a : Option Addr) (n cap : Nat) (to : ByteArray) (rl : Int) (mu fx : Bool) (df wg : ByteArray) (w : World) :
    Calls Tryz.prog 164 #[.agg #[.string nm, .int .i64 kd, .int .i64 ls, .int .i64 ms, .slice a n cap, .string to, .int .i64 rl, .bool mu, .bool fx, .string df, .string wg]] w fun e w' => e = .returned (.bool (Gate.bareOf 3 ls ms n to rl wg)) ∧ Below w.heap.size w w' := by
  go_enter Tryz.func164, Tryz.ntmps164
  go_wp2
  all_goals
    go_ret
    refine ⟨ret_bool ?_, (Below.refl _ _).alloc (Nat.le_refl _) _⟩
    simp_all [Gate.bareOf]
    try (rw [Bool.eq_iff_iff]; simp)

set_option maxHeartbeats 400000 in
theorem linkBare_any (nm : ByteArray) (kd ls ms : Int) (a : Option Addr) (n cap : Nat) (to : ByteArray) (rl : Int) (mu fx : Bool) (df wg : ByteArray) (w : World) :
    Calls Tryz.prog 167 #[.agg #[.string nm, .int .i64 kd, .int .i64 ls, .int .i64 ms, .slice a n cap, .string to, .int .i64 rl, .bool mu, .bool fx, .string df, .string wg]] w fun e w' => e = .returned (.bool (Gate.bareOf 4 ls ms n to rl wg)) ∧ Below w.heap.size w w' := by
  go_enter Tryz.func167, Tryz.ntmps167
  go_wp2
  all_goals
    go_ret
    refine ⟨ret_bool ?_, (Below.refl _ _).alloc (Nat.le_refl _) _⟩
    simp_all [Gate.bareOf]
    try (rw [Bool.eq_iff_iff]; simp)

set_option maxHeartbeats 400000 in
theorem numberSound_any (nm : ByteArray) (ls ms : Int) (a : Option Addr) (cap : Nat) (ws : List ByteArray) (to : ByteArray) (rl : Int) (mu fx : Bool) (df wg : ByteArray) (a0 : Option Addr) (cap0 : Nat) (ss : List Shp) (w : World) (hwg : wg.size ≤ maxLen) :
    Calls Tryz.prog 156 #[.agg #[.string nm, .int .i64 1, .int .i64 ls, .int .i64 ms, .slice a ws.length cap, .string to, .int .i64 rl, .bool mu, .bool fx, .string df, .string wg], .slice a0 ss.length cap0] w fun e w' => e = .returned (.bool (Gate.soundOf ss ⟨nm, 1, ls, ms, ws, to, rl, mu, fx, df, wg⟩)) ∧ Below w.heap.size w w' := by
  have HF : Hid (Gate.soundOf ss ⟨nm, 1, ls, ms, ws, to, rl, mu, fx, df, wg⟩ = (Gate.rangeOk ls ms 0 1000000 && (wg.toList.isEmpty || Gate.nameOk wg))) := by simp [Gate.soundOf, Hid]
  by_cases hr : Gate.rangeOk ls ms 0 1000000 = true
  · by_cases he : wg.toList.isEmpty = true
    · go_enter Tryz.func156, Tryz.ntmps156
      go_wp2_with (go_at_call 158; refine (isRange_any _ _ _ _ _).mono ?_; rintro e w' ⟨rfl, rfl⟩)
      go_ret
      exact ⟨ret_bool (by rw [HF.out, hr, he]; rfl), (Below.refl _ _).alloc (Nat.le_refl _) _⟩
    · have he' : wg.toList.isEmpty = false := by simpa using he
      clear he
      go_enter Tryz.func156, Tryz.ntmps156
      go_wp2_with (first | (go_at_call 158; refine (isRange_any _ _ _ _ _).mono ?_; rintro e w' ⟨rfl, rfl⟩) | (go_at_call 51; refine (isName_any _ _ hwg).mono ?_; rintro e w' ⟨rfl, rfl⟩))
      go_ret
      exact ⟨ret_bool (by rw [HF.out, hr, he']; rfl), (Below.refl _ _).alloc (Nat.le_refl _) _⟩
  · have hr' : Gate.rangeOk ls ms 0 1000000 = false := by simpa using hr
    clear hr
    go_enter Tryz.func156, Tryz.ntmps156
    go_wp2_with (go_at_call 158; refine (isRange_any _ _ _ _ _).mono ?_; rintro e w' ⟨rfl, rfl⟩)
    go_ret
    exact ⟨ret_bool (by rw [HF.out, hr']; rfl), (Below.refl _ _).alloc (Nat.le_refl _) _⟩

set_option maxHeartbeats 400000 in
theorem textSound_any (nm : ByteArray) (ls ms : Int) (a : Option Addr) (cap : Nat) (ws : List ByteArray) (to : ByteArray) (rl : Int) (mu fx : Bool) (df wg : ByteArray) (a0 : Option Addr) (cap0 : Nat) (ss : List Shp) (w : World) :
    Calls Tryz.prog 166 #[.agg #[.string nm, .int .i64 3, .int .i64 ls, .int .i64 ms, .slice a ws.length cap, .string to, .int .i64 rl, .bool mu, .bool fx, .string df, .string wg], .slice a0 ss.length cap0] w fun e w' => e = .returned (.bool (Gate.soundOf ss ⟨nm, 3, ls, ms, ws, to, rl, mu, fx, df, wg⟩)) ∧ Below w.heap.size w w' := by
  have HF : Hid (Gate.soundOf ss ⟨nm, 3, ls, ms, ws, to, rl, mu, fx, df, wg⟩ = Gate.rangeOk ls ms 1 40) := by simp [Gate.soundOf, Hid]
  go_enter Tryz.func166, Tryz.ntmps166
  go_wp2_with (go_at_call 158; refine (isRange_any _ _ _ _ _).mono ?_; rintro e w' ⟨rfl, rfl⟩)
  go_ret
  exact ⟨ret_bool HF.out.symm, (Below.refl _ _).alloc (Nat.le_refl _) _⟩

set_option maxHeartbeats 400000 in
theorem wordSound_any (nm : ByteArray) (ls ms : Int) (a : Option Addr) (cap : Nat) (ws : List ByteArray) (to : ByteArray) (rl : Int) (mu fx : Bool) (df wg : ByteArray) (a0 : Option Addr) (cap0 : Nat) (ss : List Shp) (w : World) (hw : StrsAt w a ws) :
    Calls Tryz.prog 161 #[.agg #[.string nm, .int .i64 2, .int .i64 ls, .int .i64 ms, .slice a ws.length cap, .string to, .int .i64 rl, .bool mu, .bool fx, .string df, .string wg], .slice a0 ss.length cap0] w fun e w' => e = .returned (.bool (Gate.soundOf ss ⟨nm, 2, ls, ms, ws, to, rl, mu, fx, df, wg⟩)) ∧ Below w.heap.size w w' := by
  have HF : Hid (Gate.soundOf ss ⟨nm, 2, ls, ms, ws, to, rl, mu, fx, df, wg⟩ = (decide (1 ≤ ws.length) && decide (ws.length ≤ 6) && Gate.asc ws)) := by simp [Gate.soundOf, Hid]
  have hl := hw.len
  unfold maxLen at hl
  by_cases h1 : 0 < ws.length
  · by_cases h6 : ws.length ≤ 6
    · go_enter Tryz.func161, Tryz.ntmps161
      go_wp2_with (go_at_call 130; refine (areAsc_any _ _ _ _ (by exact hw.mono ((Below.refl _ _).alloc (Nat.le_refl _) _))).mono ?_; rintro e w' ⟨rfl, rfl⟩)
      go_ret
      exact ⟨ret_bool (by rw [HF.out, decide_eq_true (show 1 ≤ ws.length by omega), decide_eq_true h6]; rfl), (Below.refl _ _).alloc (Nat.le_refl _) _⟩
    · go_enter Tryz.func161, Tryz.ntmps161
      go_wp2_with fail
      go_ret
      exact ⟨ret_bool (by rw [HF.out, decide_eq_true (show 1 ≤ ws.length by omega), decide_eq_false (show ¬ ws.length ≤ 6 by omega)]; rfl), (Below.refl _ _).alloc (Nat.le_refl _) _⟩
  · go_enter Tryz.func161, Tryz.ntmps161
    go_wp2_with fail
    go_ret
    exact ⟨ret_bool (by rw [HF.out, decide_eq_false (show ¬ 1 ≤ ws.length by omega)]; rfl), (Below.refl _ _).alloc (Nat.le_refl _) _⟩

end Go.Proofs.YthldiefbpemoaaaGreat

namespace Go.Proofs.YthldiefbpemoaaaGreat
open Go.RowKit

set_option maxHeartbeats 1000000 in
theorem linkSound_any (nm : ByteArray) (ls ms : Int) (a : Option Addr) (cap : Nat) (ws : List ByteArray) (to : ByteArray) (rl : Int) (mu fx : Bool) (df wg : ByteArray) (a0 : Option Addr) (cap0 : Nat) (ss : List Shp) (w : World) (hw : ShpsAt w a0 ss) :
    Calls Tryz.prog 169 #[.agg #[.string nm, .int .i64 4, .int .i64 ls, .int .i64 ms, .slice a ws.length cap, .string to, .int .i64 rl, .bool mu, .bool fx, .string df, .string wg], .slice a0 ss.length cap0] w fun e w' => e = .returned (.bool (Gate.soundOf ss ⟨nm, 4, ls, ms, ws, to, rl, mu, fx, df, wg⟩)) ∧ Below w.heap.size w w' := by
  have HF : Hid (Gate.soundOf ss ⟨nm, 4, ls, ms, ws, to, rl, mu, fx, df, wg⟩ = (Gate.hasKind ss to && (decide (1 ≤ rl) && decide (rl ≤ 3)) && df.toList.isEmpty && (decide (rl ≠ 2) || !mu))) := by simp [Gate.soundOf, Hid]
  by_cases hk : Gate.hasKind ss to = true
  rotate_left
  · have hk' : Gate.hasKind ss to = false := by simpa using hk
    have HK : Hid (Gate.hasKind ss to = false) := hk'
    clear hk hk'
    go_enter Tryz.func169, Tryz.ntmps169
    go_wp2_with fail
    refine (shapeOf_any _ _ _ _ _ (hw.mono ((Below.refl _ _).alloc (Nat.le_refl _) _))).mono ?_
    rintro e w1 ⟨fa, fcap, rfl, _, hb1⟩
    rw [HK.out]
    have hX1 := box_later (box_new w _ _) (by simp) hb1
    have hz1 : w.heap.size < w1.heap.size := by have := hb1.size; simp at this; omega
    have hB1 : Below w.heap.size w w1 := ((Below.refl _ _).alloc (Nat.le_refl _) _).trans (hb1.mono (by simp))
    clear hb1 hw
    go_wp2_with fail
    go_ret
    exact ⟨ret_bool (by rw [HF.out, HK.out]; rfl), hB1.alloc (by omega) _⟩
  have HK : Hid (Gate.hasKind ss to = true) := hk
  clear hk
  by_cases hd : df.toList.isEmpty = true
  rotate_left
  · have hd' : df.toList.isEmpty = false := by simpa using hd
    clear hd
    go_enter Tryz.func169, Tryz.ntmps169
    go_wp2_with fail
    refine (shapeOf_any _ _ _ _ _ (hw.mono ((Below.refl _ _).alloc (Nat.le_refl _) _))).mono ?_
    rintro e w1 ⟨fa, fcap, rfl, _, hb1⟩
    rw [HK.out]
    have hX1 := box_later (box_new w _ _) (by simp) hb1
    have hz1 : w.heap.size < w1.heap.size := by have := hb1.size; simp at this; omega
    have hB1 : Below w.heap.size w w1 := ((Below.refl _ _).alloc (Nat.le_refl _) _).trans (hb1.mono (by simp))
    clear hb1 hw
    go_wp2_with fail
    go_ret
    exact ⟨ret_bool (by rw [HF.out, HK.out, hd']; simp), hB1.alloc (by omega) _⟩
  by_cases h1 : rl = 1
  · subst h1
    go_enter Tryz.func169, Tryz.ntmps169
    go_wp2_with fail
    refine (shapeOf_any _ _ _ _ _ (hw.mono ((Below.refl _ _).alloc (Nat.le_refl _) _))).mono ?_
    rintro e w1 ⟨fa, fcap, rfl, _, hb1⟩
    rw [HK.out]
    have hX1 := box_later (box_new w _ _) (by simp) hb1
    have hz1 : w.heap.size < w1.heap.size := by have := hb1.size; simp at this; omega
    have hB1 : Below w.heap.size w w1 := ((Below.refl _ _).alloc (Nat.le_refl _) _).trans (hb1.mono (by simp))
    clear hb1 hw
    go_wp2_with fail
    go_ret
    exact ⟨ret_bool (by rw [HF.out, HK.out, hd]; rfl), hB1.alloc (by omega) _⟩
  by_cases h3 : rl = 3
  · subst h3
    go_enter Tryz.func169, Tryz.ntmps169
    go_wp2_with fail
    refine (shapeOf_any _ _ _ _ _ (hw.mono ((Below.refl _ _).alloc (Nat.le_refl _) _))).mono ?_
    rintro e w1 ⟨fa, fcap, rfl, _, hb1⟩
    rw [HK.out]
    have hX1 := box_later (box_new w _ _) (by simp) hb1
    have hz1 : w.heap.size < w1.heap.size := by have := hb1.size; simp at this; omega
    have hB1 : Below w.heap.size w w1 := ((Below.refl _ _).alloc (Nat.le_refl _) _).trans (hb1.mono (by simp))
    clear hb1 hw
    go_wp2_with fail
    go_ret
    exact ⟨ret_bool (by rw [HF.out, HK.out, hd]; rfl), hB1.alloc (by omega) _⟩
  by_cases h2 : rl = 2
  · subst h2
    clear h1 h3
    go_enter Tryz.func169, Tryz.ntmps169
    go_wp2_with fail
    refine (shapeOf_any _ _ _ _ _ (hw.mono ((Below.refl _ _).alloc (Nat.le_refl _) _))).mono ?_
    rintro e w1 ⟨fa, fcap, rfl, _, hb1⟩
    rw [HK.out]
    have hX1 := box_later (box_new w _ _) (by simp) hb1
    have hz1 : w.heap.size < w1.heap.size := by have := hb1.size; simp at this; omega
    have hB1 : Below w.heap.size w w1 := ((Below.refl _ _).alloc (Nat.le_refl _) _).trans (hb1.mono (by simp))
    clear hb1 hw
    go_wp2_with fail
    go_ret
    exact ⟨ret_bool (by rw [HF.out, HK.out, hd]; rfl), hB1.alloc (by omega) _⟩
  · have HR : Hid ((decide (1 ≤ rl) && decide (rl ≤ 3)) = false) := by unfold Hid; rw [Bool.eq_false_iff]; simp; omega
    have e1 : (rl == 1) = false := by simpa using h1
    have e2 : (rl == 2) = false := by simpa using h2
    have e3 : (rl == 3) = false := by simpa using h3
    clear h1 h2 h3
    go_enter Tryz.func169, Tryz.ntmps169
    go_wp2_with fail
    refine (shapeOf_any _ _ _ _ _ (hw.mono ((Below.refl _ _).alloc (Nat.le_refl _) _))).mono ?_
    rintro e w1 ⟨fa, fcap, rfl, _, hb1⟩
    rw [HK.out]
    have hX1 := box_later (box_new w _ _) (by simp) hb1
    have hz1 : w.heap.size < w1.heap.size := by have := hb1.size; simp at this; omega
    have hB1 : Below w.heap.size w w1 := ((Below.refl _ _).alloc (Nat.le_refl _) _).trans (hb1.mono (by simp))
    clear hb1 hw
    go_wp2_with fail
    go_ret
    exact ⟨ret_bool (by rw [HF.out, HK.out, HR.out]; simp), hB1.alloc (by omega) _⟩

end Go.Proofs.YthldiefbpemoaaaGreat
