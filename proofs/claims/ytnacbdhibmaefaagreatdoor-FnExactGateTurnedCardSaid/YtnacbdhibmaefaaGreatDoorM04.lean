import Derived.Test.YtnacbdhibmaefaaGreatDoorM03
namespace Go.Proofs.YtnacbdhibmaefaaGreatDoor
open Go.RowKit

set_option maxHeartbeats 400000 in
theorem isRange_any (ls ms lo hi : Int) (w : World) :
    Calls Tryz.prog 97 #[.int .i64 ls, .int .i64 ms, .int .i64 lo, .int .i64 hi] w fun e w' => e = .returned (.bool (Gate.rangeOk ls ms lo hi)) ∧ w' = w := by
  go_enter Tryz.func97, Tryz.ntmps97
  go_wp2
  all_goals
    go_ret
    refine ⟨ret_bool ?_, rfl⟩
    rw [Bool.eq_iff_iff]; simp [Gate.rangeOk]; try omega

set_option maxHeartbeats 400000 in
theorem numberBare_any (nm : ByteArray) (kd ls ms : Int) (a : Option Addr) (n cap : Nat) (to : ByteArray) (rl : Int) (mu fx : Bool) (df wg : ByteArray) (w : World) :
    Calls Tryz.prog 93 #[.agg #[.string nm, .int .i64 kd, .int .i64 ls, .int .i64 ms, .slice a n cap, .string to, .int .i64 rl, .bool mu, .bool fx, .string df, .string wg]] w fun e w' => e = .returned (.bool (Gate.bareOf 1 ls ms n to rl wg)) ∧ Below w.heap.size w w' := by
  go_enter Tryz.func93, Tryz.ntmps93
  go_wp2
  all_goals
    go_ret
    refine ⟨ret_bool ?_, (Below.refl _ _).alloc (Nat.le_refl _) _⟩
    simp_all [Gate.bareOf]
    try (rw [Bool.eq_iff_iff]; simp)

set_option maxHeartbeats 400000 in
theorem wordBare_any (nm : ByteArray) (kd ls ms : Int) (a : Option Addr) (n cap : Nat) (to : ByteArray) (rl : Int) (mu fx : Bool) (df wg : ByteArray) (w : World) :
    Calls Tryz.prog 98 #[.agg #[.string nm, .int .i64 kd, .int .i64 ls, .int .i64 ms, .slice a n cap, .string to, .int .i64 rl, .bool mu, .bool fx, .string df, .string wg]] w fun e w' => e = .returned (.bool (Gate.bareOf 2 ls ms n to rl wg)) ∧ Below w.heap.size w w' := by
  go_enter Tryz.func98, Tryz.ntmps98
  go_wp2
  all_goals
    go_ret
    refine ⟨ret_bool ?_, (Below.refl _ _).alloc (Nat.le_refl _) _⟩
    simp_all [Gate.bareOf]
    try (rw [Bool.eq_iff_iff]; simp)

set_option maxHeartbeats 400000 in
theorem textBare_any (nm : ByteArray) (kd ls ms : Int) (a : Option Addr) (n cap : Nat) (to : ByteArray) (rl : Int) (mu fx : Bool) (df wg : ByteArray) (w : World) :
    Calls Tryz.prog 103 #[.agg #[.string nm, .int .i64 kd, .int .i64 ls, .int .i64 ms, .slice a n cap, .string to, .int .i64 rl, .bool mu, .bool fx, .string df, .string wg]] w fun e w' => e = .returned (.bool (Gate.bareOf 3 ls ms n to rl wg)) ∧ Below w.heap.size w w' := by
  go_enter Tryz.func103, Tryz.ntmps103
  go_wp2
  all_goals
    go_ret
    refine ⟨ret_bool ?_, (Below.refl _ _).alloc (Nat.le_refl _) _⟩
    simp_all [Gate.bareOf]
    try (rw [Bool.eq_iff_iff]; simp)

set_option maxHeartbeats 400000 in
theorem linkBare_any (nm : ByteArray) (kd ls ms : Int) (a : Option Addr) (n cap : Nat) (to : ByteArray) (rl : Int) (mu fx : Bool) (df wg : ByteArray) (w : World) :
    Calls Tryz.prog 106 #[.agg #[.string nm, .int .i64 kd, .int .i64 ls, .int .i64 ms, .slice a n cap, .string to, .int .i64 rl, .bool mu, .bool fx, .string df, .string wg]] w fun e w' => e = .returned (.bool (Gate.bareOf 4 ls ms n to rl wg)) ∧ Below w.heap.size w w' := by
  go_enter Tryz.func106, Tryz.ntmps106
  go_wp2
  all_goals
    go_ret
    refine ⟨ret_bool ?_, (Below.refl _ _).alloc (Nat.le_refl _) _⟩
    simp_all [Gate.bareOf]
    try (rw [Bool.eq_iff_iff]; simp)

set_option maxHeartbeats 400000 in
theorem numberSound_any (nm : ByteArray) (ls ms : Int) (a : Option Addr) (cap : Nat) (ws : List ByteArray) (to : ByteArray) (rl : Int) (mu fx : Bool) (df wg : ByteArray) (a0 : Option Addr) (cap0 : Nat) (ss : List Shp) (w : World) (hwg : wg.size ≤ maxLen) :
    Calls Tryz.prog 95 #[.agg #[.string nm, .int .i64 1, .int .i64 ls, .int .i64 ms, .slice a ws.length cap, .string to, .int .i64 rl, .bool mu, .bool fx, .string df, .string wg], .slice a0 ss.length cap0] w fun e w' => e = .returned (.bool (Gate.soundOf ss ⟨nm, 1, ls, ms, ws, to, rl, mu, fx, df, wg⟩)) ∧ Below w.heap.size w w' := by
  have HF : Hid (Gate.soundOf ss ⟨nm, 1, ls, ms, ws, to, rl, mu, fx, df, wg⟩ = (Gate.rangeOk ls ms 0 1000000 && (wg.toList.isEmpty || Gate.nameOk wg))) := by simp [Gate.soundOf, Hid]
  by_cases hr : Gate.rangeOk ls ms 0 1000000 = true
  · by_cases he : wg.toList.isEmpty = true
    · go_enter Tryz.func95, Tryz.ntmps95
      go_wp2_with (go_at_call 97; refine (isRange_any _ _ _ _ _).mono ?_; rintro e w' ⟨rfl, rfl⟩)
      go_ret
      exact ⟨ret_bool (by rw [HF.out, hr, he]; rfl), (Below.refl _ _).alloc (Nat.le_refl _) _⟩
    · have he' : wg.toList.isEmpty = false := by simpa using he
      clear he
      go_enter Tryz.func95, Tryz.ntmps95
      go_wp2_with (first | (go_at_call 97; refine (isRange_any _ _ _ _ _).mono ?_; rintro e w' ⟨rfl, rfl⟩) | (go_at_call 29; refine (isName_any _ _ hwg).mono ?_; rintro e w' ⟨rfl, rfl⟩))
      go_ret
      exact ⟨ret_bool (by rw [HF.out, hr, he']; rfl), (Below.refl _ _).alloc (Nat.le_refl _) _⟩
  · have hr' : Gate.rangeOk ls ms 0 1000000 = false := by simpa using hr
    clear hr
    go_enter Tryz.func95, Tryz.ntmps95
    go_wp2_with (go_at_call 97; refine (isRange_any _ _ _ _ _).mono ?_; rintro e w' ⟨rfl, rfl⟩)
    go_ret
    exact ⟨ret_bool (by rw [HF.out, hr']; rfl), (Below.refl _ _).alloc (Nat.le_refl _) _⟩

set_option maxHeartbeats 400000 in
theorem textSound_any (nm : ByteArray) (ls ms : Int) (a : Option Addr) (cap : Nat) (ws : List ByteArray) (to : ByteArray) (rl : Int) (mu fx : Bool) (df wg : ByteArray) (a0 : Option Addr) (cap0 : Nat) (ss : List Shp) (w : World) :
    Calls Tryz.prog 105 #[.agg #[.string nm, .int .i64 3, .int .i64 ls, .int .i64 ms, .slice a ws.length cap, .string to, .int .i64 rl, .bool mu, .bool fx, .string df, .string wg], .slice a0 ss.length cap0] w fun e w' => e = .returned (.bool (Gate.soundOf ss ⟨nm, 3, ls, ms, ws, to, rl, mu, fx, df, wg⟩)) ∧ Below w.heap.size w w' := by
  have HF : Hid (Gate.soundOf ss ⟨nm, 3, ls, ms, ws, to, rl, mu, fx, df, wg⟩ = Gate.rangeOk ls ms 1 40) := by simp [Gate.soundOf, Hid]
  go_enter Tryz.func105, Tryz.ntmps105
  go_wp2_with (go_at_call 97; refine (isRange_any _ _ _ _ _).mono ?_; rintro e w' ⟨rfl, rfl⟩)
  go_ret
  exact ⟨ret_bool HF.out.symm, (Below.refl _ _).alloc (Nat.le_refl _) _⟩

set_option maxHeartbeats 400000 in
theorem wordSound_any (nm : ByteArray) (ls ms : Int) (a : Option Addr) (cap : Nat) (ws : List ByteArray) (to : ByteArray) (rl : Int) (mu fx : Bool) (df wg : ByteArray) (a0 : Option Addr) (cap0 : Nat) (ss : List Shp) (w : World) (hw : StrsAt w a ws) :
    Calls Tryz.prog 100 #[.agg #[.string nm, .int .i64 2, .int .i64 ls, .int .i64 ms, .slice a ws.length cap, .string to, .int .i64 rl, .bool mu, .bool fx, .string df, .string wg], .slice a0 ss.length cap0] w fun e w' => e = .returned (.bool (Gate.soundOf ss ⟨nm, 2, ls, ms, ws, to, rl, mu, fx, df, wg⟩)) ∧ Below w.heap.size w w' := by
  have HF : Hid (Gate.soundOf ss ⟨nm, 2, ls, ms, ws, to, rl, mu, fx, df, wg⟩ = (decide (1 ≤ ws.length) && decide (ws.length ≤ 6) && Gate.asc ws)) := by simp [Gate.soundOf, Hid]
  have hl := hw.len
  unfold maxLen at hl
  by_cases h1 : 0 < ws.length
  · by_cases h6 : ws.length ≤ 6
    · go_enter Tryz.func100, Tryz.ntmps100
      go_wp2_with (go_at_call 72; refine (areAsc_any _ _ _ _ (by exact hw.mono ((Below.refl _ _).alloc (Nat.le_refl _) _))).mono ?_; rintro e w' ⟨rfl, rfl⟩)
      go_ret
      exact ⟨ret_bool (by rw [HF.out, decide_eq_true (show 1 ≤ ws.length by omega), decide_eq_true h6]; rfl), (Below.refl _ _).alloc (Nat.le_refl _) _⟩
    · go_enter Tryz.func100, Tryz.ntmps100
      go_wp2_with fail
      go_ret
      exact ⟨ret_bool (by rw [HF.out, decide_eq_true (show 1 ≤ ws.length by omega), decide_eq_false (show ¬ ws.length ≤ 6 by omega)]; rfl), (Below.refl _ _).alloc (Nat.le_refl _) _⟩
  · go_enter Tryz.func100, Tryz.ntmps100
    go_wp2_with fail
    go_ret
    exact ⟨ret_bool (by rw [HF.out, decide_eq_false (show ¬ 1 ≤ ws.length by omega)]; rfl), (Below.refl _ _).alloc (Nat.le_refl _) _⟩

end Go.Proofs.YtnacbdhibmaefaaGreatDoor

namespace Go.Proofs.YtnacbdhibmaefaaGreatDoor
open Go.RowKit

set_option maxHeartbeats 1000000 in
theorem shapeOf_any (a : Option Addr) (cap : Nat) (ss : List Shp) (v : ByteArray) (w : World) (hw : ShpsAt w a ss) :
    Calls Tryz.prog 33 #[.slice a ss.length cap, .string v] w fun e w' => ∃ fa fcap, e = .returned (.tuple #[.agg #[.string (Gate.shapeOf ss v).kd, .slice fa (Gate.shapeOf ss v).fs.length fcap], .bool (Gate.hasKind ss v)]) ∧
      FldsAt w fa (Gate.shapeOf ss v).fs ∧ Below w.heap.size w w' := by
  have hl := hw.len
  unfold maxLen at hl
  go_enter Tryz.func33, Tryz.ntmps33
  go_wp2
  go_loopw [10] (fun i wr => ∃ k : Nat, k ≤ ss.length ∧ i = .int .i64 k ∧ Gate.hasKind (ss.take k) v = false ∧ Below (w.heap.size + 1) (w.alloc (.cells #[.string ByteArray.empty, .slice none 0 0] 49)) wr) (fun i _ => ss.length - (intOf i).toNat)
  case atStart => exact ⟨0, Nat.zero_le _, rfl, rfl, Below.refl _ _⟩
  case round =>
    obtain ⟨k, hk, rfl, hno, hbl⟩ := hrel
    have hsz : w.heap.size < wr.heap.size := by have := hbl.size; simp at this; omega
    have hB0 : Below w.heap.size w wr := ((Below.refl _ _).alloc (Nat.le_refl _) _).trans (hbl.mono (by omega))
    have hX0 : wr.cell? ⟨w.heap.size, 0, none⟩ = some (.string ByteArray.empty) := (hbl.cell (p := ⟨w.heap.size, 0, none⟩) (by simp)).trans (by rw [World.cell?_alloc_at _ _ _ _ rfl]; rfl)
    have hX1 : wr.cell? ⟨w.heap.size, 1, none⟩ = some (.slice none 0 0) := (hbl.cell (p := ⟨w.heap.size, 1, none⟩) (by simp)).trans (by rw [World.cell?_alloc_at _ _ _ _ rfl]; rfl)
    have hF0 : wr.frozen? ⟨w.heap.size, 0, none⟩ = false := (hbl.frozen (p := ⟨w.heap.size, 0, none⟩) (by simp)).trans (by rw [World.frozen?_alloc_at _ _ _ _ rfl])
    have hF1 : wr.frozen? ⟨w.heap.size, 1, none⟩ = false := (hbl.frozen (p := ⟨w.heap.size, 1, none⟩) (by simp)).trans (by rw [World.frozen?_alloc_at _ _ _ _ rfl])
    by_cases hlt : k < ss.length
    · obtain ⟨b, off, rfl, hb, hr⟩ := hw.rows (by rintro rfl; simp at hlt)
      obtain ⟨fa, fcap, hs⟩ := hr k hlt
      have hck := (hB0.cell (p := ⟨b, off + k * 2, none⟩) hb).trans hs.kind
      have hcl := (hB0.cell (p := ⟨b, off + k * 2 + 1, none⟩) hb).trans hs.list
      have hfl := hs.flds
      clear hw hr hs
      by_cases he : ss[k].kd = v
      · have hbe : (ss[k].kd.toList == v.toList) = true := by rw [Gate.beq_toList]; simpa using he
        have HA : Hid (Gate.hasKind ss v = true) := Gate.hasKind_at ss v k hlt he
        have HB : Hid (Gate.shapeOf ss v = ss[k]) := Gate.shapeOf_at ss v k hlt hno he
        clear he hno
        go_wp2
        refine bodyPost_ret (v := .tuple #[.agg #[.string ss[k].kd, .slice fa ss[k].fs.length fcap], .bool true]) (by simp [results, Tryz.results33, go_sem, hX0, hX1, hsz]) rfl ⟨fa, fcap, by rw [HA.out, HB.out], by rw [HB.out]; exact hfl, ?_⟩
        exact ((hB0.setCell (Nat.le_refl _) _).setCell (Nat.le_refl _) _).alloc (by simp [World.setCell]; omega) _
      · have hbe : (ss[k].kd.toList == v.toList) = false := by rw [Gate.beq_toList]; simpa using he
        have HS : Hid (Gate.hasKind (ss.take (k + 1)) v = false) := by unfold Hid; rw [Gate.hasKind_snoc ss v k hlt, hno, decide_eq_false he]; rfl
        clear he hno hX0 hX1 hF0 hF1
        go_wp2
        go_roundw
        case rel => exact ⟨k + 1, by omega, by go_num, HS.out, hbl.alloc (by omega) _⟩
        case measure => simp [intOf]; omega
    · have HA : Hid (Gate.hasKind ss v = false) := by rw [← Gate.hasKind_all ss v k (by omega)]; exact hno
      have HB : Hid (Gate.shapeOf ss v = Gate.noShape) := Gate.shapeOf_none ss v HA.out
      clear hno hw
      go_wp2
      refine bodyPost_ret (v := .tuple #[.agg #[.string ByteArray.empty, .slice none 0 0], .bool false]) (by simp [results, Tryz.results33, go_sem, hX0, hX1]; rfl) rfl ⟨none, 0, by rw [HA.out, HB.out]; rfl, by rw [HB.out]; exact ⟨by simp [Gate.noShape, maxLen], fun h => absurd rfl h⟩, ?_⟩
      exact (hB0.setCell (Nat.le_refl _) _).setCell (Nat.le_refl _) _

end Go.Proofs.YtnacbdhibmaefaaGreatDoor

namespace Go.Proofs.YtnacbdhibmaefaaGreatDoor
open Go.RowKit

set_option maxHeartbeats 1000000 in
theorem linkSound_any (nm : ByteArray) (ls ms : Int) (a : Option Addr) (cap : Nat) (ws : List ByteArray) (to : ByteArray) (rl : Int) (mu fx : Bool) (df wg : ByteArray) (a0 : Option Addr) (cap0 : Nat) (ss : List Shp) (w : World) (hw : ShpsAt w a0 ss) :
    Calls Tryz.prog 108 #[.agg #[.string nm, .int .i64 4, .int .i64 ls, .int .i64 ms, .slice a ws.length cap, .string to, .int .i64 rl, .bool mu, .bool fx, .string df, .string wg], .slice a0 ss.length cap0] w fun e w' => e = .returned (.bool (Gate.soundOf ss ⟨nm, 4, ls, ms, ws, to, rl, mu, fx, df, wg⟩)) ∧ Below w.heap.size w w' := by
  have HF : Hid (Gate.soundOf ss ⟨nm, 4, ls, ms, ws, to, rl, mu, fx, df, wg⟩ = (Gate.hasKind ss to && (decide (1 ≤ rl) && decide (rl ≤ 3)) && df.toList.isEmpty && (decide (rl ≠ 2) || !mu))) := by simp [Gate.soundOf, Hid]
  by_cases hk : Gate.hasKind ss to = true
  rotate_left
  · have hk' : Gate.hasKind ss to = false := by simpa using hk
    have HK : Hid (Gate.hasKind ss to = false) := hk'
    clear hk hk'
    go_enter Tryz.func108, Tryz.ntmps108
    go_wp2_with fail
    refine (shapeOf_any _ _ _ _ _ (hw.mono ((Below.refl _ _).alloc (Nat.le_refl _) _))).mono ?_
    rintro e w1 ⟨fa, fcap, rfl, _, hb1⟩
    rw [HK.out]
    have hX1 := box_later (box_new w _ _) (by simp) hb1
    have hz1 : w.heap.size < w1.heap.size := by have := hb1.size; simp at this; omega
    have hB1 : Below w.heap.size w w1 := ((Below.refl _ _).alloc (Nat.le_refl _) _).trans (hb1.mono (by simp))
    clear hb1 hw
    go_wp2_with fail
    go_ret
    exact ⟨ret_bool (by rw [HF.out, HK.out]; rfl), hB1.alloc (by omega) _⟩
  have HK : Hid (Gate.hasKind ss to = true) := hk
  clear hk
  by_cases hd : df.toList.isEmpty = true
  rotate_left
  · have hd' : df.toList.isEmpty = false := by simpa using hd
    clear hd
    go_enter Tryz.func108, Tryz.ntmps108
    go_wp2_with fail
    refine (shapeOf_any _ _ _ _ _ (hw.mono ((Below.refl _ _).alloc (Nat.le_refl _) _))).mono ?_
    rintro e w1 ⟨fa, fcap, rfl, _, hb1⟩
    rw [HK.out]
    have hX1 := box_later (box_new w _ _) (by simp) hb1
    have hz1 : w.heap.size < w1.heap.size := by have := hb1.size; simp at this; omega
    have hB1 : Below w.heap.size w w1 := ((Below.refl _ _).alloc (Nat.le_refl _) _).trans (hb1.mono (by simp))
    clear hb1 hw
    go_wp2_with fail
    go_ret
    exact ⟨ret_bool (by rw [HF.out, HK.out, hd']; simp), hB1.alloc (by omega) _⟩
  by_cases h1 : rl = 1
  · subst h1
    go_enter Tryz.func108, Tryz.ntmps108
    go_wp2_with fail
    refine (shapeOf_any _ _ _ _ _ (hw.mono ((Below.refl _ _).alloc (Nat.le_refl _) _))).mono ?_
    rintro e w1 ⟨fa, fcap, rfl, _, hb1⟩
    rw [HK.out]
    have hX1 := box_later (box_new w _ _) (by simp) hb1
    have hz1 : w.heap.size < w1.heap.size := by have := hb1.size; simp at this; omega
    have hB1 : Below w.heap.size w w1 := ((Below.refl _ _).alloc (Nat.le_refl _) _).trans (hb1.mono (by simp))
    clear hb1 hw
    go_wp2_with fail
    go_ret
    exact ⟨ret_bool (by rw [HF.out, HK.out, hd]; rfl), hB1.alloc (by omega) _⟩
  by_cases h3 : rl = 3
  · subst h3
    go_enter Tryz.func108, Tryz.ntmps108
    go_wp2_with fail
    refine (shapeOf_any _ _ _ _ _ (hw.mono ((Below.refl _ _).alloc (Nat.le_refl _) _))).mono ?_
    rintro e w1 ⟨fa, fcap, rfl, _, hb1⟩
    rw [HK.out]
    have hX1 := box_later (box_new w _ _) (by simp) hb1
    have hz1 : w.heap.size < w1.heap.size := by have := hb1.size; simp at this; omega
    have hB1 : Below w.heap.size w w1 := ((Below.refl _ _).alloc (Nat.le_refl _) _).trans (hb1.mono (by simp))
    clear hb1 hw
    go_wp2_with fail
    go_ret
    exact ⟨ret_bool (by rw [HF.out, HK.out, hd]; rfl), hB1.alloc (by omega) _⟩
  by_cases h2 : rl = 2
  · subst h2
    clear h1 h3
    go_enter Tryz.func108, Tryz.ntmps108
    go_wp2_with fail
    refine (shapeOf_any _ _ _ _ _ (hw.mono ((Below.refl _ _).alloc (Nat.le_refl _) _))).mono ?_
    rintro e w1 ⟨fa, fcap, rfl, _, hb1⟩
    rw [HK.out]
    have hX1 := box_later (box_new w _ _) (by simp) hb1
    have hz1 : w.heap.size < w1.heap.size := by have := hb1.size; simp at this; omega
    have hB1 : Below w.heap.size w w1 := ((Below.refl _ _).alloc (Nat.le_refl _) _).trans (hb1.mono (by simp))
    clear hb1 hw
    go_wp2_with fail
    go_ret
    exact ⟨ret_bool (by rw [HF.out, HK.out, hd]; rfl), hB1.alloc (by omega) _⟩
  · have HR : Hid ((decide (1 ≤ rl) && decide (rl ≤ 3)) = false) := by unfold Hid; rw [Bool.eq_false_iff]; simp; omega
    have e1 : (rl == 1) = false := by simpa using h1
    have e2 : (rl == 2) = false := by simpa using h2
    have e3 : (rl == 3) = false := by simpa using h3
    clear h1 h2 h3
    go_enter Tryz.func108, Tryz.ntmps108
    go_wp2_with fail
    refine (shapeOf_any _ _ _ _ _ (hw.mono ((Below.refl _ _).alloc (Nat.le_refl _) _))).mono ?_
    rintro e w1 ⟨fa, fcap, rfl, _, hb1⟩
    rw [HK.out]
    have hX1 := box_later (box_new w _ _) (by simp) hb1
    have hz1 : w.heap.size < w1.heap.size := by have := hb1.size; simp at this; omega
    have hB1 : Below w.heap.size w w1 := ((Below.refl _ _).alloc (Nat.le_refl _) _).trans (hb1.mono (by simp))
    clear hb1 hw
    go_wp2_with fail
    go_ret
    exact ⟨ret_bool (by rw [HF.out, HK.out, HR.out]; simp), hB1.alloc (by omega) _⟩

end Go.Proofs.YtnacbdhibmaefaaGreatDoor
