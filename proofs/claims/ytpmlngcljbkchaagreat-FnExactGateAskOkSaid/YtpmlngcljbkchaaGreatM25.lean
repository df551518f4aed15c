import Derived.Test.YtpmlngcljbkchaaGreatM21
import Derived.Test.YtpmlngcljbkchaaGreatM16
import Derived.Test.YtpmlngcljbkchaaGreatM14
namespace Go.Proofs.YtpmlngcljbkchaaGreat
open Go.RowKit

set_option maxHeartbeats 2000000 in
theorem isKey_any (x : Ak) (a0 a1 a2 : Option Addr) (c0 c1 c2 : Nat) (l : Lw) (la lb lc : Option Addr) (lca lcb lcc : Nat) (w : World) (hs : ShpsAt w la l.ss) (hn : x.nm.size ≤ maxLen) :
    Calls Tryz.prog 129 #[.agg (x.cells a0 a1 a2 c0 c1 c2), .agg (l.cells la lb lc lca lcb lcc)] w fun e w' => e = .returned (.bool (Gate.keyOk l x)) ∧ Below w.heap.size w w' := by
  have HS : Hid (ShpsAt w la l.ss ∧ x.nm.size ≤ maxLen) := ⟨hs, hn⟩
  clear hs hn
  unfold Ak.cells Lw.cells
  by_cases hk : Gate.hasKind l.ss x.kd = true
  · have HF : Hid (Gate.keyOk l x = Gate.nameOk x.nm) := by unfold Hid Gate.keyOk; rw [hk]; rfl
    have HK : Hid (Gate.hasKind l.ss x.kd = true) := hk
    clear hk
    go_enter Tryz.func129, Tryz.ntmps129
    go_wp2_with fail
    obtain ⟨W0, hW0, hX0, hY0, hz0, hB0⟩ := pair_boxes w #[.string x.who, .int .i64 x.vb, .string x.kd, .string x.nm, .string x.tm, .slice a0 x.vs.length c0, .slice a1 x.hs.length c1, .int .i64 x.sn, .string x.hd, .string x.to, .slice a2 x.r.vs.length c2, .string x.r.kd, .string x.r.tm, .string x.r.px, .int .i64 x.no] #[.slice la l.ss.length lca, .slice lb l.ms.length lcb, .slice lc l.ts.length lcc] 44 40
    rw [← hW0]
    clear hW0
    refine (shapeOf_any _ _ l.ss x.kd _ (HS.out.1.mono hB0)).mono ?_
    rintro e w1 ⟨fa, fcap, rfl, _, hb⟩
    have hX1 := box_later hX0 (Nat.lt_of_succ_lt hz0) hb
    have hz1 := Nat.lt_of_lt_of_le hz0 hb.size
    have hq1 := Nat.lt_of_succ_lt hz1
    have hB1 := hB0.trans (hb.mono hB0.size)
    have HBa : Hid (∀ o, Below w.heap.size w (w1.alloc o)) := fun o => hB1.alloc hB1.size o
    clear hb hX0 hY0 hz0 hB0 hB1
    rw [HK.out]
    go_wp2_with fail
    refine (isName_any _ _ HS.out.2).mono ?_
    rintro e w2 ⟨rfl, rfl⟩
    go_wp2_with fail
    go_ret
    exact ⟨ret_bool HF.out.symm, HBa.out _⟩
  · have HF : Hid (Gate.keyOk l x = false) := by unfold Hid Gate.keyOk; rw [Bool.eq_false_iff.2 hk]; rfl
    have HK : Hid (Gate.hasKind l.ss x.kd = false) := Bool.eq_false_iff.2 hk
    clear hk
    go_enter Tryz.func129, Tryz.ntmps129
    go_wp2_with fail
    obtain ⟨W0, hW0, hX0, hY0, hz0, hB0⟩ := pair_boxes w #[.string x.who, .int .i64 x.vb, .string x.kd, .string x.nm, .string x.tm, .slice a0 x.vs.length c0, .slice a1 x.hs.length c1, .int .i64 x.sn, .string x.hd, .string x.to, .slice a2 x.r.vs.length c2, .string x.r.kd, .string x.r.tm, .string x.r.px, .int .i64 x.no] #[.slice la l.ss.length lca, .slice lb l.ms.length lcb, .slice lc l.ts.length lcc] 44 40
    rw [← hW0]
    clear hW0
    refine (shapeOf_any _ _ l.ss x.kd _ (HS.out.1.mono hB0)).mono ?_
    rintro e w1 ⟨fa, fcap, rfl, _, hb⟩
    have hX1 := box_later hX0 (Nat.lt_of_succ_lt hz0) hb
    have hz1 := Nat.lt_of_lt_of_le hz0 hb.size
    have hq1 := Nat.lt_of_succ_lt hz1
    have hB1 := hB0.trans (hb.mono hB0.size)
    have HBa : Hid (∀ o, Below w.heap.size w (w1.alloc o)) := fun o => hB1.alloc hB1.size o
    clear hb hX0 hY0 hz0 hB0 hB1
    rw [HK.out]
    go_wp2_with fail
    go_ret
    exact ⟨ret_bool HF.out.symm, HBa.out _⟩

set_option maxHeartbeats 2000000 in
theorem areValues_any (x : Ak) (a0 a1 a2 : Option Addr) (c0 c1 c2 : Nat) (l : Lw) (la lb lc : Option Addr) (lca lcb lcc : Nat) (w : World) (hs : ShpsAt w la l.ss) (hn : x.nm.size ≤ maxLen) :
    Calls Tryz.prog 124 #[.agg (x.cells a0 a1 a2 c0 c1 c2), .agg (l.cells la lb lc lca lcb lcc)] w fun e w' => e = .returned (.bool (Gate.countOk l x)) ∧ Below w.heap.size w w' := by
  have HS : Hid (ShpsAt w la l.ss ∧ x.nm.size ≤ maxLen) := ⟨hs, hn⟩
  clear hs hn
  unfold Ak.cells Lw.cells
  have HF : Hid (((x.vs.length : Int) == ((Gate.shapeOf l.ss x.kd).fs.length : Int)) = Gate.countOk l x) := by unfold Hid Gate.countOk; rw [Bool.eq_iff_iff]; simp; omega
  go_enter Tryz.func124, Tryz.ntmps124
  go_wp2_with fail
  obtain ⟨W0, hW0, hX0, hY0, hz0, hB0⟩ := pair_boxes w #[.string x.who, .int .i64 x.vb, .string x.kd, .string x.nm, .string x.tm, .slice a0 x.vs.length c0, .slice a1 x.hs.length c1, .int .i64 x.sn, .string x.hd, .string x.to, .slice a2 x.r.vs.length c2, .string x.r.kd, .string x.r.tm, .string x.r.px, .int .i64 x.no] #[.slice la l.ss.length lca, .slice lb l.ms.length lcb, .slice lc l.ts.length lcc] 44 40
  rw [← hW0]
  clear hW0
  refine (shapeOf_any _ _ l.ss x.kd _ (HS.out.1.mono hB0)).mono ?_
  rintro e w1 ⟨fa, fcap, rfl, _, hb⟩
  have hX1 := box_later hX0 (Nat.lt_of_succ_lt hz0) hb
  have hz1 := Nat.lt_of_lt_of_le hz0 hb.size
  have hq1 := Nat.lt_of_succ_lt hz1
  have hB1 := hB0.trans (hb.mono hB0.size)
  have HBa : Hid (∀ o, Below w.heap.size w (w1.alloc o)) := fun o => hB1.alloc hB1.size o
  clear hb hX0 hY0 hz0 hB0 hB1
  go_wp2_with fail
  go_ret
  exact ⟨ret_bool HF.out, HBa.out _⟩

set_option maxHeartbeats 4000000 in
theorem makeUse_any (l : Lw) (la lb lc : Option Addr) (lca lcb lcc : Nat) (x : Ak) (a0 a1 a2 : Option Addr) (c0 c1 c2 : Nat) (w : World) (hl : LwAt w l la lb lc) (hx : AkAt w x a0 a1 a2) :
    Calls Tryz.prog 126 #[.agg #[], .agg (l.cells la lb lc lca lcb lcc), .agg (x.cells a0 a1 a2 c0 c1 c2)] w fun e w' => e = .returned (.bool (Gate.useMake l x)) ∧ Below w.heap.size w w' := by
  have HL : Hid (LwAt w l la lb lc) := hl
  have HX : Hid (AkAt w x a0 a1 a2) := hx
  clear hl hx
  unfold Ak.cells Lw.cells
  by_cases h0 : (Gate.keyOk l x) = true
  rotate_left
  · have HF : Hid (Gate.useMake l x = false) := by unfold Hid Gate.useMake; simp [h0]
    have H0 : Hid ((Gate.keyOk l x) = false) := Bool.eq_false_iff.2 h0
    clear h0
    go_enter Tryz.func126, Tryz.ntmps126
    go_wp2_with fail
    obtain ⟨W0, hW0, hY0, hZ0, hz0, hB0⟩ := three_boxes w #[] #[.slice la l.ss.length lca, .slice lb l.ms.length lcb, .slice lc l.ts.length lcc] #[.string x.who, .int .i64 x.vb, .string x.kd, .string x.nm, .string x.tm, .slice a0 x.vs.length c0, .slice a1 x.hs.length c1, .int .i64 x.sn, .string x.hd, .string x.to, .slice a2 x.r.vs.length c2, .string x.r.kd, .string x.r.tm, .string x.r.px, .int .i64 x.no] 122 40 44
    rw [← hW0]
    clear hW0
    refine (as_bool H0.out (isKey_any x a0 a1 a2 c0 c1 c2 l la lb lc lca lcb lcc _ (HL.out.ss.mono hB0) HX.out.small.nm)).mono ?_
    rintro e w1 ⟨rfl, hb⟩
    have hY1 := box_later hY0 (Nat.lt_of_succ_lt hz0) hb
    have hZ1 := box_later hZ0 hz0 hb
    have hz1 := Nat.lt_of_lt_of_le hz0 hb.size
    have hB1 := hB0.trans (hb.mono hB0.size)
    clear hb hY0 hZ0 hz0 hB0
    have hq1 := Nat.lt_of_succ_lt hz1
    go_wp2_with fail
    go_ret
    exact ⟨ret_bool HF.out.symm, hB1⟩
  by_cases h1 : (Gate.hasTeam l.ts x.tm) = true
  rotate_left
  · have HF : Hid (Gate.useMake l x = false) := by unfold Hid Gate.useMake; simp [h1]
    have H0 : Hid ((Gate.keyOk l x) = true) := h0
    have H1 : Hid ((Gate.hasTeam l.ts x.tm) = false) := Bool.eq_false_iff.2 h1
    clear h0 h1
    go_enter Tryz.func126, Tryz.ntmps126
    go_wp2_with fail
    obtain ⟨W0, hW0, hY0, hZ0, hz0, hB0⟩ := three_boxes w #[] #[.slice la l.ss.length lca, .slice lb l.ms.length lcb, .slice lc l.ts.length lcc] #[.string x.who, .int .i64 x.vb, .string x.kd, .string x.nm, .string x.tm, .slice a0 x.vs.length c0, .slice a1 x.hs.length c1, .int .i64 x.sn, .string x.hd, .string x.to, .slice a2 x.r.vs.length c2, .string x.r.kd, .string x.r.tm, .string x.r.px, .int .i64 x.no] 122 40 44
    rw [← hW0]
    clear hW0
    refine (as_bool H0.out (isKey_any x a0 a1 a2 c0 c1 c2 l la lb lc lca lcb lcc _ (HL.out.ss.mono hB0) HX.out.small.nm)).mono ?_
    rintro e w1 ⟨rfl, hb⟩
    have hY1 := box_later hY0 (Nat.lt_of_succ_lt hz0) hb
    have hZ1 := box_later hZ0 hz0 hb
    have hz1 := Nat.lt_of_lt_of_le hz0 hb.size
    have hB1 := hB0.trans (hb.mono hB0.size)
    clear hb hY0 hZ0 hz0 hB0
    have hq1 := Nat.lt_of_succ_lt hz1
    go_wp2_with fail
    refine (as_bool H1.out (isTeam_any _ _ l.ts x.tm _ (HL.out.ts.mono hB1))).mono ?_
    rintro e w2 ⟨rfl, hb⟩
    have hY2 := box_later hY1 (Nat.lt_of_succ_lt hz1) hb
    have hZ2 := box_later hZ1 hz1 hb
    have hz2 := Nat.lt_of_lt_of_le hz1 hb.size
    have hB2 := hB1.trans (hb.mono hB1.size)
    clear hb hY1 hZ1 hz1 hB1
    have hq2 := Nat.lt_of_succ_lt hz2
    go_wp2_with fail
    go_ret
    exact ⟨ret_bool HF.out.symm, hB2⟩
  by_cases h2 : (Gate.countOk l x) = true
  rotate_left
  · have HF : Hid (Gate.useMake l x = false) := by unfold Hid Gate.useMake; simp [h2]
    have H0 : Hid ((Gate.keyOk l x) = true) := h0
    have H1 : Hid ((Gate.hasTeam l.ts x.tm) = true) := h1
    have H2 : Hid ((Gate.countOk l x) = false) := Bool.eq_false_iff.2 h2
    clear h0 h1 h2
    go_enter Tryz.func126, Tryz.ntmps126
    go_wp2_with fail
    obtain ⟨W0, hW0, hY0, hZ0, hz0, hB0⟩ := three_boxes w #[] #[.slice la l.ss.length lca, .slice lb l.ms.length lcb, .slice lc l.ts.length lcc] #[.string x.who, .int .i64 x.vb, .string x.kd, .string x.nm, .string x.tm, .slice a0 x.vs.length c0, .slice a1 x.hs.length c1, .int .i64 x.sn, .string x.hd, .string x.to, .slice a2 x.r.vs.length c2, .string x.r.kd, .string x.r.tm, .string x.r.px, .int .i64 x.no] 122 40 44
    rw [← hW0]
    clear hW0
    refine (as_bool H0.out (isKey_any x a0 a1 a2 c0 c1 c2 l la lb lc lca lcb lcc _ (HL.out.ss.mono hB0) HX.out.small.nm)).mono ?_
    rintro e w1 ⟨rfl, hb⟩
    have hY1 := box_later hY0 (Nat.lt_of_succ_lt hz0) hb
    have hZ1 := box_later hZ0 hz0 hb
    have hz1 := Nat.lt_of_lt_of_le hz0 hb.size
    have hB1 := hB0.trans (hb.mono hB0.size)
    clear hb hY0 hZ0 hz0 hB0
    have hq1 := Nat.lt_of_succ_lt hz1
    go_wp2_with fail
    refine (as_bool H1.out (isTeam_any _ _ l.ts x.tm _ (HL.out.ts.mono hB1))).mono ?_
    rintro e w2 ⟨rfl, hb⟩
    have hY2 := box_later hY1 (Nat.lt_of_succ_lt hz1) hb
    have hZ2 := box_later hZ1 hz1 hb
    have hz2 := Nat.lt_of_lt_of_le hz1 hb.size
    have hB2 := hB1.trans (hb.mono hB1.size)
    clear hb hY1 hZ1 hz1 hB1
    have hq2 := Nat.lt_of_succ_lt hz2
    go_wp2_with fail
    refine (as_bool H2.out (areValues_any x a0 a1 a2 c0 c1 c2 l la lb lc lca lcb lcc _ (HL.out.ss.mono hB2) HX.out.small.nm)).mono ?_
    rintro e w3 ⟨rfl, hb⟩
    have hY3 := box_later hY2 (Nat.lt_of_succ_lt hz2) hb
    have hZ3 := box_later hZ2 hz2 hb
    have hz3 := Nat.lt_of_lt_of_le hz2 hb.size
    have hB3 := hB2.trans (hb.mono hB2.size)
    clear hb hY2 hZ2 hz2 hB2
    have hq3 := Nat.lt_of_succ_lt hz3
    go_wp2_with fail
    go_ret
    exact ⟨ret_bool HF.out.symm, hB3⟩
  by_cases h3 : (decide (x.hs.length ≤ 3)) = true
  rotate_left
  · have HF : Hid (Gate.useMake l x = false) := by unfold Hid Gate.useMake; simp [h3]
    have H0 : Hid ((Gate.keyOk l x) = true) := h0
    have H1 : Hid ((Gate.hasTeam l.ts x.tm) = true) := h1
    have H2 : Hid ((Gate.countOk l x) = true) := h2
    have g3 : decide ((x.hs.length : Int) ≤ 3) = false := decide_eq_false (by have := of_decide_eq_false (Bool.eq_false_iff.2 h3); omega)
    clear h0 h1 h2 h3
    go_enter Tryz.func126, Tryz.ntmps126
    go_wp2_with fail
    obtain ⟨W0, hW0, hY0, hZ0, hz0, hB0⟩ := three_boxes w #[] #[.slice la l.ss.length lca, .slice lb l.ms.length lcb, .slice lc l.ts.length lcc] #[.string x.who, .int .i64 x.vb, .string x.kd, .string x.nm, .string x.tm, .slice a0 x.vs.length c0, .slice a1 x.hs.length c1, .int .i64 x.sn, .string x.hd, .string x.to, .slice a2 x.r.vs.length c2, .string x.r.kd, .string x.r.tm, .string x.r.px, .int .i64 x.no] 122 40 44
    rw [← hW0]
    clear hW0
    refine (as_bool H0.out (isKey_any x a0 a1 a2 c0 c1 c2 l la lb lc lca lcb lcc _ (HL.out.ss.mono hB0) HX.out.small.nm)).mono ?_
    rintro e w1 ⟨rfl, hb⟩
    have hY1 := box_later hY0 (Nat.lt_of_succ_lt hz0) hb
    have hZ1 := box_later hZ0 hz0 hb
    have hz1 := Nat.lt_of_lt_of_le hz0 hb.size
    have hB1 := hB0.trans (hb.mono hB0.size)
    clear hb hY0 hZ0 hz0 hB0
    have hq1 := Nat.lt_of_succ_lt hz1
    go_wp2_with fail
    refine (as_bool H1.out (isTeam_any _ _ l.ts x.tm _ (HL.out.ts.mono hB1))).mono ?_
    rintro e w2 ⟨rfl, hb⟩
    have hY2 := box_later hY1 (Nat.lt_of_succ_lt hz1) hb
    have hZ2 := box_later hZ1 hz1 hb
    have hz2 := Nat.lt_of_lt_of_le hz1 hb.size
    have hB2 := hB1.trans (hb.mono hB1.size)
    clear hb hY1 hZ1 hz1 hB1
    have hq2 := Nat.lt_of_succ_lt hz2
    go_wp2_with fail
    refine (as_bool H2.out (areValues_any x a0 a1 a2 c0 c1 c2 l la lb lc lca lcb lcc _ (HL.out.ss.mono hB2) HX.out.small.nm)).mono ?_
    rintro e w3 ⟨rfl, hb⟩
    have hY3 := box_later hY2 (Nat.lt_of_succ_lt hz2) hb
    have hZ3 := box_later hZ2 hz2 hb
    have hz3 := Nat.lt_of_lt_of_le hz2 hb.size
    have hB3 := hB2.trans (hb.mono hB2.size)
    clear hb hY2 hZ2 hz2 hB2
    have hq3 := Nat.lt_of_succ_lt hz3
    go_wp2_with fail
    go_ret
    exact ⟨ret_bool HF.out.symm, hB3⟩
  by_cases h4 : (Gate.asc x.hs) = true
  rotate_left
  · have HF : Hid (Gate.useMake l x = false) := by unfold Hid Gate.useMake; simp [h4]
    have H0 : Hid ((Gate.keyOk l x) = true) := h0
    have H1 : Hid ((Gate.hasTeam l.ts x.tm) = true) := h1
    have H2 : Hid ((Gate.countOk l x) = true) := h2
    have g3 : (x.hs.length : Int) ≤ 3 := by have := of_decide_eq_true h3; omega
    have H4 : Hid ((Gate.asc x.hs) = false) := Bool.eq_false_iff.2 h4
    clear h0 h1 h2 h3 h4
    go_enter Tryz.func126, Tryz.ntmps126
    go_wp2_with fail
    obtain ⟨W0, hW0, hY0, hZ0, hz0, hB0⟩ := three_boxes w #[] #[.slice la l.ss.length lca, .slice lb l.ms.length lcb, .slice lc l.ts.length lcc] #[.string x.who, .int .i64 x.vb, .string x.kd, .string x.nm, .string x.tm, .slice a0 x.vs.length c0, .slice a1 x.hs.length c1, .int .i64 x.sn, .string x.hd, .string x.to, .slice a2 x.r.vs.length c2, .string x.r.kd, .string x.r.tm, .string x.r.px, .int .i64 x.no] 122 40 44
    rw [← hW0]
    clear hW0
    refine (as_bool H0.out (isKey_any x a0 a1 a2 c0 c1 c2 l la lb lc lca lcb lcc _ (HL.out.ss.mono hB0) HX.out.small.nm)).mono ?_
    rintro e w1 ⟨rfl, hb⟩
    have hY1 := box_later hY0 (Nat.lt_of_succ_lt hz0) hb
    have hZ1 := box_later hZ0 hz0 hb
    have hz1 := Nat.lt_of_lt_of_le hz0 hb.size
    have hB1 := hB0.trans (hb.mono hB0.size)
    clear hb hY0 hZ0 hz0 hB0
    have hq1 := Nat.lt_of_succ_lt hz1
    go_wp2_with fail
    refine (as_bool H1.out (isTeam_any _ _ l.ts x.tm _ (HL.out.ts.mono hB1))).mono ?_
    rintro e w2 ⟨rfl, hb⟩
    have hY2 := box_later hY1 (Nat.lt_of_succ_lt hz1) hb
    have hZ2 := box_later hZ1 hz1 hb
    have hz2 := Nat.lt_of_lt_of_le hz1 hb.size
    have hB2 := hB1.trans (hb.mono hB1.size)
    clear hb hY1 hZ1 hz1 hB1
    have hq2 := Nat.lt_of_succ_lt hz2
    go_wp2_with fail
    refine (as_bool H2.out (areValues_any x a0 a1 a2 c0 c1 c2 l la lb lc lca lcb lcc _ (HL.out.ss.mono hB2) HX.out.small.nm)).mono ?_
    rintro e w3 ⟨rfl, hb⟩
    have hY3 := box_later hY2 (Nat.lt_of_succ_lt hz2) hb
    have hZ3 := box_later hZ2 hz2 hb
    have hz3 := Nat.lt_of_lt_of_le hz2 hb.size
    have hB3 := hB2.trans (hb.mono hB2.size)
    clear hb hY2 hZ2 hz2 hB2
    have hq3 := Nat.lt_of_succ_lt hz3
    go_wp2_with fail
    refine (as_bool H4.out (areAsc_any _ _ _ _ (HX.out.hs.mono hB3))).mono ?_
    rintro e w4 ⟨rfl, rfl⟩
    have hY4 := hY3
    have hZ4 := hZ3
    have hz4 := hz3
    have hB4 := hB3
    clear hY3 hZ3 hz3 hB3
    have hq4 := Nat.lt_of_succ_lt hz4
    go_wp2_with fail
    go_ret
    exact ⟨ret_bool HF.out.symm, hB4⟩
  · have HF : Hid (Gate.useMake l x = true) := by unfold Hid Gate.useMake; simp only [Bool.and_eq_true]; exact ⟨h0, h1, h2, h3, h4⟩
    have H0 : Hid ((Gate.keyOk l x) = true) := h0
    have H1 : Hid ((Gate.hasTeam l.ts x.tm) = true) := h1
    have H2 : Hid ((Gate.countOk l x) = true) := h2
    have g3 : (x.hs.length : Int) ≤ 3 := by have := of_decide_eq_true h3; omega
    have H4 : Hid ((Gate.asc x.hs) = true) := h4
    clear h0 h1 h2 h3 h4
    go_enter Tryz.func126, Tryz.ntmps126
    go_wp2_with fail
    obtain ⟨W0, hW0, hY0, hZ0, hz0, hB0⟩ := three_boxes w #[] #[.slice la l.ss.length lca, .slice lb l.ms.length lcb, .slice lc l.ts.length lcc] #[.string x.who, .int .i64 x.vb, .string x.kd, .string x.nm, .string x.tm, .slice a0 x.vs.length c0, .slice a1 x.hs.length c1, .int .i64 x.sn, .string x.hd, .string x.to, .slice a2 x.r.vs.length c2, .string x.r.kd, .string x.r.tm, .string x.r.px, .int .i64 x.no] 122 40 44
    rw [← hW0]
    clear hW0
    refine (as_bool H0.out (isKey_any x a0 a1 a2 c0 c1 c2 l la lb lc lca lcb lcc _ (HL.out.ss.mono hB0) HX.out.small.nm)).mono ?_
    rintro e w1 ⟨rfl, hb⟩
    have hY1 := box_later hY0 (Nat.lt_of_succ_lt hz0) hb
    have hZ1 := box_later hZ0 hz0 hb
    have hz1 := Nat.lt_of_lt_of_le hz0 hb.size
    have hB1 := hB0.trans (hb.mono hB0.size)
    clear hb hY0 hZ0 hz0 hB0
    have hq1 := Nat.lt_of_succ_lt hz1
    go_wp2_with fail
    refine (as_bool H1.out (isTeam_any _ _ l.ts x.tm _ (HL.out.ts.mono hB1))).mono ?_
    rintro e w2 ⟨rfl, hb⟩
    have hY2 := box_later hY1 (Nat.lt_of_succ_lt hz1) hb
    have hZ2 := box_later hZ1 hz1 hb
    have hz2 := Nat.lt_of_lt_of_le hz1 hb.size
    have hB2 := hB1.trans (hb.mono hB1.size)
    clear hb hY1 hZ1 hz1 hB1
    have hq2 := Nat.lt_of_succ_lt hz2
    go_wp2_with fail
    refine (as_bool H2.out (areValues_any x a0 a1 a2 c0 c1 c2 l la lb lc lca lcb lcc _ (HL.out.ss.mono hB2) HX.out.small.nm)).mono ?_
    rintro e w3 ⟨rfl, hb⟩
    have hY3 := box_later hY2 (Nat.lt_of_succ_lt hz2) hb
    have hZ3 := box_later hZ2 hz2 hb
    have hz3 := Nat.lt_of_lt_of_le hz2 hb.size
    have hB3 := hB2.trans (hb.mono hB2.size)
    clear hb hY2 hZ2 hz2 hB2
    have hq3 := Nat.lt_of_succ_lt hz3
    go_wp2_with fail
    refine (as_bool H4.out (areAsc_any _ _ _ _ (HX.out.hs.mono hB3))).mono ?_
    rintro e w4 ⟨rfl, rfl⟩
    have hY4 := hY3
    have hZ4 := hZ3
    have hz4 := hz3
    have hB4 := hB3
    clear hY3 hZ3 hz3 hB3
    have hq4 := Nat.lt_of_succ_lt hz4
    go_wp2_with fail
    go_ret
    exact ⟨ret_bool HF.out.symm, hB4⟩

set_option maxHeartbeats 4000000 in
theorem changeUse_any (l : Lw) (la lb lc : Option Addr) (lca lcb lcc : Nat) (x : Ak) (a0 a1 a2 : Option Addr) (c0 c1 c2 : Nat) (w : World) (hl : LwAt w l la lb lc) (hx : AkAt w x a0 a1 a2) :
    Calls Tryz.prog 132 #[.agg #[], .agg (l.cells la lb lc lca lcb lcc), .agg (x.cells a0 a1 a2 c0 c1 c2)] w fun e w' => e = .returned (.bool (Gate.useChange l x)) ∧ Below w.heap.size w w' := by
  have HL : Hid (LwAt w l la lb lc) := hl
  have HX : Hid (AkAt w x a0 a1 a2) := hx
  clear hl hx
  unfold Ak.cells Lw.cells
  by_cases h0 : (Gate.keyOk l x) = true
  rotate_left
  · have HF : Hid (Gate.useChange l x = false) := by unfold Hid Gate.useChange; simp [h0]
    have H0 : Hid ((Gate.keyOk l x) = false) := Bool.eq_false_iff.2 h0
    clear h0
    go_enter Tryz.func132, Tryz.ntmps132
    go_wp2_with fail
    obtain ⟨W0, hW0, hY0, hZ0, hz0, hB0⟩ := three_boxes w #[] #[.slice la l.ss.length lca, .slice lb l.ms.length lcb, .slice lc l.ts.length lcc] #[.string x.who, .int .i64 x.vb, .string x.kd, .string x.nm, .string x.tm, .slice a0 x.vs.length c0, .slice a1 x.hs.length c1, .int .i64 x.sn, .string x.hd, .string x.to, .slice a2 x.r.vs.length c2, .string x.r.kd, .string x.r.tm, .string x.r.px, .int .i64 x.no] 123 40 44
    rw [← hW0]
    clear hW0
    refine (as_bool H0.out (isKey_any x a0 a1 a2 c0 c1 c2 l la lb lc lca lcb lcc _ (HL.out.ss.mono hB0) HX.out.small.nm)).mono ?_
    rintro e w1 ⟨rfl, hb⟩
    have hY1 := box_later hY0 (Nat.lt_of_succ_lt hz0) hb
    have hZ1 := box_later hZ0 hz0 hb
    have hz1 := Nat.lt_of_lt_of_le hz0 hb.size
    have hB1 := hB0.trans (hb.mono hB0.size)
    clear hb hY0 hZ0 hz0 hB0
    have hq1 := Nat.lt_of_succ_lt hz1
    go_wp2_with fail
    go_ret
    exact ⟨ret_bool HF.out.symm, hB1⟩
  by_cases h1 : (Gate.countOk l x) = true
  rotate_left
  · have HF : Hid (Gate.useChange l x = false) := by unfold Hid Gate.useChange; simp [h1]
    have H0 : Hid ((Gate.keyOk l x) = true) := h0
    have H1 : Hid ((Gate.countOk l x) = false) := Bool.eq_false_iff.2 h1
    clear h0 h1
    go_enter Tryz.func132, Tryz.ntmps132
    go_wp2_with fail
    obtain ⟨W0, hW0, hY0, hZ0, hz0, hB0⟩ := three_boxes w #[] #[.slice la l.ss.length lca, .slice lb l.ms.length lcb, .slice lc l.ts.length lcc] #[.string x.who, .int .i64 x.vb, .string x.kd, .string x.nm, .string x.tm, .slice a0 x.vs.length c0, .slice a1 x.hs.length c1, .int .i64 x.sn, .string x.hd, .string x.to, .slice a2 x.r.vs.length c2, .string x.r.kd, .string x.r.tm, .string x.r.px, .int .i64 x.no] 123 40 44
    rw [← hW0]
    clear hW0
    refine (as_bool H0.out (isKey_any x a0 a1 a2 c0 c1 c2 l la lb lc lca lcb lcc _ (HL.out.ss.mono hB0) HX.out.small.nm)).mono ?_
    rintro e w1 ⟨rfl, hb⟩
    have hY1 := box_later hY0 (Nat.lt_of_succ_lt hz0) hb
    have hZ1 := box_later hZ0 hz0 hb
    have hz1 := Nat.lt_of_lt_of_le hz0 hb.size
    have hB1 := hB0.trans (hb.mono hB0.size)
    clear hb hY0 hZ0 hz0 hB0
    have hq1 := Nat.lt_of_succ_lt hz1
    go_wp2_with fail
    refine (as_bool H1.out (areValues_any x a0 a1 a2 c0 c1 c2 l la lb lc lca lcb lcc _ (HL.out.ss.mono hB1) HX.out.small.nm)).mono ?_
    rintro e w2 ⟨rfl, hb⟩
    have hY2 := box_later hY1 (Nat.lt_of_succ_lt hz1) hb
    have hZ2 := box_later hZ1 hz1 hb
    have hz2 := Nat.lt_of_lt_of_le hz1 hb.size
    have hB2 := hB1.trans (hb.mono hB1.size)
    clear hb hY1 hZ1 hz1 hB1
    have hq2 := Nat.lt_of_succ_lt hz2
    go_wp2_with fail
    go_ret
    exact ⟨ret_bool HF.out.symm, hB2⟩
  by_cases h2 : (decide (0 ≤ x.sn)) = true
  rotate_left
  · have HF : Hid (Gate.useChange l x = false) := by unfold Hid Gate.useChange; simp [h2]
    have H0 : Hid ((Gate.keyOk l x) = true) := h0
    have H1 : Hid ((Gate.countOk l x) = true) := h1
    have g2 : decide (0 ≤ x.sn) = false := decide_eq_false (by have := of_decide_eq_false (Bool.eq_false_iff.2 h2); omega)
    clear h0 h1 h2
    go_enter Tryz.func132, Tryz.ntmps132
    go_wp2_with fail
    obtain ⟨W0, hW0, hY0, hZ0, hz0, hB0⟩ := three_boxes w #[] #[.slice la l.ss.length lca, .slice lb l.ms.length lcb, .slice lc l.ts.length lcc] #[.string x.who, .int .i64 x.vb, .string x.kd, .string x.nm, .string x.tm, .slice a0 x.vs.length c0, .slice a1 x.hs.length c1, .int .i64 x.sn, .string x.hd, .string x.to, .slice a2 x.r.vs.length c2, .string x.r.kd, .string x.r.tm, .string x.r.px, .int .i64 x.no] 123 40 44
    rw [← hW0]
    clear hW0
    refine (as_bool H0.out (isKey_any x a0 a1 a2 c0 c1 c2 l la lb lc lca lcb lcc _ (HL.out.ss.mono hB0) HX.out.small.nm)).mono ?_
    rintro e w1 ⟨rfl, hb⟩
    have hY1 := box_later hY0 (Nat.lt_of_succ_lt hz0) hb
    have hZ1 := box_later hZ0 hz0 hb
    have hz1 := Nat.lt_of_lt_of_le hz0 hb.size
    have hB1 := hB0.trans (hb.mono hB0.size)
    clear hb hY0 hZ0 hz0 hB0
    have hq1 := Nat.lt_of_succ_lt hz1
    go_wp2_with fail
    refine (as_bool H1.out (areValues_any x a0 a1 a2 c0 c1 c2 l la lb lc lca lcb lcc _ (HL.out.ss.mono hB1) HX.out.small.nm)).mono ?_
    rintro e w2 ⟨rfl, hb⟩
    have hY2 := box_later hY1 (Nat.lt_of_succ_lt hz1) hb
    have hZ2 := box_later hZ1 hz1 hb
    have hz2 := Nat.lt_of_lt_of_le hz1 hb.size
    have hB2 := hB1.trans (hb.mono hB1.size)
    clear hb hY1 hZ1 hz1 hB1
    have hq2 := Nat.lt_of_succ_lt hz2
    go_wp2_with fail
    go_ret
    exact ⟨ret_bool HF.out.symm, hB2⟩
  · have HF : Hid (Gate.useChange l x = true) := by unfold Hid Gate.useChange; simp only [Bool.and_eq_true]; exact ⟨h0, h1, h2⟩
    have H0 : Hid ((Gate.keyOk l x) = true) := h0
    have H1 : Hid ((Gate.countOk l x) = true) := h1
    have g2 : 0 ≤ x.sn := by have := of_decide_eq_true h2; omega
    clear h0 h1 h2
    go_enter Tryz.func132, Tryz.ntmps132
    go_wp2_with fail
    obtain ⟨W0, hW0, hY0, hZ0, hz0, hB0⟩ := three_boxes w #[] #[.slice la l.ss.length lca, .slice lb l.ms.length lcb, .slice lc l.ts.length lcc] #[.string x.who, .int .i64 x.vb, .string x.kd, .string x.nm, .string x.tm, .slice a0 x.vs.length c0, .slice a1 x.hs.length c1, .int .i64 x.sn, .string x.hd, .string x.to, .slice a2 x.r.vs.length c2, .string x.r.kd, .string x.r.tm, .string x.r.px, .int .i64 x.no] 123 40 44
    rw [← hW0]
    clear hW0
    refine (as_bool H0.out (isKey_any x a0 a1 a2 c0 c1 c2 l la lb lc lca lcb lcc _ (HL.out.ss.mono hB0) HX.out.small.nm)).mono ?_
    rintro e w1 ⟨rfl, hb⟩
    have hY1 := box_later hY0 (Nat.lt_of_succ_lt hz0) hb
    have hZ1 := box_later hZ0 hz0 hb
    have hz1 := Nat.lt_of_lt_of_le hz0 hb.size
    have hB1 := hB0.trans (hb.mono hB0.size)
    clear hb hY0 hZ0 hz0 hB0
    have hq1 := Nat.lt_of_succ_lt hz1
    go_wp2_with fail
    refine (as_bool H1.out (areValues_any x a0 a1 a2 c0 c1 c2 l la lb lc lca lcb lcc _ (HL.out.ss.mono hB1) HX.out.small.nm)).mono ?_
    rintro e w2 ⟨rfl, hb⟩
    have hY2 := box_later hY1 (Nat.lt_of_succ_lt hz1) hb
    have hZ2 := box_later hZ1 hz1 hb
    have hz2 := Nat.lt_of_lt_of_le hz1 hb.size
    have hB2 := hB1.trans (hb.mono hB1.size)
    clear hb hY1 hZ1 hz1 hB1
    have hq2 := Nat.lt_of_succ_lt hz2
    go_wp2_with fail
    go_ret
    exact ⟨ret_bool HF.out.symm, hB2⟩

set_option maxHeartbeats 4000000 in
theorem endUse_any (l : Lw) (la lb lc : Option Addr) (lca lcb lcc : Nat) (x : Ak) (a0 a1 a2 : Option Addr) (c0 c1 c2 : Nat) (w : World) (hl : LwAt w l la lb lc) (hx : AkAt w x a0 a1 a2) :
    Calls Tryz.prog 136 #[.agg #[], .agg (l.cells la lb lc lca lcb lcc), .agg (x.cells a0 a1 a2 c0 c1 c2)] w fun e w' => e = .returned (.bool (Gate.useEnd l x)) ∧ Below w.heap.size w w' := by
  have HL : Hid (LwAt w l la lb lc) := hl
  have HX : Hid (AkAt w x a0 a1 a2) := hx
  clear hl hx
  unfold Ak.cells Lw.cells
  by_cases h0 : (Gate.keyOk l x) = true
  rotate_left
  · have HF : Hid (Gate.useEnd l x = false) := by unfold Hid Gate.useEnd; simp [h0]
    have H0 : Hid ((Gate.keyOk l x) = false) := Bool.eq_false_iff.2 h0
    clear h0
    go_enter Tryz.func136, Tryz.ntmps136
    go_wp2_with fail
    obtain ⟨W0, hW0, hY0, hZ0, hz0, hB0⟩ := three_boxes w #[] #[.slice la l.ss.length lca, .slice lb l.ms.length lcb, .slice lc l.ts.length lcc] #[.string x.who, .int .i64 x.vb, .string x.kd, .string x.nm, .string x.tm, .slice a0 x.vs.length c0, .slice a1 x.hs.length c1, .int .i64 x.sn, .string x.hd, .string x.to, .slice a2 x.r.vs.length c2, .string x.r.kd, .string x.r.tm, .string x.r.px, .int .i64 x.no] 124 40 44
    rw [← hW0]
    clear hW0
    refine (as_bool H0.out (isKey_any x a0 a1 a2 c0 c1 c2 l la lb lc lca lcb lcc _ (HL.out.ss.mono hB0) HX.out.small.nm)).mono ?_
    rintro e w1 ⟨rfl, hb⟩
    have hY1 := box_later hY0 (Nat.lt_of_succ_lt hz0) hb
    have hZ1 := box_later hZ0 hz0 hb
    have hz1 := Nat.lt_of_lt_of_le hz0 hb.size
    have hB1 := hB0.trans (hb.mono hB0.size)
    clear hb hY0 hZ0 hz0 hB0
    have hq1 := Nat.lt_of_succ_lt hz1
    go_wp2_with fail
    go_ret
    exact ⟨ret_bool HF.out.symm, hB1⟩
  by_cases h1 : (decide (0 ≤ x.sn)) = true
  rotate_left
  · have HF : Hid (Gate.useEnd l x = false) := by unfold Hid Gate.useEnd; simp [h1]
    have H0 : Hid ((Gate.keyOk l x) = true) := h0
    have g1 : decide (0 ≤ x.sn) = false := decide_eq_false (by have := of_decide_eq_false (Bool.eq_false_iff.2 h1); omega)
    clear h0 h1
    go_enter Tryz.func136, Tryz.ntmps136
    go_wp2_with fail
    obtain ⟨W0, hW0, hY0, hZ0, hz0, hB0⟩ := three_boxes w #[] #[.slice la l.ss.length lca, .slice lb l.ms.length lcb, .slice lc l.ts.length lcc] #[.string x.who, .int .i64 x.vb, .string x.kd, .string x.nm, .string x.tm, .slice a0 x.vs.length c0, .slice a1 x.hs.length c1, .int .i64 x.sn, .string x.hd, .string x.to, .slice a2 x.r.vs.length c2, .string x.r.kd, .string x.r.tm, .string x.r.px, .int .i64 x.no] 124 40 44
    rw [← hW0]
    clear hW0
    refine (as_bool H0.out (isKey_any x a0 a1 a2 c0 c1 c2 l la lb lc lca lcb lcc _ (HL.out.ss.mono hB0) HX.out.small.nm)).mono ?_
    rintro e w1 ⟨rfl, hb⟩
    have hY1 := box_later hY0 (Nat.lt_of_succ_lt hz0) hb
    have hZ1 := box_later hZ0 hz0 hb
    have hz1 := Nat.lt_of_lt_of_le hz0 hb.size
    have hB1 := hB0.trans (hb.mono hB0.size)
    clear hb hY0 hZ0 hz0 hB0
    have hq1 := Nat.lt_of_succ_lt hz1
    go_wp2_with fail
    go_ret
    exact ⟨ret_bool HF.out.symm, hB1⟩
  · have HF : Hid (Gate.useEnd l x = true) := by unfold Hid Gate.useEnd; simp only [Bool.and_eq_true]; exact ⟨h0, h1⟩
    have H0 : Hid ((Gate.keyOk l x) = true) := h0
    have g1 : 0 ≤ x.sn := by have := of_decide_eq_true h1; omega
    clear h0 h1
    go_enter Tryz.func136, Tryz.ntmps136
    go_wp2_with fail
    obtain ⟨W0, hW0, hY0, hZ0, hz0, hB0⟩ := three_boxes w #[] #[.slice la l.ss.length lca, .slice lb l.ms.length lcb, .slice lc l.ts.length lcc] #[.string x.who, .int .i64 x.vb, .string x.kd, .string x.nm, .string x.tm, .slice a0 x.vs.length c0, .slice a1 x.hs.length c1, .int .i64 x.sn, .string x.hd, .string x.to, .slice a2 x.r.vs.length c2, .string x.r.kd, .string x.r.tm, .string x.r.px, .int .i64 x.no] 124 40 44
    rw [← hW0]
    clear hW0
    refine (as_bool H0.out (isKey_any x a0 a1 a2 c0 c1 c2 l la lb lc lca lcb lcc _ (HL.out.ss.mono hB0) HX.out.small.nm)).mono ?_
    rintro e w1 ⟨rfl, hb⟩
    have hY1 := box_later hY0 (Nat.lt_of_succ_lt hz0) hb
    have hZ1 := box_later hZ0 hz0 hb
    have hz1 := Nat.lt_of_lt_of_le hz0 hb.size
    have hB1 := hB0.trans (hb.mono hB0.size)
    clear hb hY0 hZ0 hz0 hB0
    have hq1 := Nat.lt_of_succ_lt hz1
    go_wp2_with fail
    go_ret
    exact ⟨ret_bool HF.out.symm, hB1⟩

set_option maxHeartbeats 4000000 in
theorem letGoUse_any (l : Lw) (la lb lc : Option Addr) (lca lcb lcc : Nat) (x : Ak) (a0 a1 a2 : Option Addr) (c0 c1 c2 : Nat) (w : World) (hl : LwAt w l la lb lc) (hx : AkAt w x a0 a1 a2) :
    Calls Tryz.prog 140 #[.agg #[], .agg (l.cells la lb lc lca lcb lcc), .agg (x.cells a0 a1 a2 c0 c1 c2)] w fun e w' => e = .returned (.bool (Gate.useLetGo l x)) ∧ Below w.heap.size w w' := by
  have HL : Hid (LwAt w l la lb lc) := hl
  have HX : Hid (AkAt w x a0 a1 a2) := hx
  clear hl hx
  unfold Ak.cells Lw.cells
  by_cases h0 : (Gate.keyOk l x) = true
  rotate_left
  · have HF : Hid (Gate.useLetGo l x = false) := by unfold Hid Gate.useLetGo; simp [h0]
    have H0 : Hid ((Gate.keyOk l x) = false) := Bool.eq_false_iff.2 h0
    clear h0
    go_enter Tryz.func140, Tryz.ntmps140
    go_wp2_with fail
    obtain ⟨W0, hW0, hY0, hZ0, hz0, hB0⟩ := three_boxes w #[] #[.slice la l.ss.length lca, .slice lb l.ms.length lcb, .slice lc l.ts.length lcc] #[.string x.who, .int .i64 x.vb, .string x.kd, .string x.nm, .string x.tm, .slice a0 x.vs.length c0, .slice a1 x.hs.length c1, .int .i64 x.sn, .string x.hd, .string x.to, .slice a2 x.r.vs.length c2, .string x.r.kd, .string x.r.tm, .string x.r.px, .int .i64 x.no] 125 40 44
    rw [← hW0]
    clear hW0
    refine (as_bool H0.out (isKey_any x a0 a1 a2 c0 c1 c2 l la lb lc lca lcb lcc _ (HL.out.ss.mono hB0) HX.out.small.nm)).mono ?_
    rintro e w1 ⟨rfl, hb⟩
    have hY1 := box_later hY0 (Nat.lt_of_succ_lt hz0) hb
    have hZ1 := box_later hZ0 hz0 hb
    have hz1 := Nat.lt_of_lt_of_le hz0 hb.size
    have hB1 := hB0.trans (hb.mono hB0.size)
    clear hb hY0 hZ0 hz0 hB0
    have hq1 := Nat.lt_of_succ_lt hz1
    go_wp2_with fail
    go_ret
    exact ⟨ret_bool HF.out.symm, hB1⟩
  by_cases h1 : (Gate.nameOk x.hd) = true
  rotate_left
  · have HF : Hid (Gate.useLetGo l x = false) := by unfold Hid Gate.useLetGo; simp [h1]
    have H0 : Hid ((Gate.keyOk l x) = true) := h0
    have H1 : Hid ((Gate.nameOk x.hd) = false) := Bool.eq_false_iff.2 h1
    clear h0 h1
    go_enter Tryz.func140, Tryz.ntmps140
    go_wp2_with fail
    obtain ⟨W0, hW0, hY0, hZ0, hz0, hB0⟩ := three_boxes w #[] #[.slice la l.ss.length lca, .slice lb l.ms.length lcb, .slice lc l.ts.length lcc] #[.string x.who, .int .i64 x.vb, .string x.kd, .string x.nm, .string x.tm, .slice a0 x.vs.length c0, .slice a1 x.hs.length c1, .int .i64 x.sn, .string x.hd, .string x.to, .slice a2 x.r.vs.length c2, .string x.r.kd, .string x.r.tm, .string x.r.px, .int .i64 x.no] 125 40 44
    rw [← hW0]
    clear hW0
    refine (as_bool H0.out (isKey_any x a0 a1 a2 c0 c1 c2 l la lb lc lca lcb lcc _ (HL.out.ss.mono hB0) HX.out.small.nm)).mono ?_
    rintro e w1 ⟨rfl, hb⟩
    have hY1 := box_later hY0 (Nat.lt_of_succ_lt hz0) hb
    have hZ1 := box_later hZ0 hz0 hb
    have hz1 := Nat.lt_of_lt_of_le hz0 hb.size
    have hB1 := hB0.trans (hb.mono hB0.size)
    clear hb hY0 hZ0 hz0 hB0
    have hq1 := Nat.lt_of_succ_lt hz1
    go_wp2_with fail
    refine (as_bool H1.out (isName_any _ _ HX.out.small.hd)).mono ?_
    rintro e w2 ⟨rfl, rfl⟩
    have hY2 := hY1
    have hZ2 := hZ1
    have hz2 := hz1
    have hB2 := hB1
    clear hY1 hZ1 hz1 hB1
    have hq2 := Nat.lt_of_succ_lt hz2
    go_wp2_with fail
    go_ret
    exact ⟨ret_bool HF.out.symm, hB2⟩
  · have HF : Hid (Gate.useLetGo l x = true) := by unfold Hid Gate.useLetGo; simp only [Bool.and_eq_true]; exact ⟨h0, h1⟩
    have H0 : Hid ((Gate.keyOk l x) = true) := h0
    have H1 : Hid ((Gate.nameOk x.hd) = true) := h1
    clear h0 h1
    go_enter Tryz.func140, Tryz.ntmps140
    go_wp2_with fail
    obtain ⟨W0, hW0, hY0, hZ0, hz0, hB0⟩ := three_boxes w #[] #[.slice la l.ss.length lca, .slice lb l.ms.length lcb, .slice lc l.ts.length lcc] #[.string x.who, .int .i64 x.vb, .string x.kd, .string x.nm, .string x.tm, .slice a0 x.vs.length c0, .slice a1 x.hs.length c1, .int .i64 x.sn, .string x.hd, .string x.to, .slice a2 x.r.vs.length c2, .string x.r.kd, .string x.r.tm, .string x.r.px, .int .i64 x.no] 125 40 44
    rw [← hW0]
    clear hW0
    refine (as_bool H0.out (isKey_any x a0 a1 a2 c0 c1 c2 l la lb lc lca lcb lcc _ (HL.out.ss.mono hB0) HX.out.small.nm)).mono ?_
    rintro e w1 ⟨rfl, hb⟩
    have hY1 := box_later hY0 (Nat.lt_of_succ_lt hz0) hb
    have hZ1 := box_later hZ0 hz0 hb
    have hz1 := Nat.lt_of_lt_of_le hz0 hb.size
    have hB1 := hB0.trans (hb.mono hB0.size)
    clear hb hY0 hZ0 hz0 hB0
    have hq1 := Nat.lt_of_succ_lt hz1
    go_wp2_with fail
    refine (as_bool H1.out (isName_any _ _ HX.out.small.hd)).mono ?_
    rintro e w2 ⟨rfl, rfl⟩
    have hY2 := hY1
    have hZ2 := hZ1
    have hz2 := hz1
    have hB2 := hB1
    clear hY1 hZ1 hz1 hB1
    have hq2 := Nat.lt_of_succ_lt hz2
    go_wp2_with fail
    go_ret
    exact ⟨ret_bool HF.out.symm, hB2⟩

set_option maxHeartbeats 4000000 in
theorem giveUse_any (l : Lw) (la lb lc : Option Addr) (lca lcb lcc : Nat) (x : Ak) (a0 a1 a2 : Option Addr) (c0 c1 c2 : Nat) (w : World) (hl : LwAt w l la lb lc) (hx : AkAt w x a0 a1 a2) :
    Calls Tryz.prog 144 #[.agg #[], .agg (l.cells la lb lc lca lcb lcc), .agg (x.cells a0 a1 a2 c0 c1 c2)] w fun e w' => e = .returned (.bool (Gate.useGive x)) ∧ Below w.heap.size w w' := by
  have HL : Hid (LwAt w l la lb lc) := hl
  have HX : Hid (AkAt w x a0 a1 a2) := hx
  clear hl hx
  unfold Ak.cells Lw.cells
  by_cases h0 : (Gate.nameOk x.to) = true
  rotate_left
  · have HF : Hid (Gate.useGive x = false) := by unfold Hid Gate.useGive; simp [h0]
    have H0 : Hid ((Gate.nameOk x.to) = false) := Bool.eq_false_iff.2 h0
    clear h0
    go_enter Tryz.func144, Tryz.ntmps144
    go_wp2_with fail
    obtain ⟨W0, hW0, hY0, hZ0, hz0, hB0⟩ := three_boxes w #[] #[.slice la l.ss.length lca, .slice lb l.ms.length lcb, .slice lc l.ts.length lcc] #[.string x.who, .int .i64 x.vb, .string x.kd, .string x.nm, .string x.tm, .slice a0 x.vs.length c0, .slice a1 x.hs.length c1, .int .i64 x.sn, .string x.hd, .string x.to, .slice a2 x.r.vs.length c2, .string x.r.kd, .string x.r.tm, .string x.r.px, .int .i64 x.no] 126 40 44
    rw [← hW0]
    clear hW0
    refine (as_bool H0.out (isName_any _ _ HX.out.small.to)).mono ?_
    rintro e w1 ⟨rfl, rfl⟩
    have hY1 := hY0
    have hZ1 := hZ0
    have hz1 := hz0
    have hB1 := hB0
    clear hY0 hZ0 hz0 hB0
    have hq1 := Nat.lt_of_succ_lt hz1
    go_wp2_with fail
    go_ret
    exact ⟨ret_bool HF.out.symm, hB1⟩
  by_cases h1 : (Gate.ruleOk x.r) = true
  rotate_left
  · have HF : Hid (Gate.useGive x = false) := by unfold Hid Gate.useGive; simp [h1]
    have H0 : Hid ((Gate.nameOk x.to) = true) := h0
    have H1 : Hid ((Gate.ruleOk x.r) = false) := Bool.eq_false_iff.2 h1
    clear h0 h1
    go_enter Tryz.func144, Tryz.ntmps144
    go_wp2_with fail
    obtain ⟨W0, hW0, hY0, hZ0, hz0, hB0⟩ := three_boxes w #[] #[.slice la l.ss.length lca, .slice lb l.ms.length lcb, .slice lc l.ts.length lcc] #[.string x.who, .int .i64 x.vb, .string x.kd, .string x.nm, .string x.tm, .slice a0 x.vs.length c0, .slice a1 x.hs.length c1, .int .i64 x.sn, .string x.hd, .string x.to, .slice a2 x.r.vs.length c2, .string x.r.kd, .string x.r.tm, .string x.r.px, .int .i64 x.no] 126 40 44
    rw [← hW0]
    clear hW0
    refine (as_bool H0.out (isName_any _ _ HX.out.small.to)).mono ?_
    rintro e w1 ⟨rfl, rfl⟩
    have hY1 := hY0
    have hZ1 := hZ0
    have hz1 := hz0
    have hB1 := hB0
    clear hY0 hZ0 hz0 hB0
    have hq1 := Nat.lt_of_succ_lt hz1
    go_wp2_with fail
    refine (as_bool H1.out (isRule_any x.r _ _ _ HX.out.small.r (HX.out.r.mono hB1))).mono ?_
    rintro e w2 ⟨rfl, hb⟩
    have hY2 := box_later hY1 (Nat.lt_of_succ_lt hz1) hb
    have hZ2 := box_later hZ1 hz1 hb
    have hz2 := Nat.lt_of_lt_of_le hz1 hb.size
    have hB2 := hB1.trans (hb.mono hB1.size)
    clear hb hY1 hZ1 hz1 hB1
    have hq2 := Nat.lt_of_succ_lt hz2
    go_wp2_with fail
    go_ret
    exact ⟨ret_bool HF.out.symm, hB2⟩
  · have HF : Hid (Gate.useGive x = true) := by unfold Hid Gate.useGive; simp only [Bool.and_eq_true]; exact ⟨h0, h1⟩
    have H0 : Hid ((Gate.nameOk x.to) = true) := h0
    have H1 : Hid ((Gate.ruleOk x.r) = true) := h1
    clear h0 h1
    go_enter Tryz.func144, Tryz.ntmps144
    go_wp2_with fail
    obtain ⟨W0, hW0, hY0, hZ0, hz0, hB0⟩ := three_boxes w #[] #[.slice la l.ss.length lca, .slice lb l.ms.length lcb, .slice lc l.ts.length lcc] #[.string x.who, .int .i64 x.vb, .string x.kd, .string x.nm, .string x.tm, .slice a0 x.vs.length c0, .slice a1 x.hs.length c1, .int .i64 x.sn, .string x.hd, .string x.to, .slice a2 x.r.vs.length c2, .string x.r.kd, .string x.r.tm, .string x.r.px, .int .i64 x.no] 126 40 44
    rw [← hW0]
    clear hW0
    refine (as_bool H0.out (isName_any _ _ HX.out.small.to)).mono ?_
    rintro e w1 ⟨rfl, rfl⟩
    have hY1 := hY0
    have hZ1 := hZ0
    have hz1 := hz0
    have hB1 := hB0
    clear hY0 hZ0 hz0 hB0
    have hq1 := Nat.lt_of_succ_lt hz1
    go_wp2_with fail
    refine (as_bool H1.out (isRule_any x.r _ _ _ HX.out.small.r (HX.out.r.mono hB1))).mono ?_
    rintro e w2 ⟨rfl, hb⟩
    have hY2 := box_later hY1 (Nat.lt_of_succ_lt hz1) hb
    have hZ2 := box_later hZ1 hz1 hb
    have hz2 := Nat.lt_of_lt_of_le hz1 hb.size
    have hB2 := hB1.trans (hb.mono hB1.size)
    clear hb hY1 hZ1 hz1 hB1
    have hq2 := Nat.lt_of_succ_lt hz2
    go_wp2_with fail
    go_ret
    exact ⟨ret_bool HF.out.symm, hB2⟩

set_option maxHeartbeats 4000000 in
theorem takeUse_any (l : Lw) (la lb lc : Option Addr) (lca lcb lcc : Nat) (x : Ak) (a0 a1 a2 : Option Addr) (c0 c1 c2 : Nat) (w : World) (hl : LwAt w l la lb lc) (hx : AkAt w x a0 a1 a2) :
    Calls Tryz.prog 151 #[.agg #[], .agg (l.cells la lb lc lca lcb lcc), .agg (x.cells a0 a1 a2 c0 c1 c2)] w fun e w' => e = .returned (.bool (Gate.useTake x)) ∧ Below w.heap.size w w' := by
  have HL : Hid (LwAt w l la lb lc) := hl
  have HX : Hid (AkAt w x a0 a1 a2) := hx
  clear hl hx
  unfold Ak.cells Lw.cells
  by_cases h0 : (decide (1 ≤ x.no)) = true
  rotate_left
  · have HF : Hid (Gate.useTake x = false) := by unfold Hid Gate.useTake; simp [h0]
    have g0 : decide (1 ≤ x.no) = false := decide_eq_false (by have := of_decide_eq_false (Bool.eq_false_iff.2 h0); omega)
    clear h0
    go_enter Tryz.func151, Tryz.ntmps151
    go_wp2_with fail
    go_ret
    exact ⟨ret_bool HF.out.symm, below3' _ _ _ _⟩
  · have HF : Hid (Gate.useTake x = true) := by unfold Hid Gate.useTake; exact h0
    have g0 : 1 ≤ x.no := by have := of_decide_eq_true h0; omega
    clear h0
    go_enter Tryz.func151, Tryz.ntmps151
    go_wp2_with fail
    go_ret
    exact ⟨ret_bool HF.out.symm, below3' _ _ _ _⟩

end Go.Proofs.YtpmlngcljbkchaaGreat
