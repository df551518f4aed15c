import Derived.Test.YtbmhnkbcndbdcaaGreatM46
namespace Go.Proofs.YtbmhnkbcndbdcaaGreat
open Go.RowKit

def Gate.slipOk (l : Lw) (s : Sl) : Bool := Gate.lawOk l && Gate.isSlip l s

set_option maxHeartbeats 2000000 in
theorem implSlipOk_any (l : Lw) (la lb lc : Option Addr) (lca lcb lcc : Nat) (s : Sl) (a0 a1 a2 a3 : Option Addr) (c0 c1 c2 c3 : Nat) (w : World) (hl : LwAt w l la lb lc) (hx : SlAt w s a0 a1 a2 a3) (hf : l.Few) :
    Calls Tryz.prog 9 #[.agg (l.cells la lb lc lca lcb lcc), .agg (s.cells a0 a1 a2 a3 c0 c1 c2 c3)] w fun e w' => e = .returned (.bool (Gate.slipOk l s)) ∧ Below w.heap.size w w' := by
  have HL : Hid (LwAt w l la lb lc) := hl
  have HX : Hid (SlAt w s a0 a1 a2 a3) := hx
  have HF : Hid l.Few := hf
  clear hl hx hf
  unfold Sl.cells Lw.cells
  by_cases ho : Gate.lawOk l = true
  · have HO : Hid (Gate.lawOk l = true) := ho
    clear ho
    go_enter Tryz.func9, Tryz.ntmps9
    go_wp2_with fail
    obtain ⟨W0, hW0, hX0, hY0, hz0, hB0⟩ := pair_boxes w #[.slice la l.ss.length lca, .slice lb l.ms.length lcb, .slice lc l.ts.length lcc] #[.string s.dr, .string s.x.who, .int .i64 s.x.vb, .string s.x.kd, .string s.x.nm, .string s.x.tm, .slice a0 s.x.vs.length c0, .slice a1 s.x.hs.length c1, .int .i64 s.x.sn, .string s.x.hd, .string s.x.to, .slice a2 s.x.r.vs.length c2, .string s.x.r.kd, .string s.x.r.tm, .string s.x.r.px, .int .i64 s.x.no, .int .i64 s.gv, .slice a3 s.ws.length c3] 43 50
    rw [← hW0]
    clear hW0
    have hq0 := Nat.lt_of_succ_lt hz0
    refine (as_bool HO.out (implLawOk_any l la lb lc lca lcb lcc _ (HL.out.mono hB0) HF.out)).mono ?_
    rintro e w1 ⟨rfl, hb⟩
    have hX1 := box_later hX0 hq0 hb
    have hY1 := box_later hY0 hz0 hb
    have hz1 := Nat.lt_of_lt_of_le hz0 hb.size
    have hB1 := hB0.trans (hb.mono hB0.size)
    clear hb hX0 hY0 hz0 hB0 hq0
    have hq1 := Nat.lt_of_succ_lt hz1
    go_wp2_with fail
    refine (isSlip_any l la lb lc lca lcb lcc s a0 a1 a2 a3 c0 c1 c2 c3 _ (HL.out.mono hB1) (HX.out.mono hB1)).mono ?_
    rintro e w2 ⟨rfl, hb⟩
    have hB2 := hB1.trans (hb.mono hB1.size)
    clear hb hB1
    go_wp2_with fail
    go_ret
    exact ⟨ret_bool (by unfold Gate.slipOk; rw [HO.out]; rfl), hB2⟩
  · have HO : Hid (Gate.lawOk l = false) := Bool.eq_false_iff.2 ho
    clear ho
    go_enter Tryz.func9, Tryz.ntmps9
    go_wp2_with fail
    obtain ⟨W0, hW0, hX0, hY0, hz0, hB0⟩ := pair_boxes w #[.slice la l.ss.length lca, .slice lb l.ms.length lcb, .slice lc l.ts.length lcc] #[.string s.dr, .string s.x.who, .int .i64 s.x.vb, .string s.x.kd, .string s.x.nm, .string s.x.tm, .slice a0 s.x.vs.length c0, .slice a1 s.x.hs.length c1, .int .i64 s.x.sn, .string s.x.hd, .string s.x.to, .slice a2 s.x.r.vs.length c2, .string s.x.r.kd, .string s.x.r.tm, .string s.x.r.px, .int .i64 s.x.no, .int .i64 s.gv, .slice a3 s.ws.length c3] 43 50
    rw [← hW0]
    clear hW0
    have hq0 := Nat.lt_of_succ_lt hz0
    refine (as_bool HO.out (implLawOk_any l la lb lc lca lcb lcc _ (HL.out.mono hB0) HF.out)).mono ?_
    rintro e w1 ⟨rfl, hb⟩
    have hX1 := box_later hX0 hq0 hb
    have hY1 := box_later hY0 hz0 hb
    have hz1 := Nat.lt_of_lt_of_le hz0 hb.size
    have hB1 := hB0.trans (hb.mono hB0.size)
    clear hb hX0 hY0 hz0 hB0 hq0
    have hq1 := Nat.lt_of_succ_lt hz1
    go_wp2_with fail
    go_ret
    exact ⟨ret_bool (by unfold Gate.slipOk; rw [HO.out]; rfl), hB1⟩

set_option maxHeartbeats 2000000 in
theorem specSlipOk_any (l : Lw) (la lb lc : Option Addr) (lca lcb lcc : Nat) (s : Sl) (a0 a1 a2 a3 : Option Addr) (c0 c1 c2 c3 : Nat) (w : World) (hl : LwAt w l la lb lc) (hx : SlAt w s a0 a1 a2 a3) :
    Calls Tryz.prog 6 #[.agg (l.cells la lb lc lca lcb lcc), .agg (s.cells a0 a1 a2 a3 c0 c1 c2 c3)] w fun e w' => e = .returned (.bool (Gate.slipOk l s)) ∧ Below w.heap.size w w' := by
  have HL : Hid (LwAt w l la lb lc) := hl
  have HX : Hid (SlAt w s a0 a1 a2 a3) := hx
  clear hl hx
  unfold Sl.cells Lw.cells
  by_cases ho : Gate.lawOk l = true
  · have HO : Hid (Gate.lawOk l = true) := ho
    clear ho
    go_enter Tryz.func6, Tryz.ntmps6
    go_wp2_with fail
    obtain ⟨W0, hW0, hX0, hY0, hz0, hB0⟩ := pair_boxes w #[.slice la l.ss.length lca, .slice lb l.ms.length lcb, .slice lc l.ts.length lcc] #[.string s.dr, .string s.x.who, .int .i64 s.x.vb, .string s.x.kd, .string s.x.nm, .string s.x.tm, .slice a0 s.x.vs.length c0, .slice a1 s.x.hs.length c1, .int .i64 s.x.sn, .string s.x.hd, .string s.x.to, .slice a2 s.x.r.vs.length c2, .string s.x.r.kd, .string s.x.r.tm, .string s.x.r.px, .int .i64 s.x.no, .int .i64 s.gv, .slice a3 s.ws.length c3] 43 50
    rw [← hW0]
    clear hW0
    have hq0 := Nat.lt_of_succ_lt hz0
    refine (as_bool HO.out (specLawOk_any l la lb lc lca lcb lcc _ (HL.out.mono hB0))).mono ?_
    rintro e w1 ⟨rfl, hb⟩
    have hX1 := box_later hX0 hq0 hb
    have hY1 := box_later hY0 hz0 hb
    have hz1 := Nat.lt_of_lt_of_le hz0 hb.size
    have hB1 := hB0.trans (hb.mono hB0.size)
    clear hb hX0 hY0 hz0 hB0 hq0
    have hq1 := Nat.lt_of_succ_lt hz1
    go_wp2_with fail
    refine (l9SlipOk_any l la lb lc lca lcb lcc s a0 a1 a2 a3 c0 c1 c2 c3 _ (HL.out.mono hB1) (HX.out.mono hB1)).mono ?_
    rintro e w2 ⟨rfl, hb⟩
    have hB2 := hB1.trans (hb.mono hB1.size)
    clear hb hB1
    go_wp2_with fail
    go_ret
    exact ⟨ret_bool (by unfold Gate.slipOk; rw [HO.out]; rfl), hB2⟩
  · have HO : Hid (Gate.lawOk l = false) := Bool.eq_false_iff.2 ho
    clear ho
    go_enter Tryz.func6, Tryz.ntmps6
    go_wp2_with fail
    obtain ⟨W0, hW0, hX0, hY0, hz0, hB0⟩ := pair_boxes w #[.slice la l.ss.length lca, .slice lb l.ms.length lcb, .slice lc l.ts.length lcc] #[.string s.dr, .string s.x.who, .int .i64 s.x.vb, .string s.x.kd, .string s.x.nm, .string s.x.tm, .slice a0 s.x.vs.length c0, .slice a1 s.x.hs.length c1, .int .i64 s.x.sn, .string s.x.hd, .string s.x.to, .slice a2 s.x.r.vs.length c2, .string s.x.r.kd, .string s.x.r.tm, .string s.x.r.px, .int .i64 s.x.no, .int .i64 s.gv, .slice a3 s.ws.length c3] 43 50
    rw [← hW0]
    clear hW0
    have hq0 := Nat.lt_of_succ_lt hz0
    refine (as_bool HO.out (specLawOk_any l la lb lc lca lcb lcc _ (HL.out.mono hB0))).mono ?_
    rintro e w1 ⟨rfl, hb⟩
    have hX1 := box_later hX0 hq0 hb
    have hY1 := box_later hY0 hz0 hb
    have hz1 := Nat.lt_of_lt_of_le hz0 hb.size
    have hB1 := hB0.trans (hb.mono hB0.size)
    clear hb hX0 hY0 hz0 hB0 hq0
    have hq1 := Nat.lt_of_succ_lt hz1
    go_wp2_with fail
    go_ret
    exact ⟨ret_bool (by unfold Gate.slipOk; rw [HO.out]; rfl), hB1⟩

end Go.Proofs.YtbmhnkbcndbdcaaGreat
