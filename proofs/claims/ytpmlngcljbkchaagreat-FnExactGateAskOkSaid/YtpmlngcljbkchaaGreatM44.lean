import Derived.Test.YtpmlngcljbkchaaGreatM43
namespace Go.Proofs.YtpmlngcljbkchaaGreat
open Go.RowKit

def Gate.askOk (l : Lw) (x : Ak) : Bool := Gate.lawOk l && Gate.isAsk l x

set_option maxHeartbeats 2000000 in
theorem implAskOk_any (l : Lw) (la lb lc : Option Addr) (lca lcb lcc : Nat) (x : Ak) (a0 a1 a2 : Option Addr) (c0 c1 c2 : Nat) (w : World) (hl : LwAt w l la lb lc) (hx : AkAt w x a0 a1 a2) (hf : l.Few) :
    Calls Tryz.prog 9 #[.agg (l.cells la lb lc lca lcb lcc), .agg (x.cells a0 a1 a2 c0 c1 c2)] w fun e w' => e = .returned (.bool (Gate.askOk l x)) ∧ Below w.heap.size w w' := by
  have HL : Hid (LwAt w l la lb lc) := hl
  have HX : Hid (AkAt w x a0 a1 a2) := hx
  have HF : Hid l.Few := hf
  clear hl hx hf
  unfold Ak.cells Lw.cells
  by_cases ho : Gate.lawOk l = true
  · have HO : Hid (Gate.lawOk l = true) := ho
    clear ho
    go_enter Tryz.func9, Tryz.ntmps9
    go_wp2_with fail
    obtain ⟨W0, hW0, hX0, hY0, hz0, hB0⟩ := pair_boxes w #[.slice la l.ss.length lca, .slice lb l.ms.length lcb, .slice lc l.ts.length lcc] #[.string x.who, .int .i64 x.vb, .string x.kd, .string x.nm, .string x.tm, .slice a0 x.vs.length c0, .slice a1 x.hs.length c1, .int .i64 x.sn, .string x.hd, .string x.to, .slice a2 x.r.vs.length c2, .string x.r.kd, .string x.r.tm, .string x.r.px, .int .i64 x.no] 40 44
    rw [← hW0]
    clear hW0
    have hq0 := Nat.lt_of_succ_lt hz0
    refine (as_bool HO.out (implLawOk_any l la lb lc lca lcb lcc _ (HL.out.mono hB0) HF.out)).mono ?_
    rintro e w1 ⟨rfl, hb⟩
    have hX1 := box_later hX0 hq0 hb
    have hY1 := box_later hY0 hz0 hb
    have hz1 := Nat.lt_of_lt_of_le hz0 hb.size
    have hB1 := hB0.trans (hb.mono hB0.size)
    clear hb hX0 hY0 hz0 hB0 hq0
    have hq1 := Nat.lt_of_succ_lt hz1
    go_wp2_with fail
    refine (isAsk_any l la lb lc lca lcb lcc x a0 a1 a2 c0 c1 c2 _ (HL.out.mono hB1) (HX.out.mono hB1)).mono ?_
    rintro e w2 ⟨rfl, hb⟩
    have hB2 := hB1.trans (hb.mono hB1.size)
    clear hb hB1
    go_wp2_with fail
    go_ret
    exact ⟨ret_bool (by unfold Gate.askOk; rw [HO.out]; rfl), hB2⟩
  · have HO : Hid (Gate.lawOk l = false) := Bool.eq_false_iff.2 ho
    clear ho
    go_enter Tryz.func9, Tryz.ntmps9
    go_wp2_with fail
    obtain ⟨W0, hW0, hX0, hY0, hz0, hB0⟩ := pair_boxes w #[.slice la l.ss.length lca, .slice lb l.ms.length lcb, .slice lc l.ts.length lcc] #[.string x.who, .int .i64 x.vb, .string x.kd, .string x.nm, .string x.tm, .slice a0 x.vs.length c0, .slice a1 x.hs.length c1, .int .i64 x.sn, .string x.hd, .string x.to, .slice a2 x.r.vs.length c2, .string x.r.kd, .string x.r.tm, .string x.r.px, .int .i64 x.no] 40 44
    rw [← hW0]
    clear hW0
    have hq0 := Nat.lt_of_succ_lt hz0
    refine (as_bool HO.out (implLawOk_any l la lb lc lca lcb lcc _ (HL.out.mono hB0) HF.out)).mono ?_
    rintro e w1 ⟨rfl, hb⟩
    have hX1 := box_later hX0 hq0 hb
    have hY1 := box_later hY0 hz0 hb
    have hz1 := Nat.lt_of_lt_of_le hz0 hb.size
    have hB1 := hB0.trans (hb.mono hB0.size)
    clear hb hX0 hY0 hz0 hB0 hq0
    have hq1 := Nat.lt_of_succ_lt hz1
    go_wp2_with fail
    go_ret
    exact ⟨ret_bool (by unfold Gate.askOk; rw [HO.out]; rfl), hB1⟩

set_option maxHeartbeats 2000000 in
theorem specAskOk_any (l : Lw) (la lb lc : Option Addr) (lca lcb lcc : Nat) (x : Ak) (a0 a1 a2 : Option Addr) (c0 c1 c2 : Nat) (w : World) (hl : LwAt w l la lb lc) (hx : AkAt w x a0 a1 a2) :
    Calls Tryz.prog 6 #[.agg (l.cells la lb lc lca lcb lcc), .agg (x.cells a0 a1 a2 c0 c1 c2)] w fun e w' => e = .returned (.bool (Gate.askOk l x)) ∧ Below w.heap.size w w' := by
  have HL : Hid (LwAt w l la lb lc) := hl
  have HX : Hid (AkAt w x a0 a1 a2) := hx
  clear hl hx
  unfold Ak.cells Lw.cells
  by_cases ho : Gate.lawOk l = true
  · have HO : Hid (Gate.lawOk l = true) := ho
    clear ho
    go_enter Tryz.func6, Tryz.ntmps6
    go_wp2_with fail
    obtain ⟨W0, hW0, hX0, hY0, hz0, hB0⟩ := pair_boxes w #[.slice la l.ss.length lca, .slice lb l.ms.length lcb, .slice lc l.ts.length lcc] #[.string x.who, .int .i64 x.vb, .string x.kd, .string x.nm, .string x.tm, .slice a0 x.vs.length c0, .slice a1 x.hs.length c1, .int .i64 x.sn, .string x.hd, .string x.to, .slice a2 x.r.vs.length c2, .string x.r.kd, .string x.r.tm, .string x.r.px, .int .i64 x.no] 40 44
    rw [← hW0]
    clear hW0
    have hq0 := Nat.lt_of_succ_lt hz0
    refine (as_bool HO.out (specLawOk_any l la lb lc lca lcb lcc _ (HL.out.mono hB0))).mono ?_
    rintro e w1 ⟨rfl, hb⟩
    have hX1 := box_later hX0 hq0 hb
    have hY1 := box_later hY0 hz0 hb
    have hz1 := Nat.lt_of_lt_of_le hz0 hb.size
    have hB1 := hB0.trans (hb.mono hB0.size)
    clear hb hX0 hY0 hz0 hB0 hq0
    have hq1 := Nat.lt_of_succ_lt hz1
    go_wp2_with fail
    refine (l8AskOk_any l la lb lc lca lcb lcc x a0 a1 a2 c0 c1 c2 _ (HL.out.mono hB1) (HX.out.mono hB1)).mono ?_
    rintro e w2 ⟨rfl, hb⟩
    have hB2 := hB1.trans (hb.mono hB1.size)
    clear hb hB1
    go_wp2_with fail
    go_ret
    exact ⟨ret_bool (by unfold Gate.askOk; rw [HO.out]; rfl), hB2⟩
  · have HO : Hid (Gate.lawOk l = false) := Bool.eq_false_iff.2 ho
    clear ho
    go_enter Tryz.func6, Tryz.ntmps6
    go_wp2_with fail
    obtain ⟨W0, hW0, hX0, hY0, hz0, hB0⟩ := pair_boxes w #[.slice la l.ss.length lca, .slice lb l.ms.length lcb, .slice lc l.ts.length lcc] #[.string x.who, .int .i64 x.vb, .string x.kd, .string x.nm, .string x.tm, .slice a0 x.vs.length c0, .slice a1 x.hs.length c1, .int .i64 x.sn, .string x.hd, .string x.to, .slice a2 x.r.vs.length c2, .string x.r.kd, .string x.r.tm, .string x.r.px, .int .i64 x.no] 40 44
    rw [← hW0]
    clear hW0
    have hq0 := Nat.lt_of_succ_lt hz0
    refine (as_bool HO.out (specLawOk_any l la lb lc lca lcb lcc _ (HL.out.mono hB0))).mono ?_
    rintro e w1 ⟨rfl, hb⟩
    have hX1 := box_later hX0 hq0 hb
    have hY1 := box_later hY0 hz0 hb
    have hz1 := Nat.lt_of_lt_of_le hz0 hb.size
    have hB1 := hB0.trans (hb.mono hB0.size)
    clear hb hX0 hY0 hz0 hB0 hq0
    have hq1 := Nat.lt_of_succ_lt hz1
    go_wp2_with fail
    go_ret
    exact ⟨ret_bool (by unfold Gate.askOk; rw [HO.out]; rfl), hB1⟩

end Go.Proofs.YtpmlngcljbkchaaGreat
