import Derived.Test.YtbmhnkbcndbdcaaGreatM45
import Derived.Deep.RegionHeld3
namespace Go.Proofs.YtbmhnkbcndbdcaaGreat
open Go.RowKit

set_option maxHeartbeats 4000000 in
theorem l9SlipOk_any (l : Lw) (la lb lc : Option Addr) (lca lcb lcc : Nat) (s : Sl) (a0 a1 a2 a3 : Option Addr) (c0 c1 c2 c3 : Nat) (w : World) (hl : LwAt w l la lb lc) (hs : SlAt w s a0 a1 a2 a3) :
    Calls Tryz.prog 18 #[.agg (l.cells la lb lc lca lcb lcc), .agg (s.cells a0 a1 a2 a3 c0 c1 c2 c3)] w fun e w' => e = .returned (.bool (Gate.isSlip l s)) ∧ Below w.heap.size w w' := by
  have HL : Hid (LwAt w l la lb lc) := hl
  have HS : Hid (SlAt w s a0 a1 a2 a3) := hs
  have hln := hs.ws.len
  unfold maxLen at hln
  clear hl hs
  unfold Sl.cells Lw.cells
  by_cases hn : Gate.nameOk s.dr = true
  rotate_left
  · have HN : Hid (Gate.nameOk s.dr = false) := Bool.eq_false_iff.2 hn
    clear hn
    go_enter Tryz.func18, Tryz.ntmps18
    go_wp2_with fail
    obtain ⟨W0, hW0, hX0, hY0, hz0, hB0⟩ := pair_boxes w #[.slice la l.ss.length lca, .slice lb l.ms.length lcb, .slice lc l.ts.length lcc] #[.string s.dr, .string s.x.who, .int .i64 s.x.vb, .string s.x.kd, .string s.x.nm, .string s.x.tm, .slice a0 s.x.vs.length c0, .slice a1 s.x.hs.length c1, .int .i64 s.x.sn, .string s.x.hd, .string s.x.to, .slice a2 s.x.r.vs.length c2, .string s.x.r.kd, .string s.x.r.tm, .string s.x.r.px, .int .i64 s.x.no, .int .i64 s.gv, .slice a3 s.ws.length c3] 43 50
    rw [← hW0]
    clear hW0
    have hq0 := Nat.lt_of_succ_lt hz0
    refine (as_bool HN.out (l1NameOk_any s.dr _ HS.out.dr)).mono ?_
    rintro e w1 ⟨rfl, rfl⟩
    go_wp2_with fail
    go_ret
    exact ⟨ret_bool (by unfold Gate.isSlip; rw [HN.out]; rfl), hB0⟩
  have HN : Hid (Gate.nameOk s.dr = true) := hn
  clear hn
  by_cases ha : Gate.isAsk l s.x = true
  rotate_left
  · have HA : Hid (Gate.isAsk l s.x = false) := Bool.eq_false_iff.2 ha
    clear ha
    go_enter Tryz.func18, Tryz.ntmps18
    go_wp2_with fail
    obtain ⟨W0, hW0, hX0, hY0, hz0, hB0⟩ := pair_boxes w #[.slice la l.ss.length lca, .slice lb l.ms.length lcb, .slice lc l.ts.length lcc] #[.string s.dr, .string s.x.who, .int .i64 s.x.vb, .string s.x.kd, .string s.x.nm, .string s.x.tm, .slice a0 s.x.vs.length c0, .slice a1 s.x.hs.length c1, .int .i64 s.x.sn, .string s.x.hd, .string s.x.to, .slice a2 s.x.r.vs.length c2, .string s.x.r.kd, .string s.x.r.tm, .string s.x.r.px, .int .i64 s.x.no, .int .i64 s.gv, .slice a3 s.ws.length c3] 43 50
    rw [← hW0]
    clear hW0
    have hq0 := Nat.lt_of_succ_lt hz0
    refine (as_bool HN.out (l1NameOk_any s.dr _ HS.out.dr)).mono ?_
    rintro e w1 ⟨rfl, rfl⟩
    go_wp2_with fail
    refine (as_bool HA.out (l8AskOk_any l la lb lc lca lcb lcc s.x a0 a1 a2 c0 c1 c2 _ (HL.out.mono hB0) (HS.out.x.mono hB0))).mono ?_
    rintro e w1 ⟨rfl, hb⟩
    have hX1 := box_later hX0 hq0 hb
    have hY1 := box_later hY0 hz0 hb
    have hz1 := Nat.lt_of_lt_of_le hz0 hb.size
    have hB1 := hB0.trans (hb.mono hB0.size)
    clear hb hX0 hY0 hz0 hB0 hq0
    have hq1 := Nat.lt_of_succ_lt hz1
    go_wp2_with fail
    go_ret
    exact ⟨ret_bool (by unfold Gate.isSlip; rw [HN.out, HA.out]; rfl), hB1⟩
  have HA : Hid (Gate.isAsk l s.x = true) := ha
  clear ha
  by_cases hg : 0 ≤ s.gv
  rotate_left
  · have hgd : decide (s.gv < 0) = true := by simp; omega
    have HG : Hid (decide (0 ≤ s.gv) = false) := decide_eq_false hg
    clear hg
    go_enter Tryz.func18, Tryz.ntmps18
    go_wp2_with fail
    obtain ⟨W0, hW0, hX0, hY0, hz0, hB0⟩ := pair_boxes w #[.slice la l.ss.length lca, .slice lb l.ms.length lcb, .slice lc l.ts.length lcc] #[.string s.dr, .string s.x.who, .int .i64 s.x.vb, .string s.x.kd, .string s.x.nm, .string s.x.tm, .slice a0 s.x.vs.length c0, .slice a1 s.x.hs.length c1, .int .i64 s.x.sn, .string s.x.hd, .string s.x.to, .slice a2 s.x.r.vs.length c2, .string s.x.r.kd, .string s.x.r.tm, .string s.x.r.px, .int .i64 s.x.no, .int .i64 s.gv, .slice a3 s.ws.length c3] 43 50
    rw [← hW0]
    clear hW0
    have hq0 := Nat.lt_of_succ_lt hz0
    refine (as_bool HN.out (l1NameOk_any s.dr _ HS.out.dr)).mono ?_
    rintro e w1 ⟨rfl, rfl⟩
    go_wp2_with fail
    refine (as_bool HA.out (l8AskOk_any l la lb lc lca lcb lcc s.x a0 a1 a2 c0 c1 c2 _ (HL.out.mono hB0) (HS.out.x.mono hB0))).mono ?_
    rintro e w1 ⟨rfl, hb⟩
    have hX1 := box_later hX0 hq0 hb
    have hY1 := box_later hY0 hz0 hb
    have hz1 := Nat.lt_of_lt_of_le hz0 hb.size
    have hB1 := hB0.trans (hb.mono hB0.size)
    clear hb hX0 hY0 hz0 hB0 hq0
    have hq1 := Nat.lt_of_succ_lt hz1
    go_wp2_with fail
    go_ret
    exact ⟨ret_bool (by unfold Gate.isSlip; rw [HN.out, HA.out, HG.out]; rfl), hB1⟩
  have hgd : decide (s.gv < 0) = false := by simp; omega
  have HG : Hid (decide (0 ≤ s.gv) = true) := decide_eq_true hg
  clear hg
  by_cases hk : s.ws.length ≤ 8
  rotate_left
  · have hkd : decide ((8 : Int) < (s.ws.length : Int)) = true := by simp; omega
    have HK : Hid (decide (s.ws.length ≤ 8) = false) := decide_eq_false hk
    clear hk
    go_enter Tryz.func18, Tryz.ntmps18
    go_wp2_with fail
    obtain ⟨W0, hW0, hX0, hY0, hz0, hB0⟩ := pair_boxes w #[.slice la l.ss.length lca, .slice lb l.ms.length lcb, .slice lc l.ts.length lcc] #[.string s.dr, .string s.x.who, .int .i64 s.x.vb, .string s.x.kd, .string s.x.nm, .string s.x.tm, .slice a0 s.x.vs.length c0, .slice a1 s.x.hs.length c1, .int .i64 s.x.sn, .string s.x.hd, .string s.x.to, .slice a2 s.x.r.vs.length c2, .string s.x.r.kd, .string s.x.r.tm, .string s.x.r.px, .int .i64 s.x.no, .int .i64 s.gv, .slice a3 s.ws.length c3] 43 50
    rw [← hW0]
    clear hW0
    have hq0 := Nat.lt_of_succ_lt hz0
    refine (as_bool HN.out (l1NameOk_any s.dr _ HS.out.dr)).mono ?_
    rintro e w1 ⟨rfl, rfl⟩
    go_wp2_with fail
    refine (as_bool HA.out (l8AskOk_any l la lb lc lca lcb lcc s.x a0 a1 a2 c0 c1 c2 _ (HL.out.mono hB0) (HS.out.x.mono hB0))).mono ?_
    rintro e w1 ⟨rfl, hb⟩
    have hX1 := box_later hX0 hq0 hb
    have hY1 := box_later hY0 hz0 hb
    have hz1 := Nat.lt_of_lt_of_le hz0 hb.size
    have hB1 := hB0.trans (hb.mono hB0.size)
    clear hb hX0 hY0 hz0 hB0 hq0
    have hq1 := Nat.lt_of_succ_lt hz1
    go_wp2_with fail
    go_ret
    exact ⟨ret_bool (by unfold Gate.isSlip; rw [HN.out, HA.out, HG.out, HK.out]; rfl), hB1⟩
  · have hkd : decide ((8 : Int) < (s.ws.length : Int)) = false := by simp; omega
    have HK : Hid (decide (s.ws.length ≤ 8) = true) := decide_eq_true hk
    clear hk
    go_enter Tryz.func18, Tryz.ntmps18
    go_wp2_with fail
    obtain ⟨W0, hW0, hX0, hY0, hz0, hB0⟩ := pair_boxes w #[.slice la l.ss.length lca, .slice lb l.ms.length lcb, .slice lc l.ts.length lcc] #[.string s.dr, .string s.x.who, .int .i64 s.x.vb, .string s.x.kd, .string s.x.nm, .string s.x.tm, .slice a0 s.x.vs.length c0, .slice a1 s.x.hs.length c1, .int .i64 s.x.sn, .string s.x.hd, .string s.x.to, .slice a2 s.x.r.vs.length c2, .string s.x.r.kd, .string s.x.r.tm, .string s.x.r.px, .int .i64 s.x.no, .int .i64 s.gv, .slice a3 s.ws.length c3] 43 50
    rw [← hW0]
    clear hW0
    have hq0 := Nat.lt_of_succ_lt hz0
    refine (as_bool HN.out (l1NameOk_any s.dr _ HS.out.dr)).mono ?_
    rintro e w1 ⟨rfl, rfl⟩
    go_wp2_with fail
    refine (as_bool HA.out (l8AskOk_any l la lb lc lca lcb lcc s.x a0 a1 a2 c0 c1 c2 _ (HL.out.mono hB0) (HS.out.x.mono hB0))).mono ?_
    rintro e w1 ⟨rfl, hb⟩
    have hX1 := box_later hX0 hq0 hb
    have hY1 := box_later hY0 hz0 hb
    have hz1 := Nat.lt_of_lt_of_le hz0 hb.size
    have hB1 := hB0.trans (hb.mono hB0.size)
    clear hb hX0 hY0 hz0 hB0 hq0
    have hq1 := Nat.lt_of_succ_lt hz1
    go_wp2_with fail
    have HW : Hid (WtsAt w1 a3 s.ws) := HS.out.ws.mono hB1
    have hXk : ∀ wr, Below w1.heap.size w1 wr → ∀ j, wr.cell? ⟨w.heap.size + 1, j, none⟩ = (#[.string s.dr, .string s.x.who, .int .i64 s.x.vb, .string s.x.kd, .string s.x.nm, .string s.x.tm, .slice a0 s.x.vs.length c0, .slice a1 s.x.hs.length c1, .int .i64 s.x.sn, .string s.x.hd, .string s.x.to, .slice a2 s.x.r.vs.length c2, .string s.x.r.kd, .string s.x.r.tm, .string s.x.r.px, .int .i64 s.x.no, .int .i64 s.gv, .slice a3 s.ws.length c3] : Array Value)[j]? := fun wr hb => box_later hY1 hz1 hb
    go_loopw [5] (fun i wr => ∃ k : Nat, k ≤ s.ws.length ∧ i = .int .i64 k ∧ (s.ws.take k).any Gate.wantBad = false ∧ Below w1.heap.size w1 wr) (fun i _ => s.ws.length - (intOf i).toNat)
    case atStart => exact ⟨0, Nat.zero_le _, rfl, rfl, Below.refl _ _⟩
    case round =>
      obtain ⟨k, hk, rfl, hno, hB⟩ := hrel
      have hY := hXk wr hB
      have hzr : w.heap.size + 1 < wr.heap.size := Nat.lt_of_lt_of_le hz1 hB.size
      clear hX1 hY1 hXk
      by_cases hlt : k < s.ws.length
      · obtain ⟨b, off, rfl, hb, c0, c1, c2⟩ := HW.out.load hB k hlt
        have hltI : (k : Int) < (s.ws.length : Int) := by omega
        have hsm := HW.out.small k hlt
        have HSM : Hid s.ws[k].Small := hsm
        clear hsm
        by_cases g1 : Gate.nameOk s.ws[k].kd = true
        rotate_left
        · have G1 : Hid (Gate.nameOk s.ws[k].kd = false) := Bool.eq_false_iff.2 g1
          have HE : Hid (s.ws.any Gate.wantBad = true) := any_at _ s.ws k hlt (by unfold Gate.wantBad; rw [G1.out]; rfl)
          clear g1 hno
          go_wp2_with fail
          refine (as_bool G1.out (l1NameOk_any _ _ HSM.out.kd)).mono ?_
          rintro e w2 ⟨rfl, rfl⟩
          go_wp2_with fail
          go_ret
          exact ⟨ret_bool (by unfold Gate.isSlip; rw [HN.out, HA.out, HG.out, HK.out, HE.out]; rfl), hB1.trans (hB.mono hB1.size)⟩
        have G1 : Hid (Gate.nameOk s.ws[k].kd = true) := g1
        clear g1
        by_cases g2 : Gate.nameOk s.ws[k].nm = true
        rotate_left
        · have G2 : Hid (Gate.nameOk s.ws[k].nm = false) := Bool.eq_false_iff.2 g2
          have HE : Hid (s.ws.any Gate.wantBad = true) := any_at _ s.ws k hlt (by unfold Gate.wantBad; rw [G1.out, G2.out]; rfl)
          clear g2 hno
          go_wp2_with fail
          refine (as_bool G1.out (l1NameOk_any _ _ HSM.out.kd)).mono ?_
          rintro e w2 ⟨rfl, rfl⟩
          go_wp2_with fail
          refine (as_bool G2.out (l1NameOk_any _ _ HSM.out.nm)).mono ?_
          rintro e w2 ⟨rfl, rfl⟩
          go_wp2_with fail
          go_ret
          exact ⟨ret_bool (by unfold Gate.isSlip; rw [HN.out, HA.out, HG.out, HK.out, HE.out]; rfl), hB1.trans (hB.mono hB1.size)⟩
        have G2 : Hid (Gate.nameOk s.ws[k].nm = true) := g2
        clear g2
        by_cases g3 : s.ws[k].vn < 0
        · have hvd : decide (s.ws[k].vn < 0) = true := decide_eq_true g3
          have HE : Hid (s.ws.any Gate.wantBad = true) := any_at _ s.ws k hlt (by unfold Gate.wantBad; rw [G1.out, G2.out, hvd]; rfl)
          clear g3 hno
          go_wp2_with fail
          refine (as_bool G1.out (l1NameOk_any _ _ HSM.out.kd)).mono ?_
          rintro e w2 ⟨rfl, rfl⟩
          go_wp2_with fail
          refine (as_bool G2.out (l1NameOk_any _ _ HSM.out.nm)).mono ?_
          rintro e w2 ⟨rfl, rfl⟩
          go_wp2_with fail
          go_ret
          exact ⟨ret_bool (by unfold Gate.isSlip; rw [HN.out, HA.out, HG.out, HK.out, HE.out]; rfl), hB1.trans (hB.mono hB1.size)⟩
        · have hvd : decide (s.ws[k].vn < 0) = false := decide_eq_false g3
          have HE : Hid ((s.ws.take (k + 1)).any Gate.wantBad = false) := by unfold Hid; rw [any_take_snoc _ s.ws k hlt, hno]; unfold Gate.wantBad; rw [G1.out, G2.out, hvd]; rfl
          clear g3 hno
          go_wp2_with fail
          refine (as_bool G1.out (l1NameOk_any _ _ HSM.out.kd)).mono ?_
          rintro e w2 ⟨rfl, rfl⟩
          go_wp2_with fail
          refine (as_bool G2.out (l1NameOk_any _ _ HSM.out.nm)).mono ?_
          rintro e w2 ⟨rfl, rfl⟩
          go_wp2_with fail
          exact ⟨⟨k + 1, by omega, by go_num, HE.out, hB⟩, by simp [intOf]; omega⟩
      · have HE : Hid (s.ws.any Gate.wantBad = false) := by unfold Hid; rw [← hno, List.take_of_length_le (by omega)]
        clear hno
        go_wp2_with fail
        go_ret
        exact ⟨ret_bool (by unfold Gate.isSlip; rw [HN.out, HA.out, HG.out, HK.out, HE.out]; rfl), hB1.trans (hB.mono hB1.size)⟩

end Go.Proofs.YtbmhnkbcndbdcaaGreat
