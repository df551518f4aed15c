import Derived.Test.YtbmhnkbcndbdcaaGreatM19
import Derived.Test.YtbmhnkbcndbdcaaGreatM44
namespace Go.Proofs.YtbmhnkbcndbdcaaGreat
open Go.RowKit

def Gate.wantBad (m : Wt) : Bool := !Gate.nameOk m.kd || (!Gate.nameOk m.nm || decide (m.vn < 0))
def Gate.isSlip (l : Lw) (s : Sl) : Bool := Gate.nameOk s.dr && (Gate.isAsk l s.x && (decide (0 ≤ s.gv) && (decide (s.ws.length ≤ 8) && !s.ws.any Gate.wantBad)))

set_option maxHeartbeats 1000000 in
theorem isFaulty_any (m : Wt) (w : World) (hm : m.Small) :
    Calls Tryz.prog 52 #[.agg m.cells] w fun e w' => e = .returned (.bool (Gate.wantBad m)) ∧ Below w.heap.size w w' := by
  have HM : Hid m.Small := hm
  clear hm
  unfold Wt.cells
  have hB : ∀ ob, Below w.heap.size w (w.alloc ob) := fun ob => (Below.refl _ _).alloc (Nat.le_refl _) _
  by_cases h1 : Gate.nameOk m.kd = true
  rotate_left
  · have H1 : Hid (Gate.nameOk m.kd = false) := Bool.eq_false_iff.2 h1
    clear h1
    go_enter Tryz.func52, Tryz.ntmps52
    go_wp2_with fail
    refine (as_bool H1.out (isName_any m.kd _ HM.out.kd)).mono ?_
    rintro e w1 ⟨rfl, rfl⟩
    go_wp2_with fail
    go_ret
    exact ⟨ret_bool (by unfold Gate.wantBad; rw [H1.out]; rfl), hB _⟩
  have H1 : Hid (Gate.nameOk m.kd = true) := h1
  clear h1
  by_cases h2 : Gate.nameOk m.nm = true
  rotate_left
  · have H2 : Hid (Gate.nameOk m.nm = false) := Bool.eq_false_iff.2 h2
    clear h2
    go_enter Tryz.func52, Tryz.ntmps52
    go_wp2_with fail
    refine (as_bool H1.out (isName_any m.kd _ HM.out.kd)).mono ?_
    rintro e w1 ⟨rfl, rfl⟩
    go_wp2_with fail
    refine (as_bool H2.out (isName_any m.nm _ HM.out.nm)).mono ?_
    rintro e w1 ⟨rfl, rfl⟩
    go_wp2_with fail
    go_ret
    exact ⟨ret_bool (by unfold Gate.wantBad; rw [H1.out, H2.out]; rfl), hB _⟩
  · have H2 : Hid (Gate.nameOk m.nm = true) := h2
    clear h2
    go_enter Tryz.func52, Tryz.ntmps52
    go_wp2_with fail
    refine (as_bool H1.out (isName_any m.kd _ HM.out.kd)).mono ?_
    rintro e w1 ⟨rfl, rfl⟩
    go_wp2_with fail
    refine (as_bool H2.out (isName_any m.nm _ HM.out.nm)).mono ?_
    rintro e w1 ⟨rfl, rfl⟩
    go_wp2_with fail
    go_ret
    exact ⟨ret_bool (by unfold Gate.wantBad; rw [H1.out, H2.out]; rfl), hB _⟩

set_option maxHeartbeats 1000000 in
theorem IndexFuncW_any (a : Option Addr) (cap : Nat) (ms : List Wt) (w : World) (hw : WtsAt w a ms) :
    Calls Tryz.prog 88 #[.slice a ms.length cap, .func (.func 52) #[] #[]] w fun e w' => ∃ r : Int, e = .returned (.int .i64 r) ∧ decide (0 ≤ r) = ms.any Gate.wantBad ∧ Below w.heap.size w w' := by
  have hl := hw.len
  unfold maxLen at hl
  go_enter Tryz.func88, Tryz.ntmps88
  go_wp2_with fail
  go_loopw [8] (fun i wr => ∃ k : Nat, k ≤ ms.length ∧ i = .int .i64 k ∧ (ms.take k).any Gate.wantBad = false ∧ Below w.heap.size w wr) (fun i _ => ms.length - (intOf i).toNat)
  case atStart => exact ⟨0, Nat.zero_le _, rfl, rfl, Below.refl _ _⟩
  case round =>
    obtain ⟨k, hk, rfl, hno, hB⟩ := hrel
    by_cases hlt : k < ms.length
    · obtain ⟨b, off, rfl, hb, c0, c1, c2⟩ := hw.load hB k hlt
      have hltI : (k : Int) < (ms.length : Int) := by omega
      have hc := isFaulty_any ms[k] wr (hw.small k hlt)
      clear hw
      by_cases he : Gate.wantBad ms[k] = true
      · have HA : Hid (ms.any Gate.wantBad = true) := any_at _ ms k hlt he
        have HE : Hid (Gate.wantBad ms[k] = true) := he
        clear he hno
        go_wp2_with fail
        refine (as_bool HE.out hc).mono ?_
        rintro e w2 ⟨rfl, hb2⟩
        go_wp2_with fail
        go_ret
        exact ⟨_, rfl, by rw [HA.out]; simp, hB.trans (hb2.mono hB.size)⟩
      · have he' : Gate.wantBad ms[k] = false := by simpa using he
        have HS : Hid ((ms.take (k + 1)).any Gate.wantBad = false) := by unfold Hid; rw [any_take_snoc _ ms k hlt, hno, he']; rfl
        have HE : Hid (Gate.wantBad ms[k] = false) := he'
        clear he he' hno
        go_wp2_with fail
        refine (as_bool HE.out hc).mono ?_
        rintro e w2 ⟨rfl, hb2⟩
        go_wp2_with fail
        exact ⟨⟨k + 1, by omega, by go_num, HS.out, hB.trans (hb2.mono hB.size)⟩, by simp [intOf]; omega⟩
    · have HA : Hid (ms.any Gate.wantBad = false) := by unfold Hid; rw [← hno, List.take_of_length_le (by omega)]
      clear hno hw
      go_wp2_with fail
      go_ret
      exact ⟨_, rfl, by rw [HA.out]; rfl, hB⟩

set_option maxHeartbeats 400000 in
theorem ContainsFuncW_any (a : Option Addr) (cap : Nat) (ms : List Wt) (w : World) (hw : WtsAt w a ms) :
    Calls Tryz.prog 51 #[.slice a ms.length cap, .func (.func 52) #[] #[]] w fun e w' => e = .returned (.bool (ms.any Gate.wantBad)) ∧ Below w.heap.size w w' := by
  go_enter Tryz.func51, Tryz.ntmps51
  go_wp2_with fail
  refine (IndexFuncW_any _ _ _ _ hw).mono ?_
  rintro e w2 ⟨r, rfl, hr, hb2⟩
  go_wp2_with fail
  go_ret
  exact ⟨rfl, hb2⟩

set_option maxHeartbeats 4000000 in
theorem isSlip_any (l : Lw) (la lb lc : Option Addr) (lca lcb lcc : Nat) (s : Sl) (a0 a1 a2 a3 : Option Addr) (c0 c1 c2 c3 : Nat) (w : World) (hl : LwAt w l la lb lc) (hs : SlAt w s a0 a1 a2 a3) :
    Calls Tryz.prog 25 #[.agg (l.cells la lb lc lca lcb lcc), .agg (s.cells a0 a1 a2 a3 c0 c1 c2 c3)] w fun e w' => e = .returned (.bool (Gate.isSlip l s)) ∧ Below w.heap.size w w' := by
  have HL : Hid (LwAt w l la lb lc) := hl
  have HS : Hid (SlAt w s a0 a1 a2 a3) := hs
  have hln := hs.ws.len
  unfold maxLen at hln
  clear hl hs
  unfold Sl.cells Lw.cells
  by_cases hn : Gate.nameOk s.dr = true
  rotate_left
  · have HN : Hid (Gate.nameOk s.dr = false) := Bool.eq_false_iff.2 hn
    clear hn
    go_enter Tryz.func25, Tryz.ntmps25
    go_wp2_with fail
    obtain ⟨W0, hW0, hX0, hY0, hz0, hB0⟩ := pair_boxes w #[.slice la l.ss.length lca, .slice lb l.ms.length lcb, .slice lc l.ts.length lcc] #[.string s.dr, .string s.x.who, .int .i64 s.x.vb, .string s.x.kd, .string s.x.nm, .string s.x.tm, .slice a0 s.x.vs.length c0, .slice a1 s.x.hs.length c1, .int .i64 s.x.sn, .string s.x.hd, .string s.x.to, .slice a2 s.x.r.vs.length c2, .string s.x.r.kd, .string s.x.r.tm, .string s.x.r.px, .int .i64 s.x.no, .int .i64 s.gv, .slice a3 s.ws.length c3] 43 50
    rw [← hW0]
    clear hW0
    have hq0 := Nat.lt_of_succ_lt hz0
    refine (as_bool HN.out (isName_any s.dr _ HS.out.dr)).mono ?_
    rintro e w1 ⟨rfl, rfl⟩
    go_wp2_with fail
    go_ret
    exact ⟨ret_bool (by unfold Gate.isSlip; rw [HN.out]; rfl), hB0⟩
  have HN : Hid (Gate.nameOk s.dr = true) := hn
  clear hn
  by_cases ha : Gate.isAsk l s.x = true
  rotate_left
  · have HA : Hid (Gate.isAsk l s.x = false) := Bool.eq_false_iff.2 ha
    clear ha
    go_enter Tryz.func25, Tryz.ntmps25
    go_wp2_with fail
    obtain ⟨W0, hW0, hX0, hY0, hz0, hB0⟩ := pair_boxes w #[.slice la l.ss.length lca, .slice lb l.ms.length lcb, .slice lc l.ts.length lcc] #[.string s.dr, .string s.x.who, .int .i64 s.x.vb, .string s.x.kd, .string s.x.nm, .string s.x.tm, .slice a0 s.x.vs.length c0, .slice a1 s.x.hs.length c1, .int .i64 s.x.sn, .string s.x.hd, .string s.x.to, .slice a2 s.x.r.vs.length c2, .string s.x.r.kd, .string s.x.r.tm, .string s.x.r.px, .int .i64 s.x.no, .int .i64 s.gv, .slice a3 s.ws.length c3] 43 50
    rw [← hW0]
    clear hW0
    have hq0 := Nat.lt_of_succ_lt hz0
    refine (as_bool HN.out (isName_any s.dr _ HS.out.dr)).mono ?_
    rintro e w1 ⟨rfl, rfl⟩
    go_wp2_with fail
    refine (as_bool HA.out (isAsk_any l la lb lc lca lcb lcc s.x a0 a1 a2 c0 c1 c2 _ (HL.out.mono hB0) (HS.out.x.mono hB0))).mono ?_
    rintro e w1 ⟨rfl, hb⟩
    have hX1 := box_later hX0 hq0 hb
    have hY1 := box_later hY0 hz0 hb
    have hz1 := Nat.lt_of_lt_of_le hz0 hb.size
    have hB1 := hB0.trans (hb.mono hB0.size)
    clear hb hX0 hY0 hz0 hB0 hq0
    have hq1 := Nat.lt_of_succ_lt hz1
    go_wp2_with fail
    go_ret
    exact ⟨ret_bool (by unfold Gate.isSlip; rw [HN.out, HA.out]; rfl), hB1⟩
  have HA : Hid (Gate.isAsk l s.x = true) := ha
  clear ha
  by_cases hg : 0 ≤ s.gv
  rotate_left
  · have hgd : decide (s.gv < 0) = true := by simp; omega
    have HG : Hid (decide (0 ≤ s.gv) = false) := decide_eq_false hg
    clear hg
    go_enter Tryz.func25, Tryz.ntmps25
    go_wp2_with fail
    obtain ⟨W0, hW0, hX0, hY0, hz0, hB0⟩ := pair_boxes w #[.slice la l.ss.length lca, .slice lb l.ms.length lcb, .slice lc l.ts.length lcc] #[.string s.dr, .string s.x.who, .int .i64 s.x.vb, .string s.x.kd, .string s.x.nm, .string s.x.tm, .slice a0 s.x.vs.length c0, .slice a1 s.x.hs.length c1, .int .i64 s.x.sn, .string s.x.hd, .string s.x.to, .slice a2 s.x.r.vs.length c2, .string s.x.r.kd, .string s.x.r.tm, .string s.x.r.px, .int .i64 s.x.no, .int .i64 s.gv, .slice a3 s.ws.length c3] 43 50
    rw [← hW0]
    clear hW0
    have hq0 := Nat.lt_of_succ_lt hz0
    refine (as_bool HN.out (isName_any s.dr _ HS.out.dr)).mono ?_
    rintro e w1 ⟨rfl, rfl⟩
    go_wp2_with fail
    refine (as_bool HA.out (isAsk_any l la lb lc lca lcb lcc s.x a0 a1 a2 c0 c1 c2 _ (HL.out.mono hB0) (HS.out.x.mono hB0))).mono ?_
    rintro e w1 ⟨rfl, hb⟩
    have hX1 := box_later hX0 hq0 hb
    have hY1 := box_later hY0 hz0 hb
    have hz1 := Nat.lt_of_lt_of_le hz0 hb.size
    have hB1 := hB0.trans (hb.mono hB0.size)
    clear hb hX0 hY0 hz0 hB0 hq0
    have hq1 := Nat.lt_of_succ_lt hz1
    go_wp2_with fail
    go_ret
    exact ⟨ret_bool (by unfold Gate.isSlip; rw [HN.out, HA.out, HG.out]; rfl), hB1⟩
  have hgd : decide (s.gv < 0) = false := by simp; omega
  have HG : Hid (decide (0 ≤ s.gv) = true) := decide_eq_true hg
  clear hg
  by_cases hk : s.ws.length ≤ 8
  rotate_left
  · have hkd : decide ((8 : Int) < (s.ws.length : Int)) = true := by simp; omega
    have HK : Hid (decide (s.ws.length ≤ 8) = false) := decide_eq_false hk
    clear hk
    go_enter Tryz.func25, Tryz.ntmps25
    go_wp2_with fail
    obtain ⟨W0, hW0, hX0, hY0, hz0, hB0⟩ := pair_boxes w #[.slice la l.ss.length lca, .slice lb l.ms.length lcb, .slice lc l.ts.length lcc] #[.string s.dr, .string s.x.who, .int .i64 s.x.vb, .string s.x.kd, .string s.x.nm, .string s.x.tm, .slice a0 s.x.vs.length c0, .slice a1 s.x.hs.length c1, .int .i64 s.x.sn, .string s.x.hd, .string s.x.to, .slice a2 s.x.r.vs.length c2, .string s.x.r.kd, .string s.x.r.tm, .string s.x.r.px, .int .i64 s.x.no, .int .i64 s.gv, .slice a3 s.ws.length c3] 43 50
    rw [← hW0]
    clear hW0
    have hq0 := Nat.lt_of_succ_lt hz0
    refine (as_bool HN.out (isName_any s.dr _ HS.out.dr)).mono ?_
    rintro e w1 ⟨rfl, rfl⟩
    go_wp2_with fail
    refine (as_bool HA.out (isAsk_any l la lb lc lca lcb lcc s.x a0 a1 a2 c0 c1 c2 _ (HL.out.mono hB0) (HS.out.x.mono hB0))).mono ?_
    rintro e w1 ⟨rfl, hb⟩
    have hX1 := box_later hX0 hq0 hb
    have hY1 := box_later hY0 hz0 hb
    have hz1 := Nat.lt_of_lt_of_le hz0 hb.size
    have hB1 := hB0.trans (hb.mono hB0.size)
    clear hb hX0 hY0 hz0 hB0 hq0
    have hq1 := Nat.lt_of_succ_lt hz1
    go_wp2_with fail
    go_ret
    exact ⟨ret_bool (by unfold Gate.isSlip; rw [HN.out, HA.out, HG.out, HK.out]; rfl), hB1⟩
  · have hkd : decide ((8 : Int) < (s.ws.length : Int)) = false := by simp; omega
    have HK : Hid (decide (s.ws.length ≤ 8) = true) := decide_eq_true hk
    clear hk
    go_enter Tryz.func25, Tryz.ntmps25
    go_wp2_with fail
    obtain ⟨W0, hW0, hX0, hY0, hz0, hB0⟩ := pair_boxes w #[.slice la l.ss.length lca, .slice lb l.ms.length lcb, .slice lc l.ts.length lcc] #[.string s.dr, .string s.x.who, .int .i64 s.x.vb, .string s.x.kd, .string s.x.nm, .string s.x.tm, .slice a0 s.x.vs.length c0, .slice a1 s.x.hs.length c1, .int .i64 s.x.sn, .string s.x.hd, .string s.x.to, .slice a2 s.x.r.vs.length c2, .string s.x.r.kd, .string s.x.r.tm, .string s.x.r.px, .int .i64 s.x.no, .int .i64 s.gv, .slice a3 s.ws.length c3] 43 50
    rw [← hW0]
    clear hW0
    have hq0 := Nat.lt_of_succ_lt hz0
    refine (as_bool HN.out (isName_any s.dr _ HS.out.dr)).mono ?_
    rintro e w1 ⟨rfl, rfl⟩
    go_wp2_with fail
    refine (as_bool HA.out (isAsk_any l la lb lc lca lcb lcc s.x a0 a1 a2 c0 c1 c2 _ (HL.out.mono hB0) (HS.out.x.mono hB0))).mono ?_
    rintro e w1 ⟨rfl, hb⟩
    have hX1 := box_later hX0 hq0 hb
    have hY1 := box_later hY0 hz0 hb
    have hz1 := Nat.lt_of_lt_of_le hz0 hb.size
    have hB1 := hB0.trans (hb.mono hB0.size)
    clear hb hX0 hY0 hz0 hB0 hq0
    have hq1 := Nat.lt_of_succ_lt hz1
    go_wp2_with fail
    refine (ContainsFuncW_any _ _ s.ws _ (HS.out.ws.mono hB1)).mono ?_
    rintro e w2 ⟨rfl, hb⟩
    have hB2 := hB1.trans (hb.mono hB1.size)
    clear hb
    go_wp2_with fail
    go_ret
    exact ⟨ret_bool (by unfold Gate.isSlip; rw [HN.out, HA.out, HG.out, HK.out]; simp), hB2⟩

end Go.Proofs.YtbmhnkbcndbdcaaGreat
