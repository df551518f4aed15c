import Derived.Test.YtlonpcaniibehaaM05
import Derived.Test.YtlonpcaniibehaaM11
import Derived.Test.YtlonpcaniibehaaRows
import Derived.Test.YtlonpcaniibehaaM01
import Derived.ProofKit
import Derived.SliceStrings
namespace Go.Proofs.Ytlonpcaniibehaa
open Go.RowKit

set_option maxHeartbeats 1000000 in
theorem szGateRuleS_any (a : Option Addr) (cap : Nat) (rs : List Rl) (left : Int) (w : World) (hw : RlsAt w a rs) (h0 : 0 ≤ left) (h1 : left ≤ 1048576) :
    Calls Try.prog 21 #[.slice a rs.length cap, .int .i64 left] w fun e w' => e = .returned (.int .i64 (szRes (rlsSz rs) left)) ∧ Below w.heap.size w w' := by
  have hl := hw.len
  unfold maxLen at hl
  by_cases hfit : (rs.length : Int) ≤ left
  · go_enter Try.func21, Try.ntmps21
    go_wp2_with fail
    go_loopw [1, 5] (fun l i wr => ∃ k : Nat, k ≤ rs.length ∧ i = .int .i64 k ∧ 0 ≤ left - rs.length - sumR (rs.take k) ∧ l = .int .i64 (left - rs.length - sumR (rs.take k)) ∧ Below w.heap.size w wr) (fun _ i _ => rs.length - (intOf i).toNat)
    case atStart => exact ⟨0, Nat.zero_le _, rfl, by simp [sumR]; omega, by simp [sumR], Below.refl _ _⟩
    case round =>
      obtain ⟨k, hk, rfl, hpos, rfl, hB⟩ := hrel
      by_cases hlt : k < rs.length
      · obtain ⟨b, off, va, vcap, rfl, hb, hsm, hI, c0, c1, c2, c3⟩ := hw.load hB k hlt
        have hbr : b < wr.heap.size := Nat.lt_of_lt_of_le hb hB.size
        have hvl := hI.len
        have HS : Hid (sumR (rs.take (k + 1)) = sumR (rs.take k) + rs[k].sz) := sum_snoc Rl.sz rs k hlt
        have hle : sumR (rs.take (k + 1)) ≤ sumR rs := sum_le Rl.sz rs (k + 1)
        clear hw
        by_cases hneg : (rs[k].sz : Int) ≤ left - rs.length - sumR (rs.take k)
        · have HNG : Hid ((rs[k].sz : Int) ≤ left - rs.length - sumR (rs.take k)) := hneg
          clear hle
          go_wp2_with fail
          refine (szGateRule_yes rs[k] va vcap _ _ hsm hvl hpos (by omega) HNG.out).mono ?_
          rintro e w1 ⟨rfl, hb1⟩
          have hB1 := hB.trans (hb1.mono hB.size)
          clear hb1
          go_wp2_with fail
          exact ⟨⟨k + 1, by omega, by go_num, by rw [HS.out]; omega, by rw [HS.out]; congr 1; omega, hB1⟩, by simp [intOf]; omega⟩
        · have HF : Hid (szRes (rlsSz rs) left = -1) := szRes_no (by have := HS.out; unfold rlsSz; omega)
          have HNG : Hid (¬ (rs[k].sz : Int) ≤ left - rs.length - sumR (rs.take k)) := hneg
          clear hneg hle
          go_wp2_with fail
          refine (szGateRule_no rs[k] va vcap _ _ hsm hvl hpos (by omega) (by have := HNG.out; omega)).mono ?_
          rintro e w1 ⟨rfl, hb1⟩
          have hB1 := hB.trans (hb1.mono hB.size)
          clear hb1
          go_wp2_with fail
          go_ret
          exact ⟨ret_int HF.out.symm, hB1⟩
      · have HF : Hid (szRes (rlsSz rs) left = left - rs.length - sumR (rs.take k)) := by
          rw [List.take_of_length_le (by omega)] at hpos ⊢
          have e : szRes (rlsSz rs) left = left - rlsSz rs := szRes_yes (by unfold rlsSz; omega)
          unfold Hid; rw [e]; unfold rlsSz; omega
        clear hw
        go_wp2
        go_ret
        exact ⟨ret_int HF.out.symm, hB⟩
  · have HF : Hid (szRes (rlsSz rs) left = -1) := szRes_no (by unfold rlsSz; omega)
    clear hw
    go_enter Try.func21, Try.ntmps21
    go_wp2
    go_ret
    exact ⟨ret_int HF.out.symm, Below.refl _ _⟩

set_option maxHeartbeats 2000000 in
theorem eqGateRuleS_yes (a a' : Option Addr) (cap cap' : Nat) (rs : List Rl) (w : World) (hw : RlsAt w a rs) (hw' : RlsAt w a' rs) :
    Calls Try.prog 25 #[.slice a rs.length cap, .slice a' rs.length cap'] w fun e w' => e = .returned (.bool true) ∧ Below w.heap.size w w' := by
  have hl := hw.len
  unfold maxLen at hl
  have hnn : ((rs.length : Int) != rs.length) = false := by simp
  go_enter Try.func25, Try.ntmps25
  go_wp2_with fail
  go_loopw [5] (fun i wr => ∃ k : Nat, k ≤ rs.length ∧ i = .int .i64 k ∧ Below w.heap.size w wr) (fun i _ => rs.length - (intOf i).toNat)
  case atStart => exact ⟨0, Nat.zero_le _, rfl, Below.refl _ _⟩
  case round =>
    obtain ⟨k, hk, rfl, hB⟩ := hrel
    by_cases hlt : k < rs.length
    · obtain ⟨b, off, va, vcap, rfl, hb, hsm, hI, c0, c1, c2, c3⟩ := hw.load hB k hlt
      obtain ⟨b', off', va', vcap', rfl, hb', _, hI', d0, d1, d2, d3⟩ := hw'.load hB k hlt
      have hltI : (k : Int) < (rs.length : Int) := by omega
      clear hw hw'
      go_wp2_with fail
      go_region_with (go_at_call 20; refine (eqGateRule_yes rs[k] _ _ _ _ _ (by exact hI.mono ((Below.refl _ _).drew)) (by exact hI'.mono ((Below.refl _ _).drew))).mono ?_; rintro e w1 ⟨rfl, hb1'⟩; have hb1 := (Below.refl wr.heap.size wr).drew.trans hb1'; clear hb1')
      all_goals go_wp2_with fail
      all_goals exact ⟨⟨k + 1, by omega, by go_num, hB.trans (hb1.mono hB.size)⟩, by simp [intOf]; omega⟩
    · clear hw hw'
      go_wp2_with fail
      go_ret
      exact ⟨rfl, hB⟩

theorem rls_few {rs : List Rl} {left : Int} (h : (rlsSz rs : Int) ≤ left) (hl : left ≤ 1048576) : rs.length ≤ 1048576 ∧ ∀ i (h : i < rs.length), rs[i].vs.length ≤ 1048576 := by
  unfold rlsSz at h
  refine ⟨by omega, fun i hi => ?_⟩
  have h1 : rs[i].sz ≤ sumR rs := sum_mem Rl.sz rs i hi
  unfold Rl.sz at h1
  omega

set_option maxHeartbeats 2000000 in
theorem toGateRuleS_any (a : Option Addr) (cap : Nat) (rs : List Rl) (w : World) (hw : RlsAt w a rs) (hl : rs.length ≤ 1048576) (hls : ∀ i (h : i < rs.length), rs[i].vs.length ≤ 1048576) :
    Calls Try.prog 23 #[.slice a rs.length cap] w fun e w' => e = .returned (.slice (some ⟨w.heap.size, 0, none⟩) rs.length rs.length) ∧ RlsOwn 39 3 w.heap.size w' w.heap.size rs rs.length ∧ Below w.heap.size w w' := by
  have hmk : ∀ w : World, (Instr.makeSlice 48 (.int .i64 rs.length) (.int .i64 rs.length)).run Try.prog w = .ok (.slice (some ⟨w.heap.size, 0, none⟩) rs.length rs.length) (w.alloc (.cells (rlsZero rs.length) 39)) :=
    fun w => run_make_rows (P := Try.prog) 48 39 (.agg rlZero) 4 72 Try.underlying48 (by kernel_rfl) rs.length (by omega) (by omega) w
  go_enter Try.func23, Try.ntmps23
  go_wp2_with fail
  clear hmk
  go_loopw [4] (fun i wr => ∃ k : Nat, k ≤ rs.length ∧ i = .int .i64 k ∧ RlsOwn 39 3 w.heap.size wr w.heap.size rs k ∧ Below w.heap.size w wr) (fun i _ => rs.length - (intOf i).toNat)
  case atStart => exact ⟨0, Nat.zero_le _, rfl, ⟨Nat.le_refl _, rlsZero rs.length, (MapKept.heap_alloc w _).1, size_madeCells _ _, fun i _ h => absurd h (by omega)⟩, (Below.refl _ _).alloc (Nat.le_refl _) _⟩
  case round =>
    obtain ⟨k, hk, rfl, hown, hB⟩ := hrel
    by_cases hlt : k < rs.length
    · obtain ⟨b, off, va, vcap, rfl, hb, hsm, hI, c0, c1, c2, c3⟩ := hw.load hB k hlt
      have HLS : Hid (rs[k].vs.length ≤ 1048576) := hls k hlt
      have hltI : (k : Int) < (rs.length : Int) := by omega
      clear hw
      go_wp2_with fail
      refine (toGateRule_any rs[k] va vcap _ hI HLS.out).mono ?_
      rintro e w1 ⟨bk, rfl, hlo, hhi, hbk, hb1⟩
      have hB1 := hB.trans (hb1.mono hB.size)
      have hown1 := hown.later hb1
      obtain ⟨C, hC, hsz, _⟩ := hown1.rows
      have hfz : ∀ o, w1.frozen? ⟨w.heap.size, o, none⟩ = false := fun o => frozen_of_block hC
      have hex : ∀ o, o < rs.length * 4 → ∃ v, w1.cell? ⟨w.heap.size, o, none⟩ = some v := fun o ho => ⟨C[o]'(by omega), by rw [cell_of_block hC]; exact Array.getElem?_eq_getElem (by omega)⟩
      obtain ⟨v0, hv0⟩ := hex (k * 4) (by omega)
      obtain ⟨v1, hv1⟩ := hex (k * 4 + 1) (by omega)
      obtain ⟨v2, hv2⟩ := hex (k * 4 + 2) (by omega)
      obtain ⟨v3, hv3⟩ := hex (k * 4 + 3) (by omega)
      clear hex hC hsz c0 c1 c2 c3
      have hbo : w.heap.size < wr.heap.size := by
        obtain ⟨C', hC', _⟩ := hown.rows
        exact (Array.getElem?_eq_some_iff.1 hC').1
      unfold Rl.cells
      go_wp2_with fail
      exact ⟨⟨k + 1, by omega, by go_num, hown1.put hlt bk (by omega) (by omega) hbk, put4_below hB1 (Nat.le_refl _) _ _ _ _ _⟩, by simp [intOf]; omega⟩
    · have HF : Hid (RlsOwn 39 3 w.heap.size wr w.heap.size rs rs.length) := by
        have e : k = rs.length := by omega
        subst e; exact hown
      clear hw hown
      go_wp2_with fail
      go_ret
      exact ⟨rfl, HF.out, hB⟩

end Go.Proofs.Ytlonpcaniibehaa

namespace Go.Proofs.Ytlonpcaniibehaa
open Go.RowKit

set_option maxHeartbeats 8000000 in
theorem lawCovers_any (ta : Option Addr) (tcap : Nat) (ts : List Tm) (ra : Option Addr) (rcap : Nat) (rs : List Rl) (r : Rl) (a : Option Addr) (cap : Nat) (w : World) (hw : TmsAt w ta ts) (hr : RlsAt w ra rs) (hm : r.Small) (hi : IntsAt w a r.vs) :
    Calls Try.prog 6 #[.slice ta ts.length tcap, .slice ra rs.length rcap, .agg (r.cells a cap)] w fun e w' => e = .returned (.bool true) ∧ Below w.heap.size w w' := by
  have HT : Hid (TmsAt w ta ts) := hw
  have HR : Hid (RlsAt w ra rs) := hr
  have HI : Hid (IntsAt w a r.vs) := hi
  have HM : Hid r.Small := hm
  have HTS : Hid ((∀ i (h : i < ts.length), ts[i].Small) ∧ ts.length ≤ maxLen) := ⟨hw.small, hw.len⟩
  have HRS : Hid (RlsSmall rs ∧ rs.length ≤ maxLen) := ⟨hr.smalls, hr.len⟩
  clear hw hr hi hm
  unfold Rl.cells
  go_enter Try.func6, Try.ntmps6
  go_wp2_with fail
  have hB0 : Below w.heap.size w (w.alloc (.cells #[.slice a r.vs.length cap, .string r.kd, .string r.tm, .string r.px] 33)) := (Below.refl _ _).alloc (Nat.le_refl _) _
  have hX0 := box_new w #[.slice a r.vs.length cap, .string r.kd, .string r.tm, .string r.px] 33
  obtain ⟨W0, hW0⟩ : ∃ W0, W0 = w.alloc (.cells #[.slice a r.vs.length cap, .string r.kd, .string r.tm, .string r.px] 33) := ⟨_, rfl⟩
  have hz0 : w.heap.size < W0.heap.size := by rw [hW0]; simp
  rw [← hW0] at hB0 hX0 ⊢
  clear hW0
  refine (szGateTeamS_any _ _ ts _ _ (HT.out.mono hB0) (by omega) (by omega)).mono ?_
  rintro e w1 ⟨rfl, hb1⟩
  have hB1 := hB0.trans (hb1.mono hB0.size)
  have hX1 := box_later hX0 hz0 hb1
  have hz1 := Nat.lt_of_lt_of_le hz0 hb1.size
  clear hb1 hB0 hX0 hz0
  by_cases hsz : (tmsSz ts : Int) ≤ 1048576
  rotate_left
  · rw [szRes_no (by omega)]
    go_wp2_with fail
    go_ret
    exact ⟨rfl, hB1⟩
  have HLT : Hid (ts.length ≤ 1048576) := by unfold tmsSz at hsz; show _ ≤ _; omega
  have hneg : decide (1048576 - (tmsSz ts : Int) < 0) = false := by simp; omega
  rw [szRes_yes hsz]
  go_wp2_with fail
  refine (szGateRuleS_any _ _ rs _ _ (HR.out.mono hB1) (by omega) (by omega)).mono ?_
  rintro e w2 ⟨rfl, hb1⟩
  have hB2 := hB1.trans (hb1.mono hB1.size)
  have hX2 := box_later hX1 hz1 hb1
  have hz2 := Nat.lt_of_lt_of_le hz1 hb1.size
  clear hb1 hB1 hX1 hz1
  by_cases hsr : (rlsSz rs : Int) ≤ 1048576 - (tmsSz ts : Int)
  rotate_left
  · rw [szRes_no (by omega)]
    go_wp2_with fail
    go_ret
    exact ⟨rfl, hB2⟩
  have HLS : Hid (rs.length ≤ 1048576 ∧ ∀ i (h : i < rs.length), rs[i].vs.length ≤ 1048576) := rls_few hsr (by omega)
  have hneg2 : decide (1048576 - (tmsSz ts : Int) - (rlsSz rs : Int) < 0) = false := by simp; omega
  rw [szRes_yes hsr]
  go_wp2_with fail
  refine (szGateRule_any r _ _ _ _ HM.out HI.out.len (by omega) (by omega)).mono ?_
  rintro e w3 ⟨rfl, hb1⟩
  have hB3 := hB2.trans (hb1.mono hB2.size)
  have hX3 := box_later hX2 hz2 hb1
  have hz3 := Nat.lt_of_lt_of_le hz2 hb1.size
  clear hb1 hB2 hX2 hz2
  by_cases hsx : (r.sz : Int) ≤ 1048576 - (tmsSz ts : Int) - (rlsSz rs : Int)
  rotate_left
  · rw [szRes_no (by omega)]
    go_wp2_with fail
    go_ret
    exact ⟨rfl, hB3⟩
  have HLR : Hid (r.vs.length ≤ 1048576) := by unfold Rl.sz at hsx; show _ ≤ _; omega
  have hneg3 : decide (1048576 - (tmsSz ts : Int) - (rlsSz rs : Int) - (r.sz : Int) < 0) = false := by simp; omega
  rw [szRes_yes hsx]
  go_wp2_with fail
  have hB := hB3.drew
  have hX := box_later hX3 hz3 (Below.refl w3.heap.size w3).drew
  have hz : w.heap.size < w3.drew.heap.size := hz3
  clear hB3 hX3 hz3
  go_region_held3 (fun w' => ∀ j, w'.cell? ⟨w.heap.size, j, none⟩ = (#[.slice a r.vs.length cap, .string r.kd, .string r.tm, .string r.px] : Array Value)[j]?) (exact hX) (first
    | (go_at_call 9; refine (toGateTeamS_any _ _ ts _ (by exact HT.out.mono hB) HLT.out).mono ?_; rintro e w4 ⟨rfl, hown, hb⟩; have ht := hown.at HTS.out.1 HTS.out.2; clear hown; have hX := box_later hX hz hb; have hB := hB.trans (hb.mono hB.size); have hz := Nat.lt_of_lt_of_le hz hb.size; clear hb)
    | (go_at_call 23; refine (toGateRuleS_any _ _ rs _ (by exact HR.out.mono hB) HLS.out.1 HLS.out.2).mono ?_; rintro e w4 ⟨rfl, hown, hb⟩; have hrs := hown.at HRS.out.1 HRS.out.2; clear hown; have ht := ht.mono hb; have hX := box_later hX hz hb; have hB := hB.trans (hb.mono hB.size); have hz := Nat.lt_of_lt_of_le hz hb.size; clear hb)
    | (go_at_call 17; refine (toGateRule_any r _ _ _ (by exact HI.out.mono hB) HLR.out).mono ?_; rintro e w4 ⟨bk, rfl, hlo, hhi, hbk, hb⟩; have hr := heap_ints hbk HI.out.len; clear hlo hhi hbk; have ht := ht.mono hb; have hrs := hrs.mono hb; have hX := box_later hX hz hb; have hB := hB.trans (hb.mono hB.size); have hz := Nat.lt_of_lt_of_le hz hb.size; clear hb)
    | (go_at_call 22; refine (specCovers_any _ _ ts _ _ rs r _ _ _ (by exact ht) (by exact hrs) HM.out (by exact hr)).mono ?_; rintro e w4 ⟨rfl, hb⟩; clear ht hr hrs; have hX := box_later hX hz hb; have hB := hB.trans (hb.mono hB.size); have hz := Nat.lt_of_lt_of_le hz hb.size; clear hb))
  go_wp2_with fail
  refine (toGateTeamS_any _ _ ts _ (HT.out.mono hB) HLT.out).mono ?_
  rintro e w5 ⟨rfl, hown, hb⟩
  have ht5 := hown.at HTS.out.1 HTS.out.2
  have hX5 := box_later hX hz hb
  have hz5 := Nat.lt_of_lt_of_le hz hb.size
  have hB5 := hB.trans (hb.mono hB.size)
  clear hown hb hX hz hB
  go_wp2_with fail
  refine (toGateRuleS_any _ _ rs _ (HR.out.mono hB5) HLS.out.1 HLS.out.2).mono ?_
  rintro e w5' ⟨rfl, hown, hb⟩
  have hrs5 := hown.at HRS.out.1 HRS.out.2
  have ht5' := ht5.mono hb
  have hX5' := box_later hX5 hz5 hb
  have hz5' := Nat.lt_of_lt_of_le hz5 hb.size
  have hB5' := hB5.trans (hb.mono hB5.size)
  clear hown hb hX5 hz5 hB5 ht5
  go_wp2_with fail
  refine (toGateRule_any r _ _ _ (HI.out.mono hB5') HLR.out).mono ?_
  rintro e w6 ⟨bk, rfl, hlo, hhi, hbk, hb⟩
  have hr6 := heap_ints hbk HI.out.len
  have ht6 := ht5'.mono hb
  have hrs6 := hrs5.mono hb
  have hX6 := box_later hX5' hz5' hb
  have hz6 := Nat.lt_of_lt_of_le hz5' hb.size
  have hB6 := hB5'.trans (hb.mono hB5'.size)
  clear hlo hhi hbk hb hX5' hz5' hB5' ht5' hrs5
  unfold Rl.cells
  go_wp2_with fail
  have hb7 : Below w6.heap.size w6 (w6.alloc (.cells #[.slice (some ⟨bk, 0, none⟩) r.vs.length r.vs.length, .string r.kd, .string r.tm, .string r.px] 39)) := (Below.refl _ _).alloc (Nat.le_refl _) _
  have hV0 := box_new w6 #[.slice (some ⟨bk, 0, none⟩) r.vs.length r.vs.length, .string r.kd, .string r.tm, .string r.px] 39
  obtain ⟨w7, hw7⟩ : ∃ w7, w7 = w6.alloc (.cells #[.slice (some ⟨bk, 0, none⟩) r.vs.length r.vs.length, .string r.kd, .string r.tm, .string r.px] 39) := ⟨_, rfl⟩
  have hv7 : w6.heap.size < w7.heap.size := by rw [hw7]; simp
  rw [← hw7] at hb7 hV0 ⊢
  clear hw7
  have hr7 := hr6.mono hb7
  have ht7 := ht6.mono hb7
  have hrs7 := hrs6.mono hb7
  have hX7 := box_later hX6 hz6 hb7
  have hz7 := Nat.lt_of_lt_of_le hz6 hb7.size
  have hB7 := hB6.trans (hb7.mono hB6.size)
  clear hb7 hr6 ht6 hrs6 hX6 hz6 hB6
  refine (implCovers_any _ _ ts _ _ rs r _ _ _ ht7 hrs7 HM.out hr7).mono ?_
  rintro e w8 ⟨rfl, hb⟩
  have hr8 := hr7.mono hb
  have ht8 := ht7.mono hb
  have hrs8 := hrs7.mono hb
  have hX8 := box_later hX7 hz7 hb
  have hV8 := box_later hV0 hv7 hb
  have hz8 := Nat.lt_of_lt_of_le hz7 hb.size
  have hv8 := Nat.lt_of_lt_of_le hv7 hb.size
  have hB8 := hB7.trans (hb.mono hB7.size)
  clear hb hr7 ht7 hrs7 hX7 hV0 hz7 hv7 hB7
  go_wp2_with fail
  refine (toGateTeamS_any _ _ ts _ (HT.out.mono hB8) HLT.out).mono ?_
  rintro e w9 ⟨rfl, hown, hb⟩
  have ht9 := hown.at HTS.out.1 HTS.out.2
  have ht9' := ht8.mono hb
  have hrs9 := hrs8.mono hb
  have hr9 := hr8.mono hb
  have hX9 := box_later hX8 hz8 hb
  have hV9 := box_later hV8 hv8 hb
  have hz9 := Nat.lt_of_lt_of_le hz8 hb.size
  have hv9 := Nat.lt_of_lt_of_le hv8 hb.size
  have hB9 := hB8.trans (hb.mono hB8.size)
  clear hown hb hX8 hV8 hz8 hv8 hB8 ht8 hr8 hrs8
  go_wp2_with fail
  refine (eqGateTeamS_yes _ _ _ _ _ _ ht9' ht9).mono ?_
  rintro e w10 ⟨rfl, hb⟩
  have hrs10 := hrs9.mono hb
  have hr10 := hr9.mono hb
  have hX10 := box_later hX9 hz9 hb
  have hV10 := box_later hV9 hv9 hb
  have hz10 := Nat.lt_of_lt_of_le hz9 hb.size
  have hv10 := Nat.lt_of_lt_of_le hv9 hb.size
  have hB10 := hB9.trans (hb.mono hB9.size)
  clear hb hX9 hV9 hz9 hv9 hB9 ht9 ht9' hr9 hrs9
  go_wp2_with fail
  refine (toGateRuleS_any _ _ rs _ (HR.out.mono hB10) HLS.out.1 HLS.out.2).mono ?_
  rintro e w11 ⟨rfl, hown, hb⟩
  have hrs11 := hown.at HRS.out.1 HRS.out.2
  have hrs11' := hrs10.mono hb
  have hr11 := hr10.mono hb
  have hX11 := box_later hX10 hz10 hb
  have hV11 := box_later hV10 hv10 hb
  have hz11 := Nat.lt_of_lt_of_le hz10 hb.size
  have hv11 := Nat.lt_of_lt_of_le hv10 hb.size
  have hB11 := hB10.trans (hb.mono hB10.size)
  clear hown hb hX10 hV10 hz10 hv10 hB10 hr10 hrs10
  go_wp2_with fail
  refine (eqGateRuleS_yes _ _ _ _ _ _ hrs11' hrs11).mono ?_
  rintro e w12 ⟨rfl, hb⟩
  have hr12 := hr11.mono hb
  have hX12 := box_later hX11 hz11 hb
  have hV12 := box_later hV11 hv11 hb
  have hz12 := Nat.lt_of_lt_of_le hz11 hb.size
  have hv12 := Nat.lt_of_lt_of_le hv11 hb.size
  have hB12 := hB11.trans (hb.mono hB11.size)
  clear hb hX11 hV11 hz11 hv11 hB11 hr11 hrs11 hrs11'
  go_wp2_with fail
  have hr := hr12.mono (Below.refl w12.heap.size w12).drew
  have hX := box_later hX12 hz12 (Below.refl w12.heap.size w12).drew
  have hV := box_later hV12 hv12 (Below.refl w12.heap.size w12).drew
  have hz : w.heap.size < w12.drew.heap.size := hz12
  have hv : w6.heap.size < w12.drew.heap.size := hv12
  have hB := hB12.drew
  clear hr12 hX12 hV12 hz12 hv12 hB12
  go_region_held3 (fun w' => (∀ j, w'.cell? ⟨w.heap.size, j, none⟩ = (#[.slice a r.vs.length cap, .string r.kd, .string r.tm, .string r.px] : Array Value)[j]?) ∧ ∀ j, w'.cell? ⟨w6.heap.size, j, none⟩ = (#[.slice (some ⟨bk, 0, none⟩) r.vs.length r.vs.length, .string r.kd, .string r.tm, .string r.px] : Array Value)[j]?) (exact ⟨hX, hV⟩) (first
    | (go_at_call 17; refine (toGateRule_any r _ _ _ (by exact HI.out.mono hB) HLR.out).mono ?_; rintro e w4 ⟨bk2, rfl, hlo, hhi, hbk, hb⟩; have hr2 := heap_ints hbk HI.out.len; clear hlo hhi hbk; have hr := hr.mono hb; have hX := box_later hX hz hb; have hV := box_later hV hv hb; have hB := hB.trans (hb.mono hB.size); have hz := Nat.lt_of_lt_of_le hz hb.size; have hv := Nat.lt_of_lt_of_le hv hb.size; clear hb)
    | (go_at_call 20; refine (eqGateRule_yes r _ _ _ _ _ (by exact hr) (by exact hr2)).mono ?_; rintro e w4 ⟨rfl, hb⟩; have hX := box_later hX hz hb; have hV := box_later hV hv hb; have hB := hB.trans (hb.mono hB.size); have hz := Nat.lt_of_lt_of_le hz hb.size; have hv := Nat.lt_of_lt_of_le hv hb.size; clear hb))
  go_wp2_with fail
  go_ret
  exact ⟨rfl, hB⟩

end Go.Proofs.Ytlonpcaniibehaa

namespace Go.Proofs.Ytlonpcaniibehaa
open Go.ChangeShapes Go.WideShapes Go.ChangeAt Go.RowKit

section
variable {H : Type} {enc : TypeId × Value → H} {P : Program} {w : World} {base : Nat} {spare : Nat → Bool} {held : Bool}

theorem addr_of_cell {a : Addr} {v : Value} (h : w.cell? a = some v) : a = ⟨a.block, a.off, none⟩ ∧ a.block < w.heap.size := by
  obtain ⟨b, o, s⟩ := a
  unfold World.cell? at h
  cases hb : w.heap[b]? with
  | none => simp [hb] at h
  | some x =>
    have hlt := (Array.getElem?_eq_some_iff.1 hb).1
    cases s with
    | none => exact ⟨rfl, hlt⟩
    | some k => cases x <;> simp [hb] at h

theorem read_strs {t e : TypeId} {fuel : Nat} {cs : List Value} {x : DataW H × List MemPlace} (ht : P.underlying t = some (.slice e)) (he : P.underlying e = some .string) (hc : P.cellsOf e = 1)
    (h : DataW.trod enc P w base spare held fuel t cs = some x) : ∃ a cap ws, cs = [.slice a ws.length cap] ∧ StrsAt w a ws := by
  rcases open_strings ht he hc h with ⟨rfl, _⟩ | ⟨a, len, cap, ss, rfl, _, hl, hm, hz, _, hcell, hws⟩
  · exact ⟨none, 0, [], rfl, ⟨by simp [maxLen], by simp, fun h => absurd rfl h⟩⟩
  · have hle : len ≤ ss.length := by rw [hz]; split <;> omega
    have hlen : (ss.take len).length = len := by rw [List.length_take]; omega
    refine ⟨some a, cap, ss.take len, by rw [hlen], ⟨by rw [hlen]; omega, fun s hs => hws s (List.mem_of_mem_take hs), fun hne => ?_⟩⟩
    have hpos : 0 < len := by
      rcases Nat.eq_zero_or_pos len with h0 | h0
      · rw [h0] at hne; simp at hne
      · exact h0
    have h0 := hcell 0 (by omega)
    obtain ⟨ha, hb⟩ := addr_of_cell h0
    simp only [Addr.add, if_true] at ha hb
    refine ⟨a.block, a.off, by rw [← ha], hb, fun i hi => ?_⟩
    have hi' : i < len := by omega
    have h1 := hcell i (by omega)
    have e1 : a.add i = ⟨a.block, a.off + i, none⟩ := by
      unfold Addr.add; split
      · rename_i h; subst h; simpa using ha
      · rfl
    rw [e1] at h1
    rw [h1, List.getElem_take, List.getD_eq_getElem?_getD, List.getElem?_eq_getElem (by omega)]
    rfl

theorem field_read {t : TypeId} {fs : Array Field} {fuel : Nat} {cs : List Value} {x : DataW H × List MemPlace} (ht : P.underlying t = some (.struct fs)) (h : DataW.trod enc P w base spare held fuel t cs = some x)
    (i : Nat) (f : Field) (hf : fs[i]? = some f) : ∃ n y, DataW.trod enc P w base spare held n f.type ((cs.drop f.offset).take (P.cellsOf f.type)) = some y := by
  obtain ⟨xs, n, _, _, _, hxl, hall⟩ := DataW.trod_struct ht h
  have hi : i < fs.size := (Array.getElem?_eq_some_iff.1 hf).1
  exact ⟨n, xs[i]'(by omega), by rw [hall i f hf, List.getElem?_eq_getElem (by omega)]⟩

/-- A field of one cell, read. -/
theorem field_one {t : TypeId} {fs : Array Field} {fuel : Nat} {cs : List Value} {x : DataW H × List MemPlace} (ht : P.underlying t = some (.struct fs)) (h : DataW.trod enc P w base spare held fuel t cs = some x)
    (i tf off : Nat) (c : Value) (hf : (fs[i]?).map (fun f => (f.type, f.offset)) = some (tf, off)) (hone : P.cellsOf tf = 1) (hc : cs[off]? = some c) : ∃ n y, DataW.trod enc P w base spare held n tf [c] = some y := by
  obtain ⟨f, hf1, hf2⟩ := Option.map_eq_some_iff.1 hf
  simp only [Prod.mk.injEq] at hf2
  obtain ⟨rfl, rfl⟩ := hf2
  obtain ⟨n, y, hy⟩ := field_read ht h i f hf1
  rw [hone] at hy
  obtain ⟨hlt, hget⟩ := List.getElem?_eq_some_iff.1 hc
  rw [List.drop_eq_getElem_cons hlt, hget] at hy
  exact ⟨n, y, hy⟩

end

theorem list_of {α : Type} {P : Nat → α → Prop} : ∀ n : Nat, (∀ i, i < n → ∃ x, P i x) → ∃ l : List α, l.length = n ∧ ∀ i (h : i < l.length), P i l[i]
  | 0, _ => ⟨[], rfl, fun i h => absurd h (by simp)⟩
  | n + 1, h => by
    obtain ⟨l, hl, hP⟩ := list_of n (fun i hi => h i (by omega))
    obtain ⟨x, hx⟩ := h n (by omega)
    refine ⟨l ++ [x], by simp [hl], fun i hi => ?_⟩
    rcases Nat.lt_or_ge i n with h1 | h1
    · rw [List.getElem_append_left (by omega)]; exact hP i (by omega)
    · have e : i = n := by simp at hi; omega
      subst e
      rw [List.getElem_append_right (by omega)]
      simpa [hl] using hx

theorem add_add (b o m j : Nat) : ((⟨b, o, none⟩ : Addr).add m).add j = ⟨b, o + m + j, none⟩ := by
  unfold Addr.add
  by_cases h1 : m = 0 <;> by_cases h2 : j = 0 <;> simp [h1, h2]

section
variable {H : Type} {enc : TypeId × Value → H} {P : Program} {w : World} {base : Nat} {spare : Nat → Bool} {held : Bool}

/-- A slice of rows of sz cells, read: nil, or where it lies and what each row reads as. -/
theorem read_rows {t e : TypeId} {sz fuel : Nat} {cs : List Value} {x : DataW H × List MemPlace} (ht : P.underlying t = some (.slice e)) (hsz : P.cellsOf e = sz) (hpos : 0 < sz)
    (h : DataW.trod enc P w base spare held fuel t cs = some x) :
    ∃ a len cap, cs = [.slice a len cap] ∧ len ≤ maxLen ∧ (0 < len → ∃ b off, a = some ⟨b, off, none⟩ ∧ b < w.heap.size ∧
      ∀ i, i < len → ∃ es n y, es.length = sz ∧ (∀ j, j < sz → w.cell? ⟨b, off + i * sz + j, none⟩ = es[j]?) ∧ DataW.trod enc P w base spare held n e es = some y) := by
  rcases DataW.trod_slice ht h with ⟨rfl, _⟩ | ⟨a, len, cap, elems, rest, n, _, rfl, _, hb, hl, hm, hlen, hel, _, _⟩
  · exact ⟨none, 0, 0, rfl, by simp [maxLen], fun h => absurd h (by omega)⟩
  · refine ⟨some a, len, cap, rfl, by omega, fun hp => ?_⟩
    have each : ∀ i, i < len → ∃ es y, w.cells? base (a.add (i * sz)) sz = some es ∧ DataW.trod enc P w base spare held n e es = some y := by
      intro i hi
      have h1 := hel i hi
      rw [hsz, List.getElem?_eq_getElem (by omega), Option.bind_eq_some_iff] at h1
      obtain ⟨es, h2, h3⟩ := h1
      exact ⟨es, _, h2, h3⟩
    obtain ⟨es0, y0, hc0, _⟩ := each 0 hp
    obtain ⟨_, _, hcell0⟩ := World.cells?_some hc0
    have h00 := hcell0 0 hpos
    have hes0 : ∃ v, w.cell? a = some v := by
      have hl0 := (World.cells?_some hc0).2.1
      refine ⟨es0[0]'(by omega), ?_⟩
      have := h00
      simp only [Nat.zero_mul, Addr.add, if_true] at this
      rw [this, List.getElem?_eq_getElem (by omega)]
    obtain ⟨v0, hv0⟩ := hes0
    obtain ⟨ha, hbl⟩ := addr_of_cell hv0
    refine ⟨a.block, a.off, by rw [← ha], hbl, fun i hi => ?_⟩
    obtain ⟨es, y, hc, hy⟩ := each i hi
    obtain ⟨_, hlen', hcell⟩ := World.cells?_some hc
    refine ⟨es, n, y, hlen', fun j hj => ?_, hy⟩
    have e1 : (a.add (i * sz)).add j = ⟨a.block, a.off + i * sz + j, none⟩ := by
      have := add_add a.block a.off (i * sz) j
      rwa [← ha] at this
    rw [← e1]
    exact hcell j hj

end

theorem Try.cellsString : Try.prog.cellsOf 9 = 1 := by kernel_rfl
theorem Try.cellsInt : Try.prog.cellsOf 3 = 1 := by kernel_rfl
theorem Try.cellsBool : Try.prog.cellsOf 4 = 1 := by kernel_rfl

end Go.Proofs.Ytlonpcaniibehaa
