import Derived.Test.YtlonpcaniibehaaM03
namespace Go.Proofs.Ytlonpcaniibehaa
open Go.RowKit

theorem ret_str {a b : ByteArray} (h : a = b) : Ending.returned (.string a) = .returned (.string b) := by rw [h]

theorem over_small (ts : List Tm) (v : ByteArray) (hs : ∀ i (h : i < ts.length), ts[i].Small) : (Gate.over ts v).size ≤ maxLen := by
  unfold Gate.over
  cases hf : ts.find? (fun t => decide (t.nm = v)) with
  | none => simp [Gate.noTeam, maxLen]
  | some t =>
    obtain ⟨k, hk, rfl⟩ := List.mem_iff_getElem.1 (List.mem_of_find?_eq_some hf)
    exact (hs k hk).ov

set_option maxHeartbeats 400000 in
theorem l4Over_any (a : Option Addr) (cap : Nat) (ts : List Tm) (v : ByteArray) (w : World) (hw : TmsAt w a ts) :
    Calls Try.prog 27 #[.slice a ts.length cap, .string v] w fun e w' => e = .returned (.string (Gate.over ts v)) ∧ w' = w := by
  have hl := hw.len
  unfold maxLen at hl
  go_enter Try.func27, Try.ntmps27
  go_wp2_with fail
  go_loop [5] (fun i => ∃ k : Nat, k ≤ ts.length ∧ i = .int .i64 k ∧ Gate.hasTeam (ts.take k) v = false) (fun i => ts.length - (intOf i).toNat)
  case atStart => exact ⟨0, Nat.zero_le _, rfl, rfl⟩
  case round =>
    obtain ⟨k, hk, rfl, hall⟩ := hrel
    by_cases hlt : k < ts.length
    · obtain ⟨b, off, rfl, hb, c0, c1⟩ := hw.load (Below.refl _ _) k hlt
      clear hw
      have HS : Hid (Gate.hasTeam (ts.take (k + 1)) v = (false || decide (ts[k].nm = v))) := by rw [Gate.hasTeam_snoc ts v k hlt, hall]; rfl
      have hltI : (k : Int) < (ts.length : Int) := by omega
      by_cases he : ts[k].nm = v
      · have hbe : (ts[k].nm.toList == v.toList) = true := by rw [Gate.beq_toList]; simpa using he
        have HR : Hid (Gate.over ts v = ts[k].ov) := Gate.over_at ts v k hlt hall he
        clear he hall
        go_wp2_with fail
        go_ret
        exact ⟨ret_str HR.out.symm, rfl⟩
      · have hbe : (ts[k].nm.toList == v.toList) = false := by rw [Gate.beq_toList]; simpa using he
        have HE : Hid (¬ ts[k].nm = v) := he
        clear he hall
        go_wp2_with fail
        go_round
        case rel => exact ⟨k + 1, by omega, by go_num, by rw [HS.out, decide_eq_false HE.out]; rfl⟩
        case measure => simp [intOf]; omega
    · have HR : Hid (Gate.over ts v = ByteArray.empty) := Gate.over_none ts v (by rw [← Gate.hasTeam_all ts v k (by omega)]; exact hall)
      clear hall hw
      go_wp2_with fail
      go_ret
      exact ⟨ret_str HR.out.symm, rfl⟩

set_option maxHeartbeats 800000 in
theorem overOf_any (a : Option Addr) (cap : Nat) (ts : List Tm) (v : ByteArray) (w : World) (hw : TmsAt w a ts) :
    Calls Try.prog 29 #[.slice a ts.length cap, .string v] w fun e w' => e = .returned (.string (Gate.over ts v)) ∧ Below w.heap.size w w' := by
  have hl := hw.len
  unfold maxLen at hl
  go_enter Try.func29, Try.ntmps29
  go_wp2_with fail
  go_loopw [9] (fun i wr => ∃ k : Nat, k ≤ ts.length ∧ i = .int .i64 k ∧ Gate.hasTeam (ts.take k) v = false ∧ Below w.heap.size w wr) (fun i _ => ts.length - (intOf i).toNat)
  case atStart => exact ⟨0, Nat.zero_le _, rfl, rfl, Below.refl _ _⟩
  case round =>
    obtain ⟨k, hk, rfl, hall, hB⟩ := hrel
    have hsz := hB.size
    by_cases hlt : k < ts.length
    · obtain ⟨b, off, rfl, hb, c0, c1⟩ := hw.load hB k hlt
      clear hw
      have HS : Hid (Gate.hasTeam (ts.take (k + 1)) v = (false || decide (ts[k].nm = v))) := by rw [Gate.hasTeam_snoc ts v k hlt, hall]; rfl
      have hltI : (k : Int) < (ts.length : Int) := by omega
      have hbr : b < wr.heap.size := by omega
      by_cases he : ts[k].nm = v
      · have hbe : (ts[k].nm.toList == v.toList) = true := by rw [Gate.beq_toList]; simpa using he
        have HR : Hid (Gate.over ts v = ts[k].ov) := Gate.over_at ts v k hlt hall he
        clear he hall
        go_wp2_with fail
        go_ret
        exact ⟨ret_str HR.out.symm, hB.alloc hsz _⟩
      · have hbe : (ts[k].nm.toList == v.toList) = false := by rw [Gate.beq_toList]; simpa using he
        have HE : Hid (¬ ts[k].nm = v) := he
        clear he hall
        go_wp2_with fail
        exact ⟨⟨k + 1, by omega, by go_num, by rw [HS.out, decide_eq_false HE.out]; rfl, hB.alloc hsz _⟩, by simp [intOf]; omega⟩
    · have HR : Hid (Gate.over ts v = ByteArray.empty) := Gate.over_none ts v (by rw [← Gate.hasTeam_all ts v k (by omega)]; exact hall)
      clear hall hw
      go_wp2_with fail
      go_ret
      exact ⟨ret_str HR.out.symm, hB⟩

end Go.Proofs.Ytlonpcaniibehaa

namespace Go.Proofs.Ytlonpcaniibehaa
open Go.RowKit

set_option maxHeartbeats 800000 in
theorem specUnder_any (a : Option Addr) (cap : Nat) (ts : List Tm) (x y : ByteArray) (w : World) (hw : TmsAt w a ts) :
    Calls Try.prog 8 #[.slice a ts.length cap, .string x, .string y] w fun e w' => e = .returned (.bool (Gate.under ts 4 x y)) ∧ w' = w := by
  by_cases hxy : x = y
  · have HF : Hid (Gate.under ts 4 x y = true) := Gate.under_same ts 4 x y hxy
    have hbe : (x.toList == y.toList) = true := by rw [Gate.beq_toList]; simpa using hxy
    clear hxy
    go_enter Try.func8, Try.ntmps8
    go_wp2_with fail
    go_ret
    exact ⟨ret_bool HF.out.symm, rfl⟩
  have hbe : (x.toList == y.toList) = false := by rw [Gate.beq_toList]; simpa using hxy
  have HXY : Hid (¬ x = y) := hxy
  clear hxy
  go_enter Try.func8, Try.ntmps8
  go_wp2_with fail
  go_loop [1, 7] (fun p i => ∃ (k : Nat) (z : ByteArray), k ≤ 4 ∧ p = .string z ∧ i = .int .i64 k ∧ ¬ z = y ∧ Gate.under ts 4 x y = Gate.under ts (4 - k) z y) (fun _ i => 4 - (intOf i).toNat)
  case atStart => exact ⟨0, x, Nat.zero_le _, rfl, rfl, HXY.out, rfl⟩
  case round =>
    obtain ⟨k, z, hk, rfl, rfl, hz, hu⟩ := hrel
    have HZ : Hid (¬ z = y ∧ Gate.under ts 4 x y = Gate.under ts (4 - k) z y) := ⟨hz, hu⟩
    clear hz hu hbe
    by_cases hlt : k < 4
    · have hltI : (k : Int) < 4 := by omega
      obtain ⟨m, hm⟩ : ∃ m, 4 - k = m + 1 := ⟨3 - k, by omega⟩
      by_cases h0 : (Gate.over ts z).size = 0
      · have HF : Hid (Gate.under ts 4 x y = false) := by rw [HZ.out.2, hm]; exact Gate.under_stop ts m HZ.out.1 h0
        have h0' : (Gate.over ts z).toList.isEmpty = true := by rw [Gate.isEmpty_of_size]; simpa using h0
        clear h0 hm
        go_wp2_with (go_at_call 27; refine (l4Over_any _ _ _ _ _ hw).mono ?_; rintro e w' ⟨rfl, rfl⟩)
        go_ret
        exact ⟨ret_bool HF.out.symm, rfl⟩
      · have HO : Hid (Gate.under ts 4 x y = Gate.under ts m (Gate.over ts z) y) := by rw [Hid, HZ.out.2, hm]; exact Gate.under_on ts m HZ.out.1 h0
        have h0' : (Gate.over ts z).toList.isEmpty = false := by rw [Gate.isEmpty_of_size]; simpa using h0
        clear h0
        by_cases hy : Gate.over ts z = y
        · have HF : Hid (Gate.under ts 4 x y = true) := by rw [Hid, HO.out]; exact Gate.under_same ts m _ _ hy
          have hy' : ((Gate.over ts z).toList == y.toList) = true := by rw [Gate.beq_toList]; simpa using hy
          clear hy
          go_wp2_with (go_at_call 27; refine (l4Over_any _ _ _ _ _ hw).mono ?_; rintro e w' ⟨rfl, rfl⟩)
          go_ret
          exact ⟨ret_bool HF.out.symm, rfl⟩
        · have hy' : ((Gate.over ts z).toList == y.toList) = false := by rw [Gate.beq_toList]; simpa using hy
          have HY : Hid (¬ Gate.over ts z = y) := hy
          clear hy
          go_wp2_with (go_at_call 27; refine (l4Over_any _ _ _ _ _ hw).mono ?_; rintro e w' ⟨rfl, rfl⟩)
          go_round
          case rel => exact ⟨k + 1, Gate.over ts z, by omega, rfl, by go_num, HY.out, by rw [HO.out, show 4 - (k + 1) = m by omega]⟩
          case measure => simp [intOf]; omega
    · have HF : Hid (Gate.under ts 4 x y = false) := by
        have e : 4 - k = 0 := by omega
        rw [Hid, HZ.out.2, e]; exact Gate.under_end ts HZ.out.1
      go_wp2_with fail
      go_ret
      exact ⟨ret_bool HF.out.symm, rfl⟩

set_option maxHeartbeats 800000 in
theorem implUnder_any (a : Option Addr) (cap : Nat) (ts : List Tm) (x y : ByteArray) (w : World) (hw : TmsAt w a ts) :
    Calls Try.prog 10 #[.slice a ts.length cap, .string x, .string y] w fun e w' => e = .returned (.bool (Gate.under ts 4 x y)) ∧ Below w.heap.size w w' := by
  by_cases hxy : x = y
  · have HF : Hid (Gate.under ts 4 x y = true) := Gate.under_same ts 4 x y hxy
    have hbe : (x.toList == y.toList) = true := by rw [Gate.beq_toList]; simpa using hxy
    clear hxy
    go_enter Try.func10, Try.ntmps10
    go_wp2_with fail
    go_ret
    exact ⟨ret_bool HF.out.symm, Below.refl _ _⟩
  have hbe : (x.toList == y.toList) = false := by rw [Gate.beq_toList]; simpa using hxy
  have HXY : Hid (¬ x = y) := hxy
  clear hxy
  go_enter Try.func10, Try.ntmps10
  go_wp2_with fail
  go_loopw [1, 10] (fun p i wr => ∃ (k : Nat) (z : ByteArray), k ≤ 4 ∧ p = .string z ∧ i = .int .i64 k ∧ ¬ z = y ∧ Gate.under ts 4 x y = Gate.under ts (4 - k) z y ∧ Below w.heap.size w wr) (fun _ i _ => 4 - (intOf i).toNat)
  case atStart => exact ⟨0, x, Nat.zero_le _, rfl, rfl, HXY.out, rfl, Below.refl _ _⟩
  case round =>
    obtain ⟨k, z, hk, rfl, rfl, hz, hu, hB⟩ := hrel
    have HZ : Hid (¬ z = y ∧ Gate.under ts 4 x y = Gate.under ts (4 - k) z y) := ⟨hz, hu⟩
    clear hz hu hbe
    by_cases hlt : k < 4
    · have hltI : (k : Int) < 4 := by omega
      obtain ⟨m, hm⟩ : ∃ m, 4 - k = m + 1 := ⟨3 - k, by omega⟩
      by_cases h0 : (Gate.over ts z).size = 0
      · have HF : Hid (Gate.under ts 4 x y = false) := by rw [HZ.out.2, hm]; exact Gate.under_stop ts m HZ.out.1 h0
        have h0' : (Gate.over ts z).toList.isEmpty = true := by rw [Gate.isEmpty_of_size]; simpa using h0
        clear h0 hm
        go_wp2_with fail
        refine (overOf_any _ _ _ _ _ (hw.mono hB)).mono ?_
        rintro e w1 ⟨rfl, hb1⟩
        have hB1 := hB.trans (hb1.mono hB.size)
        clear hb1
        go_wp2_with fail
        go_ret
        exact ⟨ret_bool HF.out.symm, hB1⟩
      · have HO : Hid (Gate.under ts 4 x y = Gate.under ts m (Gate.over ts z) y) := by rw [Hid, HZ.out.2, hm]; exact Gate.under_on ts m HZ.out.1 h0
        have h0' : (Gate.over ts z).toList.isEmpty = false := by rw [Gate.isEmpty_of_size]; simpa using h0
        clear h0
        by_cases hy : Gate.over ts z = y
        · have HF : Hid (Gate.under ts 4 x y = true) := by rw [Hid, HO.out]; exact Gate.under_same ts m _ _ hy
          have hy' : ((Gate.over ts z).toList == y.toList) = true := by rw [Gate.beq_toList]; simpa using hy
          clear hy
          go_wp2_with fail
          refine (overOf_any _ _ _ _ _ (hw.mono hB)).mono ?_
          rintro e w1 ⟨rfl, hb1⟩
          have hB1 := hB.trans (hb1.mono hB.size)
          clear hb1
          go_wp2_with fail
          go_ret
          exact ⟨ret_bool HF.out.symm, hB1⟩
        · have hy' : ((Gate.over ts z).toList == y.toList) = false := by rw [Gate.beq_toList]; simpa using hy
          have HY : Hid (¬ Gate.over ts z = y) := hy
          clear hy
          go_wp2_with fail
          refine (overOf_any _ _ _ _ _ (hw.mono hB)).mono ?_
          rintro e w1 ⟨rfl, hb1⟩
          have hB1 := hB.trans (hb1.mono hB.size)
          clear hb1
          go_wp2_with fail
          exact ⟨⟨k + 1, Gate.over ts z, by omega, rfl, by go_num, HY.out, by rw [HO.out, show 4 - (k + 1) = m by omega], hB1⟩, by simp [intOf]; omega⟩
    · have HF : Hid (Gate.under ts 4 x y = false) := by
        have e : 4 - k = 0 := by omega
        rw [Hid, HZ.out.2, e]; exact Gate.under_end ts HZ.out.1
      go_wp2_with fail
      go_ret
      exact ⟨ret_bool HF.out.symm, hB⟩

end Go.Proofs.Ytlonpcaniibehaa

namespace Go.Proofs.Ytlonpcaniibehaa
open Go.RowKit

set_option maxHeartbeats 2000000 in
theorem lawUnder_any (a : Option Addr) (cap : Nat) (ts : List Tm) (x y : ByteArray) (w : World) (hw : TmsAt w a ts) (hx : x.size ≤ maxLen) (hy : y.size ≤ maxLen) :
    Calls Try.prog 3 #[.slice a ts.length cap, .string x, .string y] w fun e w' => e = .returned (.bool true) ∧ Below w.heap.size w w' := by
  unfold maxLen at hx hy
  by_cases hxl : (x.size : Int) ≤ 1048576
  rotate_left
  · go_enter Try.func3, Try.ntmps3
    go_wp2_with fail
    go_ret
    exact ⟨rfl, Below.refl _ _⟩
  by_cases hyl : (y.size : Int) ≤ 1048576
  rotate_left
  · go_enter Try.func3, Try.ntmps3
    go_wp2_with fail
    go_ret
    exact ⟨rfl, Below.refl _ _⟩
  by_cases hsz : (tmsSz ts : Int) ≤ 1048576
  rotate_left
  · go_enter Try.func3, Try.ntmps3
    go_wp2_with fail
    refine (szGateTeamS_any _ _ _ _ _ hw (by omega) (by omega)).mono ?_
    rintro e w1 ⟨rfl, hb1⟩
    rw [szRes_no (by omega)]
    go_wp2_with fail
    go_ret
    exact ⟨rfl, hb1⟩
  have HLM : Hid (ts.length ≤ 1048576) := by unfold tmsSz at hsz; show _ ≤ _; omega
  have hneg : decide (1048576 - (tmsSz ts : Int) < 0) = false := by simp; omega
  have HW : Hid (TmsAt w a ts) := hw
  have HSM : Hid ((∀ i (h : i < ts.length), ts[i].Small) ∧ ts.length ≤ maxLen) := ⟨hw.small, hw.len⟩
  clear hw
  go_enter Try.func3, Try.ntmps3
  go_wp2_with fail
  refine (szGateTeamS_any _ _ _ _ _ HW.out (by omega) (by omega)).mono ?_
  rintro e w1 ⟨rfl, hb1⟩
  rw [szRes_yes hsz]
  have HB1 : Hid (Below w.heap.size w w1) := hb1
  clear hb1
  go_wp2_with fail
  refine (toGateTeamS_any _ _ _ _ (HW.out.mono HB1.out) HLM.out).mono ?_
  rintro e w2 ⟨rfl, hown, hb⟩
  have HB2 : Hid (Below w.heap.size w w2) := HB1.out.trans (hb.mono HB1.out.size)
  have HT2 : Hid (TmsAt w2 (some ⟨w1.heap.size, 0, none⟩) ts) := hown.at HSM.out.1 HSM.out.2
  clear hown hb
  go_wp2_with fail
  refine (specUnder_any _ _ ts x y w2 HT2.out).mono ?_
  rintro e w3 ⟨rfl, rfl⟩
  go_wp2_with fail
  refine (toGateTeamS_any _ _ _ _ (HW.out.mono HB2.out) HLM.out).mono ?_
  rintro e w4 ⟨rfl, hown, hb⟩
  have HB4 : Hid (Below w.heap.size w w4) := HB2.out.trans (hb.mono HB2.out.size)
  have HT4 : Hid (TmsAt w4 (some ⟨w3.heap.size, 0, none⟩) ts) := hown.at HSM.out.1 HSM.out.2
  clear hown hb
  go_wp2_with fail
  refine (implUnder_any _ _ ts x y w4 HT4.out).mono ?_
  rintro e w5 ⟨rfl, hb⟩
  have HB5 : Hid (Below w.heap.size w w5) := HB4.out.trans (hb.mono HB4.out.size)
  have HT5 : Hid (TmsAt w5 (some ⟨w3.heap.size, 0, none⟩) ts) := HT4.out.mono hb
  clear hb
  go_wp2_with fail
  refine (toGateTeamS_any _ _ _ _ (HW.out.mono HB5.out) HLM.out).mono ?_
  rintro e w6 ⟨rfl, hown, hb⟩
  have HB6 : Hid (Below w.heap.size w w6) := HB5.out.trans (hb.mono HB5.out.size)
  have HT6 : Hid (TmsAt w6 (some ⟨w5.heap.size, 0, none⟩) ts) := hown.at HSM.out.1 HSM.out.2
  have HT6' : Hid (TmsAt w6 (some ⟨w3.heap.size, 0, none⟩) ts) := HT5.out.mono hb
  clear hown hb
  go_wp2_with fail
  refine (eqGateTeamS_yes _ _ _ _ _ _ HT6'.out HT6.out).mono ?_
  rintro e w7 ⟨rfl, hb⟩
  have HB7 : Hid (Below w.heap.size w w7) := HB6.out.trans (hb.mono HB6.out.size)
  clear hb
  go_wp2_with fail
  go_ret
  exact ⟨rfl, HB7.out⟩

end Go.Proofs.Ytlonpcaniibehaa
