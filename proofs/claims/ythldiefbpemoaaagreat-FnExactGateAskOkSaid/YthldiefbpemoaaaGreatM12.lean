import Derived.Test.YthldiefbpemoaaaGreatM09
import Derived.Test.YthldiefbpemoaaaGreatM11
import Derived.Test.YthldiefbpemoaaaGreatM08
import Derived.Test.YthldiefbpemoaaaGreatM10
namespace Go.Proofs.YthldiefbpemoaaaGreat
open Go.RowKit

theorem three_boxes (w : World) (X Y Z : Array Value) (r s t : TypeId) : ∃ W0, W0 = ((w.alloc (.cells X r)).alloc (.cells Y s)).alloc (.cells Z t) ∧ (∀ j, W0.cell? ⟨w.heap.size + 1, j, none⟩ = Y[j]?) ∧ (∀ j, W0.cell? ⟨w.heap.size + 1 + 1, j, none⟩ = Z[j]?) ∧ w.heap.size + 1 + 1 < W0.heap.size ∧ Below w.heap.size w W0 := by
  obtain ⟨_, hB, hC⟩ := blk3 w (.cells X r) (.cells Y s) (.cells Z t)
  exact ⟨_, rfl, fun _ => cell_of_block hB, fun _ => cell_of_block hC, by simp, below3' _ _ _ _⟩
theorem pair_boxes (w : World) (X Y : Array Value) (s t : TypeId) : ∃ W0, W0 = (w.alloc (.cells X s)).alloc (.cells Y t) ∧ (∀ j, W0.cell? ⟨w.heap.size, j, none⟩ = X[j]?) ∧ (∀ j, W0.cell? ⟨w.heap.size + 1, j, none⟩ = Y[j]?) ∧ w.heap.size + 1 < W0.heap.size ∧ Below w.heap.size w W0 := by
  obtain ⟨hX, hY⟩ := two_boxesK w X Y s t
  exact ⟨_, rfl, hX, hY, by simp, below2' _ _ _⟩

set_option maxHeartbeats 1000000 in
theorem makeRest_any (x : Ak) (a0 a1 a2 : Option Addr) (c0 c1 c2 : Nat) (w : World) :
    Calls Tryz.prog 128 #[.agg #[], .agg (x.cells a0 a1 a2 c0 c1 c2)] w fun e w' => e = .returned (.agg (({ x with kd := ByteArray.empty, nm := ByteArray.empty, tm := ByteArray.empty, vs := [], hs := [] } : Ak).cells none none a2 0 0 c2)) ∧ Below w.heap.size w w' := by
  have HB : Hid (∀ o1 o2 o3, Below w.heap.size w (((w.alloc o1).alloc o2).alloc o3)) := fun o1 o2 o3 => below3' w o1 o2 o3
  unfold Ak.cells
  go_enter Tryz.func128, Tryz.ntmps128
  go_wp2_with fail
  refine bodyPost_ret (v := .agg (({ x with kd := ByteArray.empty, nm := ByteArray.empty, tm := ByteArray.empty, vs := [], hs := [] } : Ak).cells none none a2 0 0 c2)) (by simp [results, Tryz.results128, go_sem]; rfl) rfl ⟨rfl, ?_⟩
  exact HB.out _ _ _

set_option maxHeartbeats 1000000 in
theorem changeRest_any (x : Ak) (a0 a1 a2 : Option Addr) (c0 c1 c2 : Nat) (w : World) :
    Calls Tryz.prog 134 #[.agg #[], .agg (x.cells a0 a1 a2 c0 c1 c2)] w fun e w' => e = .returned (.agg (({ x with kd := ByteArray.empty, nm := ByteArray.empty, vs := [], sn := 0 } : Ak).cells none a1 a2 0 c1 c2)) ∧ Below w.heap.size w w' := by
  have HB : Hid (∀ o1 o2 o3, Below w.heap.size w (((w.alloc o1).alloc o2).alloc o3)) := fun o1 o2 o3 => below3' w o1 o2 o3
  unfold Ak.cells
  go_enter Tryz.func134, Tryz.ntmps134
  go_wp2_with fail
  refine bodyPost_ret (v := .agg (({ x with kd := ByteArray.empty, nm := ByteArray.empty, vs := [], sn := 0 } : Ak).cells none a1 a2 0 c1 c2)) (by simp [results, Tryz.results134, go_sem]; rfl) rfl ⟨rfl, ?_⟩
  exact HB.out _ _ _

set_option maxHeartbeats 1000000 in
theorem endRest_any (x : Ak) (a0 a1 a2 : Option Addr) (c0 c1 c2 : Nat) (w : World) :
    Calls Tryz.prog 138 #[.agg #[], .agg (x.cells a0 a1 a2 c0 c1 c2)] w fun e w' => e = .returned (.agg (({ x with kd := ByteArray.empty, nm := ByteArray.empty, sn := 0 } : Ak).cells a0 a1 a2 c0 c1 c2)) ∧ Below w.heap.size w w' := by
  have HB : Hid (∀ o1 o2 o3, Below w.heap.size w (((w.alloc o1).alloc o2).alloc o3)) := fun o1 o2 o3 => below3' w o1 o2 o3
  unfold Ak.cells
  go_enter Tryz.func138, Tryz.ntmps138
  go_wp2_with fail
  refine bodyPost_ret (v := .agg (({ x with kd := ByteArray.empty, nm := ByteArray.empty, sn := 0 } : Ak).cells a0 a1 a2 c0 c1 c2)) (by simp [results, Tryz.results138, go_sem]; rfl) rfl ⟨rfl, ?_⟩
  exact HB.out _ _ _

set_option maxHeartbeats 1000000 in
theorem letGoRest_any (x : Ak) (a0 a1 a2 : Option Addr) (c0 c1 c2 : Nat) (w : World) :
    Calls Tryz.prog 142 #[.agg #[], .agg (x.cells a0 a1 a2 c0 c1 c2)] w fun e w' => e = .returned (.agg (({ x with kd := ByteArray.empty, nm := ByteArray.empty, hd := ByteArray.empty } : Ak).cells a0 a1 a2 c0 c1 c2)) ∧ Below w.heap.size w w' := by
  have HB : Hid (∀ o1 o2 o3, Below w.heap.size w (((w.alloc o1).alloc o2).alloc o3)) := fun o1 o2 o3 => below3' w o1 o2 o3
  unfold Ak.cells
  go_enter Tryz.func142, Tryz.ntmps142
  go_wp2_with fail
  refine bodyPost_ret (v := .agg (({ x with kd := ByteArray.empty, nm := ByteArray.empty, hd := ByteArray.empty } : Ak).cells a0 a1 a2 c0 c1 c2)) (by simp [results, Tryz.results142, go_sem]; rfl) rfl ⟨rfl, ?_⟩
  exact HB.out _ _ _

set_option maxHeartbeats 1000000 in
theorem giveRest_any (x : Ak) (a0 a1 a2 : Option Addr) (c0 c1 c2 : Nat) (w : World) :
    Calls Tryz.prog 146 #[.agg #[], .agg (x.cells a0 a1 a2 c0 c1 c2)] w fun e w' => e = .returned (.agg (({ x with to := ByteArray.empty, r := Gate.noRule } : Ak).cells a0 a1 none c0 c1 0)) ∧ Below w.heap.size w w' := by
  have HB : Hid (∀ o1 o2 o3, Below w.heap.size w (((w.alloc o1).alloc o2).alloc o3)) := fun o1 o2 o3 => below3' w o1 o2 o3
  unfold Ak.cells
  go_enter Tryz.func146, Tryz.ntmps146
  go_wp2_with fail
  refine bodyPost_ret (v := .agg (({ x with to := ByteArray.empty, r := Gate.noRule } : Ak).cells a0 a1 none c0 c1 0)) (by simp [results, Tryz.results146, go_sem]; rfl) rfl ⟨rfl, ?_⟩
  exact HB.out _ _ _

set_option maxHeartbeats 1000000 in
theorem takeRest_any (x : Ak) (a0 a1 a2 : Option Addr) (c0 c1 c2 : Nat) (w : World) :
    Calls Tryz.prog 153 #[.agg #[], .agg (x.cells a0 a1 a2 c0 c1 c2)] w fun e w' => e = .returned (.agg (({ x with no := 0 } : Ak).cells a0 a1 a2 c0 c1 c2)) ∧ Below w.heap.size w w' := by
  have HB : Hid (∀ o1 o2 o3, Below w.heap.size w (((w.alloc o1).alloc o2).alloc o3)) := fun o1 o2 o3 => below3' w o1 o2 o3
  unfold Ak.cells
  go_enter Tryz.func153, Tryz.ntmps153
  go_wp2_with fail
  refine bodyPost_ret (v := .agg (({ x with no := 0 } : Ak).cells a0 a1 a2 c0 c1 c2)) (by simp [results, Tryz.results153, go_sem]; rfl) rfl ⟨rfl, ?_⟩
  exact HB.out _ _ _

end Go.Proofs.YthldiefbpemoaaaGreat

namespace Go.Proofs.YthldiefbpemoaaaGreat
open Go.RowKit

set_option maxHeartbeats 400000 in
theorem isGiven_any (v : Int) (w : World) :
    Calls Tryz.prog 149 #[.int .i64 v] w fun e w' => e = .returned (.bool (Gate.verbOk v)) ∧ w' = w := by
  go_enter Tryz.func149, Tryz.ntmps149
  go_wp2
  all_goals
    go_ret
    refine ⟨ret_bool ?_, rfl⟩
    rw [Bool.eq_iff_iff]; simp [Gate.verbOk]; try omega

theorem Gate.verbAt_no {vs : List Int} {k : Nat} (h : k < vs.length) (hn : Gate.verbOk vs[k] = false) : Gate.verbAt vs k = false := by
  unfold Gate.verbAt; rw [Gate.getD_at vs k _ h, hn]; rfl
theorem Gate.verbAt_first {vs : List Int} (h : 0 < vs.length) (hn : Gate.verbOk vs[0] = true) : Gate.verbAt vs 0 = true := by
  unfold Gate.verbAt; rw [Gate.getD_at vs 0 _ h, hn]; rfl
theorem Gate.verbAt_more {vs : List Int} {k : Nat} (h : k + 1 < vs.length) (hn : Gate.verbOk vs[k + 1] = true) : Gate.verbAt vs (k + 1) = decide (vs[k] < vs[k + 1]) := by
  unfold Gate.verbAt; rw [Gate.getD_at vs (k + 1) _ h, Nat.add_sub_cancel, Gate.getD_at vs k _ (by omega), hn]; simp

set_option maxHeartbeats 1000000 in
theorem areVerbs_any (a : Option Addr) (cap : Nat) (vs : List Int) (w : World) (hw : IntsAt w a vs) :
    Calls Tryz.prog 148 #[.slice a vs.length cap] w fun e w' => e = .returned (.bool (Gate.verbsOk vs)) ∧ w' = w := by
  have hl := hw.len
  unfold maxLen at hl
  have HG : Hid (Gate.up (Gate.verbAt vs) vs.length = false → Gate.verbsOk vs = false) := fun h => by unfold Gate.verbsOk; rw [h, Bool.and_false]
  go_enter Tryz.func148, Tryz.ntmps148
  go_wp2_with fail
  go_loop [7] (fun i => ∃ k : Nat, k ≤ vs.length ∧ i = .int .i64 k ∧ Gate.up (Gate.verbAt vs) k = true) (fun i => vs.length - (intOf i).toNat)
  case atStart => exact ⟨0, Nat.zero_le _, rfl, rfl⟩
  case round =>
    obtain ⟨k, hk, rfl, hup⟩ := hrel
    by_cases hlt : k < vs.length
    · obtain ⟨b, off, rfl, hb, hck⟩ := hw.load (Below.refl _ _) k hlt
      have hltI : (k : Int) < (vs.length : Int) := by omega
      by_cases hn : Gate.verbOk vs[k] = true
      · by_cases hk0 : k = 0
        · have HF : Hid (Gate.up (Gate.verbAt vs) (k + 1) = true) := by subst hk0; unfold Hid; rw [Gate.up_succ, Gate.verbAt_first hlt hn]; rfl
          have hg : decide (0 < k) = false := by simp; omega
          have HN : Hid (Gate.verbOk vs[k] = true) := hn
          clear hn hup hk0 hw
          go_wp2_with (go_at_call 149; refine (as_bool HN.out (isGiven_any _ _)).mono ?_; rintro e w' ⟨rfl, rfl⟩)
          go_round
          case rel => exact ⟨k + 1, by omega, by go_num, HF.out⟩
          case measure => simp [intOf]; omega
        · obtain ⟨m, rfl⟩ : ∃ m, k = m + 1 := ⟨k - 1, by omega⟩
          obtain ⟨b', off', e', hb', hcm⟩ := hw.load (Below.refl _ _) m (by omega)
          simp only [Option.some.injEq, Addr.mk.injEq] at e'
          obtain ⟨rfl, rfl, _⟩ := e'
          have HU : Hid (Gate.up (Gate.verbAt vs) (m + 1 + 1) = decide (vs[m] < vs[m + 1])) := by unfold Hid; rw [Gate.up_succ, hup, Gate.verbAt_more hlt hn]; rfl
          have HNN : Hid (¬ vs[m] < vs[m + 1] → Gate.verbsOk vs = false) := fun h => HG.out (Gate.up_not hlt (by rw [Gate.verbAt_more hlt hn]; simpa using h))
          have HN : Hid (Gate.verbOk vs[m + 1] = true) := hn
          clear hn hup hk0 hw
          by_cases hls : vs[m] < vs[m + 1]
          · have hls' : decide (vs[m + 1] ≤ vs[m]) = false := by simp; omega
            have HLS : Hid (vs[m] < vs[m + 1]) := hls
            clear hls
            go_wp2_with (go_at_call 149; refine (as_bool HN.out (isGiven_any _ _)).mono ?_; rintro e w' ⟨rfl, rfl⟩)
            go_round
            case rel => exact ⟨m + 1 + 1, by omega, by go_num, by rw [HU.out]; simpa using HLS.out⟩
            case measure => simp [intOf]; omega
          · have hls' : vs[m + 1] ≤ vs[m] := by omega
            have HLS : Hid (¬ vs[m] < vs[m + 1]) := hls
            clear hls
            go_wp2_with (go_at_call 149; refine (as_bool HN.out (isGiven_any _ _)).mono ?_; rintro e w' ⟨rfl, rfl⟩)
            go_ret
            exact ⟨ret_bool (HNN.out HLS.out).symm, rfl⟩
      · have hn' : Gate.verbOk vs[k] = false := by simpa using hn
        have HF : Hid (Gate.verbsOk vs = false) := HG.out (Gate.up_not hlt (Gate.verbAt_no hlt hn'))
        have HN : Hid (Gate.verbOk vs[k] = false) := hn'
        clear hn hn' hup hw
        go_wp2_with (go_at_call 149; refine (as_bool HN.out (isGiven_any _ _)).mono ?_; rintro e w' ⟨rfl, rfl⟩)
        go_ret
        exact ⟨ret_bool HF.out.symm, rfl⟩
    · have HF : Hid (Gate.verbsOk vs = decide (0 < vs.length)) := by
        have e : k = vs.length := by omega
        subst e; unfold Hid Gate.verbsOk; rw [hup, Bool.and_true]
      clear hw hup
      go_wp2_with fail
      go_ret
      exact ⟨ret_bool (by rw [HF.out]), rfl⟩

end Go.Proofs.YthldiefbpemoaaaGreat

namespace Go.Proofs.YthldiefbpemoaaaGreat
open Go.RowKit

theorem Gate.kd_cases (s : ByteArray) : s.toList.isEmpty = true ∨ (s.toList.isEmpty = false ∧ Hid (Gate.nameOk s = true)) ∨ (s.toList.isEmpty = false ∧ Hid (Gate.nameOk s = false)) := by
  by_cases h : s.toList.isEmpty = true
  · exact Or.inl h
  · by_cases h2 : Gate.nameOk s = true
    · exact Or.inr (Or.inl ⟨by simpa using h, h2⟩)
    · exact Or.inr (Or.inr ⟨by simpa using h, by simpa [Hid] using h2⟩)

set_option maxHeartbeats 2000000 in
theorem isRule_any (r : Rl) (a : Option Addr) (cap : Nat) (w : World) (hm : r.Small) (hw : IntsAt w a r.vs) :
    Calls Tryz.prog 147 #[.agg (r.cells a cap)] w fun e w' => e = .returned (.bool (Gate.ruleOk r)) ∧ Below w.heap.size w w' := by
  have hskd := hm.kd
  have hstm := hm.tm
  have hspx := hm.px
  have hpx := hm.px
  unfold maxLen at hpx
  unfold Rl.cells
  have HB : Hid (∀ ob, Below w.heap.size w (w.alloc ob)) := fun ob => (Below.refl _ _).alloc (Nat.le_refl _) _
  have HI : Hid (∀ ob, IntsAt (w.alloc ob) a r.vs) := fun ob => hw.mono (HB.out ob)
  clear hw hm
  rcases Gate.kd_cases r.kd with hk | ⟨hk, HK⟩ | ⟨hk, HK⟩
  · rcases Gate.kd_cases r.tm with ht | ⟨ht, HT⟩ | ⟨ht, HT⟩
    · have HKD : Hid (Gate.kindsOk r = true) := by unfold Hid Gate.kindsOk; rw [hk, ht]; simp
      by_cases hv : Gate.verbsOk r.vs = true
      rotate_left
      · have HV : Hid (Gate.verbsOk r.vs = false) := by simpa [Hid] using hv
        have HF : Hid (Gate.ruleOk r = false) := by unfold Hid Gate.ruleOk; rw [HV.out]; simp
        clear hv
        go_enter Tryz.func147, Tryz.ntmps147
        go_wp2_with (first | (go_at_call 148; refine (as_bool HV.out (areVerbs_any _ _ r.vs _ (by exact HI.out _))).mono ?_; rintro e w' ⟨rfl, rfl⟩))
        go_ret
        exact ⟨ret_bool HF.out.symm, HB.out _⟩
      have HV : Hid (Gate.verbsOk r.vs = true) := hv
      clear hv
      by_cases h16 : r.px.size ≤ 16
      · have HF : Hid (Gate.ruleOk r = Gate.allName r.px) := by unfold Hid Gate.ruleOk; rw [HKD.out, HV.out, decide_eq_true h16]; rfl
        have h16I : (r.px.size : Int) ≤ 16 := by omega
        clear h16
        go_enter Tryz.func147, Tryz.ntmps147
        go_wp2_with (first | (go_at_call 148; refine (as_bool HV.out (areVerbs_any _ _ r.vs _ (by exact HI.out _))).mono ?_; rintro e w' ⟨rfl, rfl⟩) | (go_at_call 75; refine (isNameBytes_any r.px _ hspx).mono ?_; rintro e w' ⟨rfl, rfl⟩))
        go_ret
        exact ⟨ret_bool HF.out.symm, HB.out _⟩
      · have HF : Hid (Gate.ruleOk r = false) := by unfold Hid Gate.ruleOk; rw [decide_eq_false h16]; simp
        have h16I : decide ((r.px.size : Int) ≤ 16) = false := by simp; omega
        clear h16
        go_enter Tryz.func147, Tryz.ntmps147
        go_wp2_with (first | (go_at_call 148; refine (as_bool HV.out (areVerbs_any _ _ r.vs _ (by exact HI.out _))).mono ?_; rintro e w' ⟨rfl, rfl⟩))
        go_ret
        exact ⟨ret_bool HF.out.symm, HB.out _⟩
    · have HKD : Hid (Gate.kindsOk r = true) := by unfold Hid Gate.kindsOk; rw [hk, HT.out]; simp
      by_cases hv : Gate.verbsOk r.vs = true
      rotate_left
      · have HV : Hid (Gate.verbsOk r.vs = false) := by simpa [Hid] using hv
        have HF : Hid (Gate.ruleOk r = false) := by unfold Hid Gate.ruleOk; rw [HV.out]; simp
        clear hv
        go_enter Tryz.func147, Tryz.ntmps147
        go_wp2_with (first | (go_at_call_of 51 (Value.string r.tm); refine (as_bool HT.out (isName_any r.tm _ hstm)).mono ?_; rintro e w' ⟨rfl, rfl⟩) | (go_at_call 148; refine (as_bool HV.out (areVerbs_any _ _ r.vs _ (by exact HI.out _))).mono ?_; rintro e w' ⟨rfl, rfl⟩))
        go_ret
        exact ⟨ret_bool HF.out.symm, HB.out _⟩
      have HV : Hid (Gate.verbsOk r.vs = true) := hv
      clear hv
      by_cases h16 : r.px.size ≤ 16
      · have HF : Hid (Gate.ruleOk r = Gate.allName r.px) := by unfold Hid Gate.ruleOk; rw [HKD.out, HV.out, decide_eq_true h16]; rfl
        have h16I : (r.px.size : Int) ≤ 16 := by omega
        clear h16
        go_enter Tryz.func147, Tryz.ntmps147
        go_wp2_with (first | (go_at_call_of 51 (Value.string r.tm); refine (as_bool HT.out (isName_any r.tm _ hstm)).mono ?_; rintro e w' ⟨rfl, rfl⟩) | (go_at_call 148; refine (as_bool HV.out (areVerbs_any _ _ r.vs _ (by exact HI.out _))).mono ?_; rintro e w' ⟨rfl, rfl⟩) | (go_at_call 75; refine (isNameBytes_any r.px _ hspx).mono ?_; rintro e w' ⟨rfl, rfl⟩))
        go_ret
        exact ⟨ret_bool HF.out.symm, HB.out _⟩
      · have HF : Hid (Gate.ruleOk r = false) := by unfold Hid Gate.ruleOk; rw [decide_eq_false h16]; simp
        have h16I : decide ((r.px.size : Int) ≤ 16) = false := by simp; omega
        clear h16
        go_enter Tryz.func147, Tryz.ntmps147
        go_wp2_with (first | (go_at_call_of 51 (Value.string r.tm); refine (as_bool HT.out (isName_any r.tm _ hstm)).mono ?_; rintro e w' ⟨rfl, rfl⟩) | (go_at_call 148; refine (as_bool HV.out (areVerbs_any _ _ r.vs _ (by exact HI.out _))).mono ?_; rintro e w' ⟨rfl, rfl⟩))
        go_ret
        exact ⟨ret_bool HF.out.symm, HB.out _⟩
    · have HF : Hid (Gate.ruleOk r = false) := by unfold Hid Gate.ruleOk Gate.kindsOk; rw [ht, HT.out]; simp
      go_enter Tryz.func147, Tryz.ntmps147
      go_wp2_with (first | (go_at_call_of 51 (Value.string r.tm); refine (as_bool HT.out (isName_any r.tm _ hstm)).mono ?_; rintro e w' ⟨rfl, rfl⟩))
      go_ret
      exact ⟨ret_bool HF.out.symm, HB.out _⟩
  · rcases Gate.kd_cases r.tm with ht | ⟨ht, HT⟩ | ⟨ht, HT⟩
    · have HKD : Hid (Gate.kindsOk r = true) := by unfold Hid Gate.kindsOk; rw [HK.out, ht]; simp
      by_cases hv : Gate.verbsOk r.vs = true
      rotate_left
      · have HV : Hid (Gate.verbsOk r.vs = false) := by simpa [Hid] using hv
        have HF : Hid (Gate.ruleOk r = false) := by unfold Hid Gate.ruleOk; rw [HV.out]; simp
        clear hv
        go_enter Tryz.func147, Tryz.ntmps147
        go_wp2_with (first | (go_at_call_of 51 (Value.string r.kd); refine (as_bool HK.out (isName_any r.kd _ hskd)).mono ?_; rintro e w' ⟨rfl, rfl⟩) | (go_at_call 148; refine (as_bool HV.out (areVerbs_any _ _ r.vs _ (by exact HI.out _))).mono ?_; rintro e w' ⟨rfl, rfl⟩))
        go_ret
        exact ⟨ret_bool HF.out.symm, HB.out _⟩
      have HV : Hid (Gate.verbsOk r.vs = true) := hv
      clear hv
      by_cases h16 : r.px.size ≤ 16
      · have HF : Hid (Gate.ruleOk r = Gate.allName r.px) := by unfold Hid Gate.ruleOk; rw [HKD.out, HV.out, decide_eq_true h16]; rfl
        have h16I : (r.px.size : Int) ≤ 16 := by omega
        clear h16
        go_enter Tryz.func147, Tryz.ntmps147
        go_wp2_with (first | (go_at_call_of 51 (Value.string r.kd); refine (as_bool HK.out (isName_any r.kd _ hskd)).mono ?_; rintro e w' ⟨rfl, rfl⟩) | (go_at_call 148; refine (as_bool HV.out (areVerbs_any _ _ r.vs _ (by exact HI.out _))).mono ?_; rintro e w' ⟨rfl, rfl⟩) | (go_at_call 75; refine (isNameBytes_any r.px _ hspx).mono ?_; rintro e w' ⟨rfl, rfl⟩))
        go_ret
        exact ⟨ret_bool HF.out.symm, HB.out _⟩
      · have HF : Hid (Gate.ruleOk r = false) := by unfold Hid Gate.ruleOk; rw [decide_eq_false h16]; simp
        have h16I : decide ((r.px.size : Int) ≤ 16) = false := by simp; omega
        clear h16
        go_enter Tryz.func147, Tryz.ntmps147
        go_wp2_with (first | (go_at_call_of 51 (Value.string r.kd); refine (as_bool HK.out (isName_any r.kd _ hskd)).mono ?_; rintro e w' ⟨rfl, rfl⟩) | (go_at_call 148; refine (as_bool HV.out (areVerbs_any _ _ r.vs _ (by exact HI.out _))).mono ?_; rintro e w' ⟨rfl, rfl⟩))
        go_ret
        exact ⟨ret_bool HF.out.symm, HB.out _⟩
    · have HKD : Hid (Gate.kindsOk r = true) := by unfold Hid Gate.kindsOk; rw [HK.out, HT.out]; simp
      by_cases hv : Gate.verbsOk r.vs = true
      rotate_left
      · have HV : Hid (Gate.verbsOk r.vs = false) := by simpa [Hid] using hv
        have HF : Hid (Gate.ruleOk r = false) := by unfold Hid Gate.ruleOk; rw [HV.out]; simp
        clear hv
        go_enter Tryz.func147, Tryz.ntmps147
        go_wp2_with (first | (go_at_call_of 51 (Value.string r.kd); refine (as_bool HK.out (isName_any r.kd _ hskd)).mono ?_; rintro e w' ⟨rfl, rfl⟩) | (go_at_call_of 51 (Value.string r.tm); refine (as_bool HT.out (isName_any r.tm _ hstm)).mono ?_; rintro e w' ⟨rfl, rfl⟩) | (go_at_call 148; refine (as_bool HV.out (areVerbs_any _ _ r.vs _ (by exact HI.out _))).mono ?_; rintro e w' ⟨rfl, rfl⟩))
        go_ret
        exact ⟨ret_bool HF.out.symm, HB.out _⟩
      have HV : Hid (Gate.verbsOk r.vs = true) := hv
      clear hv
      by_cases h16 : r.px.size ≤ 16
      · have HF : Hid (Gate.ruleOk r = Gate.allName r.px) := by unfold Hid Gate.ruleOk; rw [HKD.out, HV.out, decide_eq_true h16]; rfl
        have h16I : (r.px.size : Int) ≤ 16 := by omega
        clear h16
        go_enter Tryz.func147, Tryz.ntmps147
        go_wp2_with (first | (go_at_call_of 51 (Value.string r.kd); refine (as_bool HK.out (isName_any r.kd _ hskd)).mono ?_; rintro e w' ⟨rfl, rfl⟩) | (go_at_call_of 51 (Value.string r.tm); refine (as_bool HT.out (isName_any r.tm _ hstm)).mono ?_; rintro e w' ⟨rfl, rfl⟩) | (go_at_call 148; refine (as_bool HV.out (areVerbs_any _ _ r.vs _ (by exact HI.out _))).mono ?_; rintro e w' ⟨rfl, rfl⟩) | (go_at_call 75; refine (isNameBytes_any r.px _ hspx).mono ?_; rintro e w' ⟨rfl, rfl⟩))
        go_ret
        exact ⟨ret_bool HF.out.symm, HB.out _⟩
      · have HF : Hid (Gate.ruleOk r = false) := by unfold Hid Gate.ruleOk; rw [decide_eq_false h16]; simp
        have h16I : decide ((r.px.size : Int) ≤ 16) = false := by simp; omega
        clear h16
        go_enter Tryz.func147, Tryz.ntmps147
        go_wp2_with (first | (go_at_call_of 51 (Value.string r.kd); refine (as_bool HK.out (isName_any r.kd _ hskd)).mono ?_; rintro e w' ⟨rfl, rfl⟩) | (go_at_call_of 51 (Value.string r.tm); refine (as_bool HT.out (isName_any r.tm _ hstm)).mono ?_; rintro e w' ⟨rfl, rfl⟩) | (go_at_call 148; refine (as_bool HV.out (areVerbs_any _ _ r.vs _ (by exact HI.out _))).mono ?_; rintro e w' ⟨rfl, rfl⟩))
        go_ret
        exact ⟨ret_bool HF.out.symm, HB.out _⟩
    · have HF : Hid (Gate.ruleOk r = false) := by unfold Hid Gate.ruleOk Gate.kindsOk; rw [ht, HT.out]; simp
      go_enter Tryz.func147, Tryz.ntmps147
      go_wp2_with (first | (go_at_call_of 51 (Value.string r.kd); refine (as_bool HK.out (isName_any r.kd _ hskd)).mono ?_; rintro e w' ⟨rfl, rfl⟩) | (go_at_call_of 51 (Value.string r.tm); refine (as_bool HT.out (isName_any r.tm _ hstm)).mono ?_; rintro e w' ⟨rfl, rfl⟩))
      go_ret
      exact ⟨ret_bool HF.out.symm, HB.out _⟩
  · have HF : Hid (Gate.ruleOk r = false) := by unfold Hid Gate.ruleOk Gate.kindsOk; rw [hk, HK.out]; simp
    go_enter Tryz.func147, Tryz.ntmps147
    go_wp2_with (first | (go_at_call_of 51 (Value.string r.kd); refine (as_bool HK.out (isName_any r.kd _ hskd)).mono ?_; rintro e w' ⟨rfl, rfl⟩))
    go_ret
    exact ⟨ret_bool HF.out.symm, HB.out _⟩

end Go.Proofs.YthldiefbpemoaaaGreat
