import Derived.Test.YtfpeplbmfbepcaaGreatM19
import Derived.Deep.Cut
namespace Go.Proofs.YtfpeplbmfbepcaaGreat
open Go.RowKit
set_option maxRecDepth 20000 in
set_option maxHeartbeats 4000000 in
theorem zlw (r : Rl) (a : Option Addr) (cap : Nat) (w : World) (hm : r.Small) (hw : yM w a r.vs) :
    Calls Tryz.prog 98 #[.agg (r.cells a cap)] w fun e w' => e = .returned (.bool (Gate.zac r)) /\ Below w.heap.size w w' := by
  have hskd := hm.kd
  have hstm := hm.tm
  have hpx := hm.px
  have hvl := hw.len
  unfold maxLen at hpx hvl
  unfold Rl.cells
  have HI := hid hw
  clear hw hm
  go_enter Tryz.func98, Tryz.ntmps98
  go_upto_region 1 with fail
  refine zbh (fun W => Below w.heap.size w W /\ w.heap.size < W.heap.size /\ ∀ o, W.cell? ⟨w.heap.size, o, none⟩ = (#[.slice a r.vs.length cap, .string r.kd, .string r.tm, .string r.px] : Array Value)[o]?) ⟨(Below.refl _ _).alloc (Nat.le_refl _) _, by simp, zG w _ _⟩ ?_
  rintro W0 ⟨h1, hz0, hX0⟩
  have HBW := hid h1
  obtain ⟨y, hy⟩ : ∃ y, y = !(decide (0 < r.vs.length) && decide (r.px.size <= 16) && Gate.zdf r) := ⟨_, rfl⟩
  have HY := hid hy
  clear h1 hy
  go_cut [36] from 5 (fun vx W => vx = .bool y /\ W = W0)
  case first =>
    by_cases hv0 : r.vs.length = 0
    · have hvI : ((r.vs.length : Int) == 0) = true := by rw [hv0]; rfl
      have HV := hid hv0
      clear hv0
      go_wp2_with fail
      go_meet
      case rel => exact ⟨by rw [HY.out]; simp [HV.out], rfl⟩
    have hvI : ((r.vs.length : Int) == 0) = false := by rw [beq_eq_false_iff_ne]; omega
    have HV : Hid (0 < r.vs.length) := by unfold Hid; omega
    clear hv0
    by_cases h16 : r.px.size <= 16
    rotate_left
    · have h16I : decide (16 < (r.px.size : Int)) = true := by simp; omega
      have H16 := hid h16
      clear h16
      go_wp2_with fail
      go_meet
      case rel => exact ⟨by rw [HY.out, decide_eq_false H16.out]; simp, rfl⟩
    have h16I : decide (16 < (r.px.size : Int)) = false := by simp; omega
    have H16 := hid h16
    clear h16
    rcases Gate.zfm r.kd with hk | ⟨hk, HK⟩ | ⟨hk, HK⟩ <;> rcases Gate.zfm r.tm with ht | ⟨ht, HT⟩ | ⟨ht, HT⟩ <;> (go_wp2_with (first | (go_at_call_of 97 (Value.string r.kd); refine (zw HK.out (zS r.kd _ hskd)).mono ?_; rintro e w' ⟨rfl, rfl⟩) | (go_at_call_of 97 (Value.string r.tm); refine (zw HT.out (zS r.tm _ hstm)).mono ?_; rintro e w' ⟨rfl, rfl⟩)); go_meet; case rel => exact ⟨by rw [HY.out, decide_eq_true HV.out, decide_eq_true H16.out]; unfold Gate.zdf; first | (simp [hk, ht]; done) | (simp [hk, ht, HK.out]; done) | (simp [hk, ht, HT.out]; done) | (simp [hk, ht, HK.out, HT.out]; done), rfl⟩)
  case rest =>
    obtain ⟨rfl, rfl⟩ := hcut
    cases y with
    | true =>
      have HF : Hid (Gate.zac r = false) := by
        have h := HY.out
        unfold Hid Gate.zac Gate.zbF
        revert h
        cases decide (0 < r.vs.length) <;> cases decide (r.px.size <= 16) <;> cases Gate.zdf r <;> simp
      go_wp2_with fail
      go_ret
      exact ⟨ze HF.out.symm, HBW.out⟩
    | false =>
      obtain ⟨hv0, h16, hkd⟩ : 0 < r.vs.length /\ r.px.size <= 16 /\ Gate.zdf r = true := by
        have h := HY.out.symm
        simp only [Bool.not_eq_false', Bool.and_eq_true, decide_eq_true_eq] at h
        exact ⟨h.1.1, h.1.2, h.2⟩
      have HKD := hid hkd
      have HG : Hid (Gate.zdf r = true -> Gate.zac r = (Gate.up (Gate.zab r.vs) r.vs.length && Gate.jU r.px)) := fun h => by
        unfold Gate.zac Gate.zbF; rw [h, decide_eq_true h16, decide_eq_true hv0]; simp
      clear hv0 hkd
      obtain ⟨W0, rfl⟩ : ∃ x, x = wc := ⟨_, rfl⟩
      go_wp2_with fail
      go_loopw [3] (fun i wr => ∃ k : Nat, k <= r.vs.length /\ i = .int .i64 k /\ Gate.up (Gate.zab r.vs) k = true /\ Below W0.heap.size W0 wr) (fun i _ => r.vs.length - (intOf i).toNat)
      case atStart => exact ⟨0, Nat.zero_le _, rfl, rfl, Below.refl _ _⟩
      case round =>
        obtain ⟨k, hkl, rfl, hup, hB⟩ := hrel
        obtain ⟨W1, rfl⟩ : ∃ W1, W1 = wr := ⟨wr, rfl⟩
        have hsz := hB.size
        have hX := za hX0 hz0 hB
        have HB1 := hid hB
        have HBW1 : Hid (Below w.heap.size w W1) := HBW.out.trans (hB.mono (by omega))
        have hz1 : w.heap.size < W1.heap.size := by omega
        clear hX0 hB
        by_cases hlt : k < r.vs.length
        · obtain ⟨b, off, rfl, hb, c0⟩ := HI.out.load HBW1.out k hlt
          have hbr : b < W1.heap.size := by omega
          have hltI : (k : Int) < (r.vs.length : Int) := by omega
          have HNN : Hid (Gate.zab r.vs k = false -> Gate.zac r = false) := fun h => by rw [HG.out HKD.out, Gate.zbg hlt h]; rfl
          by_cases hn : Gate.zcF r.vs[k] = true
          rotate_left
          · have HN : Hid ((decide (1 <= r.vs[k]) && decide (r.vs[k] <= 5)) = false) := by simpa [Hid, Gate.zcF] using hn
            have HF : Hid (Gate.zac r = false) := HNN.out (Gate.zkr hlt (by simpa using hn))
            clear hn hup
            go_wp2_with fail
            go_quiet ((go_at_call 59; exact Calls.quiet_of_same (zw HN.out (jJ _ _ _ _))))
            go_wp2_with fail
            go_ret
            exact ⟨ze HF.out.symm, below_drewN HBW1.out _⟩
          have HN := hid hn
          by_cases hk0 : k = 0
          · have HS : Hid (Gate.up (Gate.zab r.vs) (k + 1) = true) := by subst hk0; unfold Hid; rw [Gate.jG, Gate.zfd hlt hn]; rfl
            have hg : decide (0 < k) = false := by simp; omega
            clear hn hup hk0
            go_wp2_with fail
            go_quiet ((go_at_call 59; exact Calls.quiet_of_same (zw HN.out (jJ _ _ _ _))))
            go_wp2_with fail
            exact ⟨⟨k + 1, by omega, by go_num, HS.out, below_drewN HB1.out _⟩, by simp [intOf]; omega⟩
          · have hk1 : (0 : Int) <= (k : Int) - 1 := by omega
            have hk2 : (k : Int) - 1 < (r.vs.length : Int) := by omega
            have hg : decide (0 < k) = true := by simp; omega
            have hkm : k - 1 < r.vs.length := by omega
            obtain ⟨b', off', e', hb', d0⟩ := HI.out.load HBW1.out (k - 1) hkm
            simp only [Option.some.injEq, Addr.mk.injEq] at e'
            obtain ⟨rfl, rfl, _⟩ := e'
            have hva : Gate.zab r.vs k = decide (r.vs[k - 1] < r.vs[k]) := by unfold Gate.zab; rw [Gate.getD_at r.vs k _ hlt, Gate.getD_at r.vs (k - 1) _ hkm, hn, decide_eq_false hk0]; simp
            by_cases hls : r.vs[k - 1] < r.vs[k]
            · have hls' : decide (r.vs[k] <= r.vs[k - 1]) = false := by simp; omega
              have HS : Hid (Gate.up (Gate.zab r.vs) (k + 1) = true) := by unfold Hid; rw [Gate.jG, hup, hva, decide_eq_true hls]; rfl
              clear hls hn hup hk0 hva
              go_wp2_with fail
              go_quiet ((go_at_call 59; exact Calls.quiet_of_same (zw HN.out (jJ _ _ _ _))))
              go_wp2_with fail
              exact ⟨⟨k + 1, by omega, by go_num, HS.out, below_drewN HB1.out _⟩, by simp [intOf]; omega⟩
            · have hls' : decide (r.vs[k] <= r.vs[k - 1]) = true := by simp; omega
              have HF : Hid (Gate.zac r = false) := HNN.out (by rw [hva, decide_eq_false hls])
              clear hls hn hup hk0 hva
              go_wp2_with fail
              go_quiet ((go_at_call 59; exact Calls.quiet_of_same (zw HN.out (jJ _ _ _ _))))
              go_wp2_with fail
              go_ret
              exact ⟨ze HF.out.symm, below_drewN HBW1.out _⟩
        · have HF : Hid (Gate.zac r = Gate.jU r.px) := by
            have e : k = r.vs.length := by omega
            subst e; rw [Hid, HG.out HKD.out, hup]; rfl
          have hltI : ¬ (k : Int) < (r.vs.length : Int) := by omega
          clear hup HG
          go_wp2_with fail
          go_loopw [4] (fun i wi => ∃ n : Nat, n <= r.px.size /\ i = .int .i64 n /\ (r.px.data.toList.take n).all Gate.yj = true /\ wi = W1) (fun i _ => r.px.size - (intOf i).toNat)
          case atStart => exact ⟨0, Nat.zero_le _, rfl, rfl, rfl⟩
          case round =>
            obtain ⟨n, hn16, rfl, hall, rfl⟩ := hrel
            by_cases hn : n < r.px.size
            · have hnI : (n : Int) < (r.px.size : Int) := by omega
              have HS : Hid ((r.px.data.toList.take (n + 1)).all Gate.yj = (true && Gate.yj r.px[n])) := by rw [Gate.zbP _ r.px n hn, hall]; rfl
              have HNo : Hid (Gate.yj r.px[n] = false -> Gate.jU r.px = false) := fun h => Gate.zdu Gate.yj r.px n hn h
              clear hall
              by_cases hc : Gate.yj r.px[n] = true
              · have HC := hid hc
                clear hc
                go_wp2_with (go_at_call 135; refine (zw HC.out (zdh _ _)).mono ?_; rintro e w' ⟨rfl, rfl⟩)
                exact ⟨⟨n + 1, by omega, by go_num, by rw [HS.out, HC.out]; rfl, trivial⟩, by simp [intOf]; omega⟩
              · have HC : Hid (Gate.yj r.px[n] = false) := by simpa [Hid] using hc
                clear hc
                go_wp2_with (go_at_call 135; refine (zw HC.out (zdh _ _)).mono ?_; rintro e w' ⟨rfl, rfl⟩)
                go_ret
                exact ⟨ze (HF.out.trans (HNo.out HC.out)).symm, HBW1.out⟩
            · have HA : Hid (Gate.jU r.px = true) := by unfold Gate.jU Hid; rw [<- Gate.zba r.px n (by omega)]; exact hall
              have hnI : ¬ (n : Int) < (r.px.size : Int) := by omega
              clear hall
              go_wp2_with fail
              go_ret
              exact ⟨ze (HF.out.trans HA.out).symm, HBW1.out⟩
end Go.Proofs.YtfpeplbmfbepcaaGreat
