import Derived.Test.YtfapkhgallmkdaaGreatM21
import Derived.Test.YtfapkhgallmkdaaGreatM16
import Derived.Deep.Cut
namespace Go.Proofs.YtfapkhgallmkdaaGreat
open Go.RowKit
set_option maxHeartbeats 400000 in
theorem zcL (a : Option Addr) (cap : Nat) (ts : List Tm) (v : ByteArray) (w : World) (hw : qF w a ts) :
    Calls Tryz.prog 80 #[.slice a ts.length cap, .string v] w fun e w' => e = .returned (.bool (Gate.yj ts v)) /\ w' = w := by
  have hl := hw.len
  unfold maxLen at hl
  go_enter Tryz.func80, Tryz.ntmps80
  go_wp2_with fail
  go_loop [5] (fun i => ∃ k : Nat, k <= ts.length /\ i = .int .i64 k /\ Gate.yj (ts.take k) v = false) (fun i => ts.length - (intOf i).toNat)
  case atStart => exact ⟨0, Nat.zero_le _, rfl, rfl⟩
  case round =>
    obtain ⟨k, hk, rfl, hall⟩ := hrel
    by_cases hlt : k < ts.length
    · obtain ⟨b, off, rfl, hb, c0, c1⟩ := hw.load (Below.refl _ _) k hlt
      clear hw
      have HS : Hid (Gate.yj (ts.take (k + 1)) v = (false || decide (ts[k].nm = v))) := by rw [Gate.zdb ts v k hlt, hall]; rfl
      have hltI : (k : Int) < (ts.length : Int) := by omega
      by_cases he : ts[k].nm = v
      · have hbe : (ts[k].nm.toList == v.toList) = true := by rw [Gate.beq_toList]; simpa using he
        have HR := hid (Gate.zl5 ts v k hlt he)
        clear he hall
        go_wp2_with fail
        go_ret
        exact ⟨ze HR.out.symm, rfl⟩
      · have hbe : (ts[k].nm.toList == v.toList) = false := by rw [Gate.beq_toList]; simpa using he
        have HE := hid he
        clear he hall
        go_wp2_with fail
        go_round
        case rel => exact ⟨k + 1, by omega, by go_num, by rw [HS.out, decide_eq_false HE.out]; rfl⟩
        case measure => simp [intOf]; omega
    · have HR : Hid (Gate.yj ts v = false) := by rw [<- Gate.zdV ts v k (by omega)]; exact hall
      clear hall hw
      go_wp2_with fail
      go_ret
      exact ⟨ze HR.out.symm, rfl⟩
theorem Gate.zeM (ts : List Tm) (m : Nat) (z : ByteArray) (h : z.size = 0) : Gate.je ts m z = z := by
  cases m with
  | zero => rfl
  | succ m => unfold Gate.je; rw [if_pos h]
theorem Gate.zf2 (ts : List Tm) (m : Nat) (z : ByteArray) (h : ¬ z.size = 0) : Gate.je ts (m + 1) z = Gate.je ts m (Gate.over ts z) := by
  rw [Gate.je, if_neg h]
set_option maxHeartbeats 1000000 in
theorem zgo (a : Option Addr) (cap : Nat) (ts : List Tm) (w : World) (hw : qF w a ts) :
    Calls Tryz.prog 78 #[.slice a ts.length cap] w fun e w' => e = .returned (.bool (Gate.zac ts)) /\ Below w.heap.size w w' := by
  have hl := hw.len
  unfold maxLen at hl
  by_cases h12 : ts.length <= 12
  rotate_left
  · have HF : Hid (Gate.zac ts = false) := by simp [Hid, Gate.zac, h12]
    clear hw
    go_enter Tryz.func78, Tryz.ntmps78
    go_wp2_with fail
    go_ret
    exact ⟨ze HF.out.symm, Below.refl _ _⟩
  have HG : Hid (Gate.zac ts = Gate.up (Gate.zbg ts) ts.length) := by simp [Hid, Gate.zac, h12]
  have h12I : (ts.length : Int) <= 12 := by omega
  have HW0 := hid hw
  clear hw
  go_enter Tryz.func78, Tryz.ntmps78
  go_wp2_with fail
  go_loopw [3] (fun i wr => ∃ k : Nat, k <= ts.length /\ i = .int .i64 k /\ Gate.up (Gate.zbg ts) k = true /\ Below w.heap.size w wr) (fun i _ => ts.length - (intOf i).toNat)
  case atStart => exact ⟨0, Nat.zero_le _, rfl, rfl, Below.refl _ _⟩
  case round =>
    obtain ⟨k, hk, rfl, hup, hB⟩ := hrel
    obtain ⟨W0, rfl⟩ : ∃ W0, W0 = wr := ⟨wr, rfl⟩
    have hsz := hB.size
    by_cases hlt : k < ts.length
    · obtain ⟨b, off, rfl, hb, c0, c1⟩ := HW0.out.load hB k hlt
      have hbr : b < W0.heap.size := by omega
      have hsm := HW0.out.small k hlt
      have hsn := hsm.nm
      have HS : Hid (Gate.yT ts k = true -> Gate.zcs ts k = true -> Gate.up (Gate.zbg ts) (k + 1) = true) := fun h h' => by rw [Gate.jA, hup, Gate.zbg, h, h']; rfl
      have HN : Hid (Gate.yT ts k = false -> Gate.zac ts = false) := fun h => by rw [HG.out]; exact Gate.zaV hlt (by rw [Gate.zbg, h]; rfl)
      have HD : Hid (Gate.zcs ts k = false -> Gate.zac ts = false) := fun h => by rw [HG.out]; exact Gate.zaV hlt (by rw [Gate.zbg, h, Bool.and_false])
      have HDS : Hid (Gate.zcs ts k = decide ((Gate.je ts 5 ts[k].nm).size = 0)) := by unfold Hid Gate.zcs; rw [Gate.getD_at ts k _ hlt]
      have hltI : (k : Int) < (ts.length : Int) := by omega
      have HB := hid hB
      have HBx : Hid (∀ (ob : Obj) (n : Nat), Below W0.heap.size W0 ((W0.alloc ob).drewN n)) := fun ob n => below_drewN ((Below.refl _ _).alloc (Nat.le_refl _) _) _
      have HWr : Hid (∀ (ob : Obj) (n : Nat), qF ((W0.alloc ob).drewN n) (some ⟨b, off, none⟩) ts) := fun ob n => (HW0.out.mono hB).mono (below_drewN ((Below.refl _ _).alloc (Nat.le_refl _) _) _)
      clear hup hsm hB
      by_cases hn : Gate.zy ts[k].nm = true
      rotate_left
      · have HNm : Hid (Gate.zy ts[k].nm = false) := by simpa [Hid] using hn
        have HF : Hid (Gate.yT ts k = false) := by unfold Hid; rw [Gate.zbJ ts k hlt _ rfl, HNm.out]; rfl
        clear hn
        go_wp2_with fail
        go_quiet ((go_at_call 86; exact Calls.quiet_of_same (zk HNm.out (zR _ _ hsn))))
        go_wp2_with fail
        go_ret
        exact ⟨ze (HN.out HF.out).symm, HB.out.trans ((HBx.out _ _).mono hsz)⟩
      have HNm : Hid (Gate.zy ts[k].nm = true) := hn
      clear hn
      by_cases hbad : 0 < k /\ Gate.less (ts.getD (k - 1) Gate.zaH).nm ts[k].nm = false
      · obtain ⟨hkpos, hls⟩ := hbad
        have HF : Hid (Gate.yT ts k = false) := by
          unfold Hid; rw [Gate.zbJ ts k hlt false (by rw [hls, decide_eq_false (show ¬ k = 0 by omega)]; rfl)]; simp
        obtain ⟨m, rfl⟩ : ∃ m, k = m + 1 := ⟨k - 1, by omega⟩
        rw [Nat.add_sub_cancel, Gate.getD_at ts m _ (by omega)] at hls
        obtain ⟨b', off', e', hb', d0, d1⟩ := HW0.out.load HB.out m (by omega)
        simp only [Option.some.injEq, Addr.mk.injEq] at e'
        obtain ⟨rfl, rfl, _⟩ := e'
        have hls' : Op.bytesLess ts[m].nm.toList ts[m + 1].nm.toList = false := hls
        have hmI : (m : Int) < 12 := by omega
        have hm0 : (0 : Int) <= (m : Int) := by omega
        have hml : (m : Int) < (ts.length : Int) := by omega
        have hmw : IntKind.i64.wrap (m : Int) = m := by rw [IntKind.wrap_i64]; omega
        clear hls
        go_wp2_with fail
        go_quiet ((go_at_call 86; exact Calls.quiet_of_same (zk HNm.out (zR _ _ hsn))))
        go_wp2_with fail
        go_ret
        exact ⟨ze (HN.out HF.out).symm, HB.out.trans ((HBx.out _ _).mono hsz)⟩
      have hgd : (decide (k = 0) || Gate.less (ts.getD (k - 1) Gate.zaH).nm ts[k].nm) = true := by
        by_cases hk0 : k = 0
        · simp [hk0]
        · cases hq : Gate.less (ts.getD (k - 1) Gate.zaH).nm ts[k].nm
          · exact absurd ⟨by omega, hq⟩ hbad
          · simp
      have HA : Hid (Gate.yT ts k = (ts[k].ov.toList.isEmpty || Gate.yj ts ts[k].ov)) := by
        unfold Hid; rw [Gate.zbJ ts k hlt true hgd, HNm.out]; rfl
      have hgood : (decide (0 < k) = false) \/ (decide (0 < k) = true /\ (0 : Int) <= (k : Int) - 1 /\ (k : Int) - 1 < (ts.length : Int) /\ ∃ h : k - 1 < ts.length, Op.bytesLess ts[k - 1].nm.toList ts[k].nm.toList = true /\ W0.cell? ⟨b, off + (k - 1) * 2, none⟩ = some (.string ts[k - 1].nm)) := by
        by_cases hk0 : k = 0
        · exact Or.inl (by simp; omega)
        · refine Or.inr ⟨by simp; omega, by omega, by omega, by omega, ?_, ?_⟩
          · rw [decide_eq_false hk0, Gate.getD_at ts (k - 1) _ (by omega)] at hgd
            exact hgd
          · obtain ⟨b', off', e', hb', d0, d1⟩ := HW0.out.load HB.out (k - 1) (by omega)
            simp only [Option.some.injEq, Addr.mk.injEq] at e'
            obtain ⟨rfl, rfl, _⟩ := e'
            exact d0
      clear hbad hgd
      by_cases hov : ts[k].ov.toList.isEmpty = true
      · have HT : Hid (Gate.yT ts k = true) := by unfold Hid; rw [HA.out, hov]; rfl
        rcases hgood with hg | ⟨hg, hk1, hk2, hkm, hls', d0⟩
        focus
          go_wp2_with fail
        rotate_left
        focus
          go_wp2_with fail
        all_goals
          go_quiet ((go_at_call 86; exact Calls.quiet_of_same (zk HNm.out (zR _ _ hsn))))
          go_wp2_with fail
          obtain ⟨W1, hW1⟩ : ∃ W1, W1 = (W0.alloc (.cells #[.string ts[k].nm, .string ts[k].ov] 119)).drewN nq := ⟨_, rfl⟩
          have HB1 : Hid (Below w.heap.size w W1) := by unfold Hid; rw [hW1]; exact HB.out.trans ((HBx.out _ _).mono hsz)
          have HW1 := hid (HW0.out.mono HB1.out)
          rw [<- hW1]
          clear hW1
          go_loopw [5, 6] (fun p i wi => ∃ (n : Nat) (z : ByteArray), n <= 5 /\ p = .string z /\ i = .int .i64 n /\ Gate.je ts 5 ts[k].nm = Gate.je ts (5 - n) z /\ wi = W1) (fun _ i _ => 5 - (intOf i).toNat)
          case atStart => exact ⟨0, ts[k].nm, Nat.zero_le _, rfl, rfl, rfl, rfl⟩
          case round =>
            obtain ⟨n, z, hn5, rfl, rfl, hz, rfl⟩ := hrel
            by_cases hn : n < 5
            · have hnI : (n : Int) <= 4 := by omega
              by_cases hz0 : z.size = 0
              · have hze : z.toList.isEmpty = true := by rw [Gate.zq]; simpa using hz0
                have HDT : Hid (Gate.zcs ts (k) = true) := by unfold Hid; rw [HDS.out, hz, Gate.zeM ts _ z hz0]; simpa using hz0
                clear hz hz0
                go_wp2_with fail
                exact ⟨⟨k + 1, by omega, by go_num, HS.out HT.out HDT.out, HB1.out⟩, by simp [intOf]; omega⟩
              · have hze : z.toList.isEmpty = false := by rw [Gate.zq]; simpa using hz0
                have HZ : Hid (Gate.je ts 5 ts[k].nm = Gate.je ts (5 - (n + 1)) (Gate.over ts z)) := by
                  obtain ⟨q, hq⟩ : ∃ q, 5 - n = q + 1 := ⟨4 - n, by omega⟩
                  rw [Hid, hz, hq, Gate.zf2 ts q z hz0, show 5 - (n + 1) = q by omega]
                clear hz hz0
                go_wp2_with (go_at_call 118; refine (zbQ _ _ ts _ _ HW1.out).mono ?_; rintro e w' ⟨rfl, rfl⟩)
                exact ⟨⟨n + 1, Gate.over ts z, by omega, rfl, by go_num, HZ.out, trivial⟩, by simp [intOf]; omega⟩
            · have e5 : 5 - n = 0 := by omega
              rw [e5] at hz
              have hnI : ¬ (n : Int) <= 4 := by omega
              by_cases hz0 : z.size = 0
              · have hze : z.toList.isEmpty = true := by rw [Gate.zq]; simpa using hz0
                have HDT : Hid (Gate.zcs ts (k) = true) := by unfold Hid; rw [HDS.out, hz]; simpa [Gate.je] using hz0
                clear hz hz0
                go_wp2_with fail
                exact ⟨⟨k + 1, by omega, by go_num, HS.out HT.out HDT.out, HB1.out⟩, by simp [intOf]; omega⟩
              · have hze : z.toList.isEmpty = false := by rw [Gate.zq]; simpa using hz0
                have HDT : Hid (Gate.zcs ts (k) = false) := by unfold Hid; rw [HDS.out, hz]; simpa [Gate.je] using hz0
                clear hz hz0
                go_wp2_with fail
                go_ret
                exact ⟨ze (HD.out HDT.out).symm, HB1.out⟩
      · have hov' : ts[k].ov.toList.isEmpty = false := by simpa using hov
        clear hov
        by_cases hit : Gate.yj ts ts[k].ov = true
        · have HI := hid hit
          have HT : Hid (Gate.yT ts k = true) := by unfold Hid; rw [HA.out, hit]; simp
          clear hit
          rcases hgood with hg | ⟨hg, hk1, hk2, hkm, hls', d0⟩
          focus
            go_wp2_with fail
          rotate_left
          focus
            go_wp2_with fail
          all_goals
            go_quiet (first | (go_at_call 86; exact Calls.quiet_of_same (zk HNm.out (zR _ _ hsn))) | (go_at_call 80; exact Calls.quiet_of_same (zk HI.out (zcL _ _ ts _ _ (by exact HWr.out _ _)))))
            go_wp2_with fail
            obtain ⟨W1, hW1⟩ : ∃ W1, W1 = (W0.alloc (.cells #[.string ts[k].nm, .string ts[k].ov] 119)).drewN nq := ⟨_, rfl⟩
            have HB1 : Hid (Below w.heap.size w W1) := by unfold Hid; rw [hW1]; exact HB.out.trans ((HBx.out _ _).mono hsz)
            have HW1 := hid (HW0.out.mono HB1.out)
            rw [<- hW1]
            clear hW1
            go_loopw [5, 6] (fun p i wi => ∃ (n : Nat) (z : ByteArray), n <= 5 /\ p = .string z /\ i = .int .i64 n /\ Gate.je ts 5 ts[k].nm = Gate.je ts (5 - n) z /\ wi = W1) (fun _ i _ => 5 - (intOf i).toNat)
            case atStart => exact ⟨0, ts[k].nm, Nat.zero_le _, rfl, rfl, rfl, rfl⟩
            case round =>
              obtain ⟨n, z, hn5, rfl, rfl, hz, rfl⟩ := hrel
              by_cases hn : n < 5
              · have hnI : (n : Int) <= 4 := by omega
                by_cases hz0 : z.size = 0
                · have hze : z.toList.isEmpty = true := by rw [Gate.zq]; simpa using hz0
                  have HDT : Hid (Gate.zcs ts (k) = true) := by unfold Hid; rw [HDS.out, hz, Gate.zeM ts _ z hz0]; simpa using hz0
                  clear hz hz0
                  go_wp2_with fail
                  exact ⟨⟨k + 1, by omega, by go_num, HS.out HT.out HDT.out, HB1.out⟩, by simp [intOf]; omega⟩
                · have hze : z.toList.isEmpty = false := by rw [Gate.zq]; simpa using hz0
                  have HZ : Hid (Gate.je ts 5 ts[k].nm = Gate.je ts (5 - (n + 1)) (Gate.over ts z)) := by
                    obtain ⟨q, hq⟩ : ∃ q, 5 - n = q + 1 := ⟨4 - n, by omega⟩
                    rw [Hid, hz, hq, Gate.zf2 ts q z hz0, show 5 - (n + 1) = q by omega]
                  clear hz hz0
                  go_wp2_with (go_at_call 118; refine (zbQ _ _ ts _ _ HW1.out).mono ?_; rintro e w' ⟨rfl, rfl⟩)
                  exact ⟨⟨n + 1, Gate.over ts z, by omega, rfl, by go_num, HZ.out, trivial⟩, by simp [intOf]; omega⟩
              · have e5 : 5 - n = 0 := by omega
                rw [e5] at hz
                have hnI : ¬ (n : Int) <= 4 := by omega
                by_cases hz0 : z.size = 0
                · have hze : z.toList.isEmpty = true := by rw [Gate.zq]; simpa using hz0
                  have HDT : Hid (Gate.zcs ts (k) = true) := by unfold Hid; rw [HDS.out, hz]; simpa [Gate.je] using hz0
                  clear hz hz0
                  go_wp2_with fail
                  exact ⟨⟨k + 1, by omega, by go_num, HS.out HT.out HDT.out, HB1.out⟩, by simp [intOf]; omega⟩
                · have hze : z.toList.isEmpty = false := by rw [Gate.zq]; simpa using hz0
                  have HDT : Hid (Gate.zcs ts (k) = false) := by unfold Hid; rw [HDS.out, hz]; simpa [Gate.je] using hz0
                  clear hz hz0
                  go_wp2_with fail
                  go_ret
                  exact ⟨ze (HD.out HDT.out).symm, HB1.out⟩
        · have HI : Hid (Gate.yj ts ts[k].ov = false) := by simpa [Hid] using hit
          have HF : Hid (Gate.yT ts k = false) := by unfold Hid; rw [HA.out, HI.out, hov']; rfl
          clear hit
          rcases hgood with hg | ⟨hg, hk1, hk2, hkm, hls', d0⟩
          focus
            go_wp2_with fail
          rotate_left
          focus
            go_wp2_with fail
          all_goals
            go_quiet (first | (go_at_call 86; exact Calls.quiet_of_same (zk HNm.out (zR _ _ hsn))) | (go_at_call 80; exact Calls.quiet_of_same (zk HI.out (zcL _ _ ts _ _ (by exact HWr.out _ _)))))
            go_wp2_with fail
            go_ret
            exact ⟨ze (HN.out HF.out).symm, HB.out.trans ((HBx.out _ _).mono hsz)⟩
    · have HF : Hid (Gate.zac ts = true) := by
        have e : k = ts.length := by omega
        subst e; rw [Hid, HG.out, hup]
      clear hup
      go_wp2_with fail
      go_ret
      exact ⟨ze HF.out.symm, hB⟩
end Go.Proofs.YtfapkhgallmkdaaGreat

namespace Go.Proofs.YtfapkhgallmkdaaGreat
open Go.RowKit
set_option maxRecDepth 20000 in
set_option maxHeartbeats 4000000 in
theorem zkj (r : Rl) (a : Option Addr) (cap : Nat) (w : World) (hm : r.Small) (hw : yw w a r.vs) :
    Calls Tryz.prog 87 #[.agg (r.cells a cap)] w fun e w' => e = .returned (.bool (Gate.jF r)) /\ Below w.heap.size w w' := by
  have hskd := hm.kd
  have hstm := hm.tm
  have hpx := hm.px
  have hvl := hw.len
  unfold maxLen at hpx hvl
  unfold Rl.cells
  have HI := hid hw
  clear hw hm
  go_enter Tryz.func87, Tryz.ntmps87
  go_upto_region 1 with fail
  refine zaW (fun W => Below w.heap.size w W /\ w.heap.size < W.heap.size /\ ∀ o, W.cell? ⟨w.heap.size, o, none⟩ = (#[.slice a r.vs.length cap, .string r.kd, .string r.tm, .string r.px] : Array Value)[o]?) ⟨(Below.refl _ _).alloc (Nat.le_refl _) _, by simp, zG w _ _⟩ ?_
  rintro W0 ⟨h1, hz0, hX0⟩
  have HBW := hid h1
  obtain ⟨y, hy⟩ : ∃ y, y = !(decide (0 < r.vs.length) && decide (r.px.size <= 16) && Gate.zcR r) := ⟨_, rfl⟩
  have HY := hid hy
  clear h1 hy
  go_cut [36] from 5 (fun vx W => vx = .bool y /\ W = W0)
  case first =>
    by_cases hv0 : r.vs.length = 0
    · have hvI : ((r.vs.length : Int) == 0) = true := by rw [hv0]; rfl
      have HV := hid hv0
      clear hv0
      go_wp2_with fail
      go_meet
      case rel => exact ⟨by rw [HY.out]; simp [HV.out], rfl⟩
    have hvI : ((r.vs.length : Int) == 0) = false := by rw [beq_eq_false_iff_ne]; omega
    have HV : Hid (0 < r.vs.length) := by unfold Hid; omega
    clear hv0
    by_cases h16 : r.px.size <= 16
    rotate_left
    · have h16I : decide (16 < (r.px.size : Int)) = true := by simp; omega
      have H16 := hid h16
      clear h16
      go_wp2_with fail
      go_meet
      case rel => exact ⟨by rw [HY.out, decide_eq_false H16.out]; simp, rfl⟩
    have h16I : decide (16 < (r.px.size : Int)) = false := by simp; omega
    have H16 := hid h16
    clear h16
    rcases Gate.zeH r.kd with hk | ⟨hk, HK⟩ | ⟨hk, HK⟩ <;> rcases Gate.zeH r.tm with ht | ⟨ht, HT⟩ | ⟨ht, HT⟩ <;> (go_wp2_with (first | (go_at_call_of 86 (Value.string r.kd); refine (zk HK.out (zR r.kd _ hskd)).mono ?_; rintro e w' ⟨rfl, rfl⟩) | (go_at_call_of 86 (Value.string r.tm); refine (zk HT.out (zR r.tm _ hstm)).mono ?_; rintro e w' ⟨rfl, rfl⟩)); go_meet; case rel => exact ⟨by rw [HY.out, decide_eq_true HV.out, decide_eq_true H16.out]; unfold Gate.zcR; first | (simp [hk, ht]; done) | (simp [hk, ht, HK.out]; done) | (simp [hk, ht, HT.out]; done) | (simp [hk, ht, HK.out, HT.out]; done), rfl⟩)
  case rest =>
    obtain ⟨rfl, rfl⟩ := hcut
    cases y with
    | true =>
      have HF : Hid (Gate.jF r = false) := by
        have h := HY.out
        unfold Hid Gate.jF Gate.qD
        revert h
        cases decide (0 < r.vs.length) <;> cases decide (r.px.size <= 16) <;> cases Gate.zcR r <;> simp
      go_wp2_with fail
      go_ret
      exact ⟨ze HF.out.symm, HBW.out⟩
    | false =>
      obtain ⟨hv0, h16, hkd⟩ : 0 < r.vs.length /\ r.px.size <= 16 /\ Gate.zcR r = true := by
        have h := HY.out.symm
        simp only [Bool.not_eq_false', Bool.and_eq_true, decide_eq_true_eq] at h
        exact ⟨h.1.1, h.1.2, h.2⟩
      have HKD := hid hkd
      have HG : Hid (Gate.zcR r = true -> Gate.jF r = (Gate.up (Gate.jI r.vs) r.vs.length && Gate.jP r.px)) := fun h => by
        unfold Gate.jF Gate.qD; rw [h, decide_eq_true h16, decide_eq_true hv0]; simp
      clear hv0 hkd
      obtain ⟨W0, rfl⟩ : ∃ x, x = wc := ⟨_, rfl⟩
      go_wp2_with fail
      go_loopw [3] (fun i wr => ∃ k : Nat, k <= r.vs.length /\ i = .int .i64 k /\ Gate.up (Gate.jI r.vs) k = true /\ Below W0.heap.size W0 wr) (fun i _ => r.vs.length - (intOf i).toNat)
      case atStart => exact ⟨0, Nat.zero_le _, rfl, rfl, Below.refl _ _⟩
      case round =>
        obtain ⟨k, hkl, rfl, hup, hB⟩ := hrel
        obtain ⟨W1, rfl⟩ : ∃ W1, W1 = wr := ⟨wr, rfl⟩
        have hsz := hB.size
        have hX := za hX0 hz0 hB
        have HB1 := hid hB
        have HBW1 : Hid (Below w.heap.size w W1) := HBW.out.trans (hB.mono (by omega))
        have hz1 : w.heap.size < W1.heap.size := by omega
        clear hX0 hB
        by_cases hlt : k < r.vs.length
        · obtain ⟨b, off, rfl, hb, c0⟩ := HI.out.load HBW1.out k hlt
          have hbr : b < W1.heap.size := by omega
          have hltI : (k : Int) < (r.vs.length : Int) := by omega
          have HNN : Hid (Gate.jI r.vs k = false -> Gate.jF r = false) := fun h => by rw [HG.out HKD.out, Gate.zaV hlt h]; rfl
          by_cases hn : Gate.jM r.vs[k] = true
          rotate_left
          · have HN : Hid ((decide (1 <= r.vs[k]) && decide (r.vs[k] <= 5)) = false) := by simpa [Hid, Gate.jM] using hn
            have HF : Hid (Gate.jF r = false) := HNN.out (Gate.zjn hlt (by simpa using hn))
            clear hn hup
            go_wp2_with fail
            go_quiet ((go_at_call 47; exact Calls.quiet_of_same (zk HN.out (jD _ _ _ _))))
            go_wp2_with fail
            go_ret
            exact ⟨ze HF.out.symm, below_drewN HBW1.out _⟩
          have HN := hid hn
          by_cases hk0 : k = 0
          · have HS : Hid (Gate.up (Gate.jI r.vs) (k + 1) = true) := by subst hk0; unfold Hid; rw [Gate.jA, Gate.zex hlt hn]; rfl
            have hg : decide (0 < k) = false := by simp; omega
            clear hn hup hk0
            go_wp2_with fail
            go_quiet ((go_at_call 47; exact Calls.quiet_of_same (zk HN.out (jD _ _ _ _))))
            go_wp2_with fail
            exact ⟨⟨k + 1, by omega, by go_num, HS.out, below_drewN HB1.out _⟩, by simp [intOf]; omega⟩
          · have hk1 : (0 : Int) <= (k : Int) - 1 := by omega
            have hk2 : (k : Int) - 1 < (r.vs.length : Int) := by omega
            have hg : decide (0 < k) = true := by simp; omega
            have hkm : k - 1 < r.vs.length := by omega
            obtain ⟨b', off', e', hb', d0⟩ := HI.out.load HBW1.out (k - 1) hkm
            simp only [Option.some.injEq, Addr.mk.injEq] at e'
            obtain ⟨rfl, rfl, _⟩ := e'
            have hva : Gate.jI r.vs k = decide (r.vs[k - 1] < r.vs[k]) := by unfold Gate.jI; rw [Gate.getD_at r.vs k _ hlt, Gate.getD_at r.vs (k - 1) _ hkm, hn, decide_eq_false hk0]; simp
            by_cases hls : r.vs[k - 1] < r.vs[k]
            · have hls' : decide (r.vs[k] <= r.vs[k - 1]) = false := by simp; omega
              have HS : Hid (Gate.up (Gate.jI r.vs) (k + 1) = true) := by unfold Hid; rw [Gate.jA, hup, hva, decide_eq_true hls]; rfl
              clear hls hn hup hk0 hva
              go_wp2_with fail
              go_quiet ((go_at_call 47; exact Calls.quiet_of_same (zk HN.out (jD _ _ _ _))))
              go_wp2_with fail
              exact ⟨⟨k + 1, by omega, by go_num, HS.out, below_drewN HB1.out _⟩, by simp [intOf]; omega⟩
            · have hls' : decide (r.vs[k] <= r.vs[k - 1]) = true := by simp; omega
              have HF : Hid (Gate.jF r = false) := HNN.out (by rw [hva, decide_eq_false hls])
              clear hls hn hup hk0 hva
              go_wp2_with fail
              go_quiet ((go_at_call 47; exact Calls.quiet_of_same (zk HN.out (jD _ _ _ _))))
              go_wp2_with fail
              go_ret
              exact ⟨ze HF.out.symm, below_drewN HBW1.out _⟩
        · have HF : Hid (Gate.jF r = Gate.jP r.px) := by
            have e : k = r.vs.length := by omega
            subst e; rw [Hid, HG.out HKD.out, hup]; rfl
          have hltI : ¬ (k : Int) < (r.vs.length : Int) := by omega
          clear hup HG
          go_wp2_with fail
          go_loopw [4] (fun i wi => ∃ n : Nat, n <= r.px.size /\ i = .int .i64 n /\ (r.px.data.toList.take n).all Gate.yu = true /\ wi = W1) (fun i _ => r.px.size - (intOf i).toNat)
          case atStart => exact ⟨0, Nat.zero_le _, rfl, rfl, rfl⟩
          case round =>
            obtain ⟨n, hn16, rfl, hall, rfl⟩ := hrel
            by_cases hn : n < r.px.size
            · have hnI : (n : Int) < (r.px.size : Int) := by omega
              have HS : Hid ((r.px.data.toList.take (n + 1)).all Gate.yu = (true && Gate.yu r.px[n])) := by rw [Gate.zbr _ r.px n hn, hall]; rfl
              have HNo : Hid (Gate.yu r.px[n] = false -> Gate.jP r.px = false) := fun h => Gate.zc2 Gate.yu r.px n hn h
              clear hall
              by_cases hc : Gate.yu r.px[n] = true
              · have HC := hid hc
                clear hc
                go_wp2_with (go_at_call 125; refine (zk HC.out (zcT _ _)).mono ?_; rintro e w' ⟨rfl, rfl⟩)
                exact ⟨⟨n + 1, by omega, by go_num, by rw [HS.out, HC.out]; rfl, trivial⟩, by simp [intOf]; omega⟩
              · have HC : Hid (Gate.yu r.px[n] = false) := by simpa [Hid] using hc
                clear hc
                go_wp2_with (go_at_call 125; refine (zk HC.out (zcT _ _)).mono ?_; rintro e w' ⟨rfl, rfl⟩)
                go_ret
                exact ⟨ze (HF.out.trans (HNo.out HC.out)).symm, HBW1.out⟩
            · have HA : Hid (Gate.jP r.px = true) := by unfold Gate.jP Hid; rw [<- Gate.zaS r.px n (by omega)]; exact hall
              have hnI : ¬ (n : Int) < (r.px.size : Int) := by omega
              clear hall
              go_wp2_with fail
              go_ret
              exact ⟨ze (HF.out.trans HA.out).symm, HBW1.out⟩
end Go.Proofs.YtfapkhgallmkdaaGreat
