import Derived.Test.YtpmlngcljbkchaaGreatM16
import Derived.Test.YtpmlngcljbkchaaGreatM07
import Derived.Test.YtpmlngcljbkchaaGreatM10
import Derived.Test.YtpmlngcljbkchaaGreatM08
import Derived.Test.YtpmlngcljbkchaaGreatM06
import Derived.Test.YtpmlngcljbkchaaGreatM13
import Derived.Test.YtpmlngcljbkchaaGreatM17
import Derived.Test.YtpmlngcljbkchaaGreatM09
namespace Go.Proofs.YtpmlngcljbkchaaGreat
open Go.RowKit

namespace Gate
/-- An ask has nothing but who asks, and a verb. -/
def unused (x : Ak) : Bool := x.kd.toList.isEmpty && (x.nm.toList.isEmpty && (x.tm.toList.isEmpty && (x.hd.toList.isEmpty && (x.to.toList.isEmpty && (decide (x.sn = 0) && (decide (x.no = 0) && (decide (x.vs.length = 0) && (decide (x.hs.length = 0) && (decide (x.r.vs.length = 0) && (x.r.kd.toList.isEmpty && (x.r.tm.toList.isEmpty && x.r.px.toList.isEmpty)))))))))))
def noRule : Rl := ⟨[], ByteArray.empty, ByteArray.empty, ByteArray.empty⟩
/-- An ask without what its verb uses. -/
def restOf (x : Ak) : Ak :=
  if x.vb = 1 then { x with kd := ByteArray.empty, nm := ByteArray.empty, tm := ByteArray.empty, vs := [], hs := [] }
  else if x.vb = 2 then { x with kd := ByteArray.empty, nm := ByteArray.empty, vs := [], sn := 0 }
  else if x.vb = 3 then { x with kd := ByteArray.empty, nm := ByteArray.empty, sn := 0 }
  else if x.vb = 4 then { x with kd := ByteArray.empty, nm := ByteArray.empty, hd := ByteArray.empty }
  else if x.vb = 5 then { x with to := ByteArray.empty, r := noRule }
  else { x with no := 0 }
def keyOk (l : Lw) (x : Ak) : Bool := hasKind l.ss x.kd && nameOk x.nm
def countOk (l : Lw) (x : Ak) : Bool := decide (x.vs.length = (shapeOf l.ss x.kd).fs.length)
def useMake (l : Lw) (x : Ak) : Bool := keyOk l x && (hasTeam l.ts x.tm && (countOk l x && (decide (x.hs.length ≤ 3) && asc x.hs)))
def useChange (l : Lw) (x : Ak) : Bool := keyOk l x && (countOk l x && decide (0 ≤ x.sn))
def useEnd (l : Lw) (x : Ak) : Bool := keyOk l x && decide (0 ≤ x.sn)
def useLetGo (l : Lw) (x : Ak) : Bool := keyOk l x && nameOk x.hd
def useGive (x : Ak) : Bool := nameOk x.to && ruleOk x.r
def useTake (x : Ak) : Bool := decide (1 ≤ x.no)
/-- What a verb uses of an ask is as said. -/
def useOf (l : Lw) (x : Ak) : Bool :=
  if x.vb = 1 then useMake l x
  else if x.vb = 2 then useChange l x
  else if x.vb = 3 then useEnd l x
  else if x.vb = 4 then useLetGo l x
  else if x.vb = 5 then useGive x
  else useTake x
def isAsk (l : Lw) (x : Ak) : Bool := (nameOk x.who && within x.vb 1 6) && (useOf l x && unused (restOf x))
end Gate

end Go.Proofs.YtpmlngcljbkchaaGreat

namespace Go.Proofs.YtpmlngcljbkchaaGreat
open Go.RowKit

set_option maxHeartbeats 400000 in
theorem l4Team_any (a : Option Addr) (cap : Nat) (ts : List Tm) (v : ByteArray) (w : World) (hw : TmsAt w a ts) :
    Calls Tryz.prog 42 #[.slice a ts.length cap, .string v] w fun e w' => e = .returned (.bool (Gate.hasTeam ts v)) ∧ w' = w := by
  have hl := hw.len
  unfold maxLen at hl
  go_enter Tryz.func42, Tryz.ntmps42
  go_wp2_with fail
  go_loop [5] (fun i => ∃ k : Nat, k ≤ ts.length ∧ i = .int .i64 k ∧ Gate.hasTeam (ts.take k) v = false) (fun i => ts.length - (intOf i).toNat)
  case atStart => exact ⟨0, Nat.zero_le _, rfl, rfl⟩
  case round =>
    obtain ⟨k, hk, rfl, hall⟩ := hrel
    by_cases hlt : k < ts.length
    · obtain ⟨b, off, rfl, hb, c0, c1⟩ := hw.load (Below.refl _ _) k hlt
      clear hw
      have HS : Hid (Gate.hasTeam (ts.take (k + 1)) v = (false || decide (ts[k].nm = v))) := by rw [Gate.hasTeam_snoc ts v k hlt, hall]; rfl
      have hltI : (k : Int) < (ts.length : Int) := by omega
      by_cases he : ts[k].nm = v
      · have hbe : (ts[k].nm.toList == v.toList) = true := by rw [Gate.beq_toList]; simpa using he
        have HR : Hid (Gate.hasTeam ts v = true) := Gate.hasTeam_at ts v k hlt he
        clear he hall
        go_wp2_with fail
        go_ret
        exact ⟨ret_bool HR.out.symm, rfl⟩
      · have hbe : (ts[k].nm.toList == v.toList) = false := by rw [Gate.beq_toList]; simpa using he
        have HE : Hid (¬ ts[k].nm = v) := he
        clear he hall
        go_wp2_with fail
        go_round
        case rel => exact ⟨k + 1, by omega, by go_num, by rw [HS.out, decide_eq_false HE.out]; rfl⟩
        case measure => simp [intOf]; omega
    · have HR : Hid (Gate.hasTeam ts v = false) := by rw [← Gate.hasTeam_all ts v k (by omega)]; exact hall
      clear hall hw
      go_wp2_with fail
      go_ret
      exact ⟨ret_bool HR.out.symm, rfl⟩

theorem Gate.climbS_empty (ts : List Tm) (m : Nat) (z : ByteArray) (h : z.size = 0) : Gate.climbS ts m z = z := by
  cases m with
  | zero => rfl
  | succ m => unfold Gate.climbS; rw [if_pos h]
theorem Gate.climbS_step (ts : List Tm) (m : Nat) (z : ByteArray) (h : ¬ z.size = 0) : Gate.climbS ts (m + 1) z = Gate.climbS ts m (Gate.over ts z) := by
  rw [Gate.climbS, if_neg h]

set_option maxHeartbeats 1000000 in
theorem specTeamsOk_any (a : Option Addr) (cap : Nat) (ts : List Tm) (w : World) (hw : TmsAt w a ts) :
    Calls Tryz.prog 36 #[.slice a ts.length cap] w fun e w' => e = .returned (.bool (Gate.teamsOkS ts)) ∧ Below w.heap.size w w' := by
  have hl := hw.len
  unfold maxLen at hl
  by_cases h12 : ts.length ≤ 12
  rotate_left
  · have HF : Hid (Gate.teamsOkS ts = false) := by simp [Hid, Gate.teamsOkS, h12]
    clear hw
    go_enter Tryz.func36, Tryz.ntmps36
    go_wp2_with fail
    go_ret
    exact ⟨ret_bool HF.out.symm, Below.refl _ _⟩
  have HG : Hid (Gate.teamsOkS ts = Gate.up (Gate.teamAtS ts) ts.length) := by simp [Hid, Gate.teamsOkS, h12]
  have h12I : (ts.length : Int) ≤ 12 := by omega
  have HW0 : Hid (TmsAt w a ts) := hw
  clear hw
  go_enter Tryz.func36, Tryz.ntmps36
  go_wp2_with fail
  go_loopw [3] (fun i wr => ∃ k : Nat, k ≤ ts.length ∧ i = .int .i64 k ∧ Gate.up (Gate.teamAtS ts) k = true ∧ Below w.heap.size w wr) (fun i _ => ts.length - (intOf i).toNat)
  case atStart => exact ⟨0, Nat.zero_le _, rfl, rfl, Below.refl _ _⟩
  case round =>
    obtain ⟨k, hk, rfl, hup, hB⟩ := hrel
    obtain ⟨W0, rfl⟩ : ∃ W0, W0 = wr := ⟨wr, rfl⟩
    have hsz := hB.size
    by_cases hlt : k < ts.length
    · obtain ⟨b, off, rfl, hb, c0, c1⟩ := HW0.out.load hB k hlt
      have hbr : b < W0.heap.size := by omega
      have hsm := HW0.out.small k hlt
      have hsn := hsm.nm
      have HS : Hid (Gate.teamAt ts k = true → Gate.deepS ts k = true → Gate.up (Gate.teamAtS ts) (k + 1) = true) := fun h h' => by rw [Gate.up_succ, hup, Gate.teamAtS, h, h']; rfl
      have HN : Hid (Gate.teamAt ts k = false → Gate.teamsOkS ts = false) := fun h => by rw [HG.out]; exact Gate.up_not hlt (by rw [Gate.teamAtS, h]; rfl)
      have HD : Hid (Gate.deepS ts k = false → Gate.teamsOkS ts = false) := fun h => by rw [HG.out]; exact Gate.up_not hlt (by rw [Gate.teamAtS, h, Bool.and_false])
      have HDS : Hid (Gate.deepS ts k = decide ((Gate.climbS ts 5 ts[k].nm).size = 0)) := by unfold Hid Gate.deepS; rw [Gate.getD_at ts k _ hlt]
      have hltI : (k : Int) < (ts.length : Int) := by omega
      have HB : Hid (Below w.heap.size w W0) := hB
      have HBx : Hid (∀ (ob : Obj) (n : Nat), Below W0.heap.size W0 ((W0.alloc ob).drewN n)) := fun ob n => below_drewN ((Below.refl _ _).alloc (Nat.le_refl _) _) _
      have HWr : Hid (∀ (ob : Obj) (n : Nat), TmsAt ((W0.alloc ob).drewN n) (some ⟨b, off, none⟩) ts) := fun ob n => (HW0.out.mono hB).mono (below_drewN ((Below.refl _ _).alloc (Nat.le_refl _) _) _)
      clear hup hsm hB
      by_cases hn : Gate.nameOk ts[k].nm = true
      rotate_left
      · have HNm : Hid (Gate.nameOk ts[k].nm = false) := by simpa [Hid] using hn
        have HF : Hid (Gate.teamAt ts k = false) := by unfold Hid; rw [Gate.teamAt_at ts k hlt _ rfl, HNm.out]; rfl
        clear hn
        go_wp2_with fail
        go_quiet ((go_at_call 37; exact Calls.quiet_of_same (as_bool HNm.out (l1NameOk_any _ _ hsn))))
        go_wp2_with fail
        go_ret
        exact ⟨ret_bool (HN.out HF.out).symm, HB.out.trans ((HBx.out _ _).mono hsz)⟩
      have HNm : Hid (Gate.nameOk ts[k].nm = true) := hn
      clear hn
      by_cases hbad : 0 < k ∧ Gate.less (ts.getD (k - 1) Gate.noTeam).nm ts[k].nm = false
      · obtain ⟨hkpos, hls⟩ := hbad
        have HF : Hid (Gate.teamAt ts k = false) := by
          unfold Hid; rw [Gate.teamAt_at ts k hlt false (by rw [hls, decide_eq_false (show ¬ k = 0 by omega)]; rfl)]; simp
        obtain ⟨m, rfl⟩ : ∃ m, k = m + 1 := ⟨k - 1, by omega⟩
        rw [Nat.add_sub_cancel, Gate.getD_at ts m _ (by omega)] at hls
        obtain ⟨b', off', e', hb', d0, d1⟩ := HW0.out.load HB.out m (by omega)
        simp only [Option.some.injEq, Addr.mk.injEq] at e'
        obtain ⟨rfl, rfl, _⟩ := e'
        have hls' : Op.bytesLess ts[m].nm.toList ts[m + 1].nm.toList = false := hls
        have hmI : (m : Int) < 12 := by omega
        have hm0 : (0 : Int) ≤ (m : Int) := by omega
        have hml : (m : Int) < (ts.length : Int) := by omega
        have hmw : IntKind.i64.wrap (m : Int) = m := by rw [IntKind.wrap_i64]; omega
        clear hls
        go_wp2_with fail
        go_quiet ((go_at_call 37; exact Calls.quiet_of_same (as_bool HNm.out (l1NameOk_any _ _ hsn))))
        go_wp2_with fail
        go_ret
        exact ⟨ret_bool (HN.out HF.out).symm, HB.out.trans ((HBx.out _ _).mono hsz)⟩
      have hgd : (decide (k = 0) || Gate.less (ts.getD (k - 1) Gate.noTeam).nm ts[k].nm) = true := by
        by_cases hk0 : k = 0
        · simp [hk0]
        · cases hq : Gate.less (ts.getD (k - 1) Gate.noTeam).nm ts[k].nm
          · exact absurd ⟨by omega, hq⟩ hbad
          · simp
      have HA : Hid (Gate.teamAt ts k = (ts[k].ov.toList.isEmpty || Gate.hasTeam ts ts[k].ov)) := by
        unfold Hid; rw [Gate.teamAt_at ts k hlt true hgd, HNm.out]; rfl
      have hgood : (decide (0 < k) = false) ∨ (decide (0 < k) = true ∧ (0 : Int) ≤ (k : Int) - 1 ∧ (k : Int) - 1 < (ts.length : Int) ∧ ∃ h : k - 1 < ts.length, Op.bytesLess ts[k - 1].nm.toList ts[k].nm.toList = true ∧ W0.cell? ⟨b, off + (k - 1) * 2, none⟩ = some (.string ts[k - 1].nm)) := by
        by_cases hk0 : k = 0
        · exact Or.inl (by simp; omega)
        · refine Or.inr ⟨by simp; omega, by omega, by omega, by omega, ?_, ?_⟩
          · rw [decide_eq_false hk0, Gate.getD_at ts (k - 1) _ (by omega)] at hgd
            exact hgd
          · obtain ⟨b', off', e', hb', d0, d1⟩ := HW0.out.load HB.out (k - 1) (by omega)
            simp only [Option.some.injEq, Addr.mk.injEq] at e'
            obtain ⟨rfl, rfl, _⟩ := e'
            exact d0
      clear hbad hgd
      by_cases hov : ts[k].ov.toList.isEmpty = true
      · have HT : Hid (Gate.teamAt ts k = true) := by unfold Hid; rw [HA.out, hov]; rfl
        rcases hgood with hg | ⟨hg, hk1, hk2, hkm, hls', d0⟩
        · go_wp2_with fail
          go_quiet ((go_at_call 37; exact Calls.quiet_of_same (as_bool HNm.out (l1NameOk_any _ _ hsn))))
          go_wp2_with fail
          obtain ⟨W1, hW1⟩ : ∃ W1, W1 = (W0.alloc (.cells #[.string ts[k].nm, .string ts[k].ov] 92)).drewN nq := ⟨_, rfl⟩
          have HB1 : Hid (Below w.heap.size w W1) := by unfold Hid; rw [hW1]; exact HB.out.trans ((HBx.out _ _).mono hsz)
          have HW1 : Hid (TmsAt W1 (some ⟨b, off, none⟩) ts) := HW0.out.mono HB1.out
          rw [← hW1]
          clear hW1
          go_loopw [5, 6] (fun p i wi => ∃ (n : Nat) (z : ByteArray), n ≤ 5 ∧ p = .string z ∧ i = .int .i64 n ∧ Gate.climbS ts 5 ts[k].nm = Gate.climbS ts (5 - n) z ∧ wi = W1) (fun _ i _ => 5 - (intOf i).toNat)
          case atStart => exact ⟨0, ts[k].nm, Nat.zero_le _, rfl, rfl, rfl, rfl⟩
          case round =>
            obtain ⟨n, z, hn5, rfl, rfl, hz, rfl⟩ := hrel
            by_cases hn : n < 5
            · have hnI : (n : Int) ≤ 4 := by omega
              by_cases hz0 : z.size = 0
              · have hze : z.toList.isEmpty = true := by rw [Gate.isEmpty_of_size]; simpa using hz0
                have HDT : Hid (Gate.deepS ts (k) = true) := by unfold Hid; rw [HDS.out, hz, Gate.climbS_empty ts _ z hz0]; simpa using hz0
                clear hz hz0
                go_wp2_with fail
                exact ⟨⟨k + 1, by omega, by go_num, HS.out HT.out HDT.out, HB1.out⟩, by simp [intOf]; omega⟩
              · have hze : z.toList.isEmpty = false := by rw [Gate.isEmpty_of_size]; simpa using hz0
                have HZ : Hid (Gate.climbS ts 5 ts[k].nm = Gate.climbS ts (5 - (n + 1)) (Gate.over ts z)) := by
                  obtain ⟨q, hq⟩ : ∃ q, 5 - n = q + 1 := ⟨4 - n, by omega⟩
                  rw [Hid, hz, hq, Gate.climbS_step ts q z hz0, show 5 - (n + 1) = q by omega]
                clear hz hz0
                go_wp2_with (go_at_call 63; refine (l4Over_any _ _ ts _ _ HW1.out).mono ?_; rintro e w' ⟨rfl, rfl⟩)
                exact ⟨⟨n + 1, Gate.over ts z, by omega, rfl, by go_num, HZ.out, trivial⟩, by simp [intOf]; omega⟩
            · have e5 : 5 - n = 0 := by omega
              rw [e5] at hz
              have hnI : ¬ (n : Int) ≤ 4 := by omega
              by_cases hz0 : z.size = 0
              · have hze : z.toList.isEmpty = true := by rw [Gate.isEmpty_of_size]; simpa using hz0
                have HDT : Hid (Gate.deepS ts (k) = true) := by unfold Hid; rw [HDS.out, hz]; simpa [Gate.climbS] using hz0
                clear hz hz0
                go_wp2_with fail
                exact ⟨⟨k + 1, by omega, by go_num, HS.out HT.out HDT.out, HB1.out⟩, by simp [intOf]; omega⟩
              · have hze : z.toList.isEmpty = false := by rw [Gate.isEmpty_of_size]; simpa using hz0
                have HDT : Hid (Gate.deepS ts (k) = false) := by unfold Hid; rw [HDS.out, hz]; simpa [Gate.climbS] using hz0
                clear hz hz0
                go_wp2_with fail
                go_ret
                exact ⟨ret_bool (HD.out HDT.out).symm, HB1.out⟩
        · go_wp2_with fail
          go_quiet ((go_at_call 37; exact Calls.quiet_of_same (as_bool HNm.out (l1NameOk_any _ _ hsn))))
          go_wp2_with fail
          obtain ⟨W1, hW1⟩ : ∃ W1, W1 = (W0.alloc (.cells #[.string ts[k].nm, .string ts[k].ov] 92)).drewN nq := ⟨_, rfl⟩
          have HB1 : Hid (Below w.heap.size w W1) := by unfold Hid; rw [hW1]; exact HB.out.trans ((HBx.out _ _).mono hsz)
          have HW1 : Hid (TmsAt W1 (some ⟨b, off, none⟩) ts) := HW0.out.mono HB1.out
          rw [← hW1]
          clear hW1
          go_loopw [5, 6] (fun p i wi => ∃ (n : Nat) (z : ByteArray), n ≤ 5 ∧ p = .string z ∧ i = .int .i64 n ∧ Gate.climbS ts 5 ts[k].nm = Gate.climbS ts (5 - n) z ∧ wi = W1) (fun _ i _ => 5 - (intOf i).toNat)
          case atStart => exact ⟨0, ts[k].nm, Nat.zero_le _, rfl, rfl, rfl, rfl⟩
          case round =>
            obtain ⟨n, z, hn5, rfl, rfl, hz, rfl⟩ := hrel
            by_cases hn : n < 5
            · have hnI : (n : Int) ≤ 4 := by omega
              by_cases hz0 : z.size = 0
              · have hze : z.toList.isEmpty = true := by rw [Gate.isEmpty_of_size]; simpa using hz0
                have HDT : Hid (Gate.deepS ts (k) = true) := by unfold Hid; rw [HDS.out, hz, Gate.climbS_empty ts _ z hz0]; simpa using hz0
                clear hz hz0
                go_wp2_with fail
                exact ⟨⟨k + 1, by omega, by go_num, HS.out HT.out HDT.out, HB1.out⟩, by simp [intOf]; omega⟩
              · have hze : z.toList.isEmpty = false := by rw [Gate.isEmpty_of_size]; simpa using hz0
                have HZ : Hid (Gate.climbS ts 5 ts[k].nm = Gate.climbS ts (5 - (n + 1)) (Gate.over ts z)) := by
                  obtain ⟨q, hq⟩ : ∃ q, 5 - n = q + 1 := ⟨4 - n, by omega⟩
                  rw [Hid, hz, hq, Gate.climbS_step ts q z hz0, show 5 - (n + 1) = q by omega]
                clear hz hz0
                go_wp2_with (go_at_call 63; refine (l4Over_any _ _ ts _ _ HW1.out).mono ?_; rintro e w' ⟨rfl, rfl⟩)
                exact ⟨⟨n + 1, Gate.over ts z, by omega, rfl, by go_num, HZ.out, trivial⟩, by simp [intOf]; omega⟩
            · have e5 : 5 - n = 0 := by omega
              rw [e5] at hz
              have hnI : ¬ (n : Int) ≤ 4 := by omega
              by_cases hz0 : z.size = 0
              · have hze : z.toList.isEmpty = true := by rw [Gate.isEmpty_of_size]; simpa using hz0
                have HDT : Hid (Gate.deepS ts (k) = true) := by unfold Hid; rw [HDS.out, hz]; simpa [Gate.climbS] using hz0
                clear hz hz0
                go_wp2_with fail
                exact ⟨⟨k + 1, by omega, by go_num, HS.out HT.out HDT.out, HB1.out⟩, by simp [intOf]; omega⟩
              · have hze : z.toList.isEmpty = false := by rw [Gate.isEmpty_of_size]; simpa using hz0
                have HDT : Hid (Gate.deepS ts (k) = false) := by unfold Hid; rw [HDS.out, hz]; simpa [Gate.climbS] using hz0
                clear hz hz0
                go_wp2_with fail
                go_ret
                exact ⟨ret_bool (HD.out HDT.out).symm, HB1.out⟩
      · have hov' : ts[k].ov.toList.isEmpty = false := by simpa using hov
        clear hov
        by_cases hit : Gate.hasTeam ts ts[k].ov = true
        · have HI : Hid (Gate.hasTeam ts ts[k].ov = true) := hit
          have HT : Hid (Gate.teamAt ts k = true) := by unfold Hid; rw [HA.out, hit]; simp
          clear hit
          rcases hgood with hg | ⟨hg, hk1, hk2, hkm, hls', d0⟩
          · go_wp2_with fail
            go_quiet (first | (go_at_call 37; exact Calls.quiet_of_same (as_bool HNm.out (l1NameOk_any _ _ hsn))) | (go_at_call 42; exact Calls.quiet_of_same (as_bool HI.out (l4Team_any _ _ ts _ _ (by exact HWr.out _ _)))))
            go_wp2_with fail
            obtain ⟨W1, hW1⟩ : ∃ W1, W1 = (W0.alloc (.cells #[.string ts[k].nm, .string ts[k].ov] 92)).drewN nq := ⟨_, rfl⟩
            have HB1 : Hid (Below w.heap.size w W1) := by unfold Hid; rw [hW1]; exact HB.out.trans ((HBx.out _ _).mono hsz)
            have HW1 : Hid (TmsAt W1 (some ⟨b, off, none⟩) ts) := HW0.out.mono HB1.out
            rw [← hW1]
            clear hW1
            go_loopw [5, 6] (fun p i wi => ∃ (n : Nat) (z : ByteArray), n ≤ 5 ∧ p = .string z ∧ i = .int .i64 n ∧ Gate.climbS ts 5 ts[k].nm = Gate.climbS ts (5 - n) z ∧ wi = W1) (fun _ i _ => 5 - (intOf i).toNat)
            case atStart => exact ⟨0, ts[k].nm, Nat.zero_le _, rfl, rfl, rfl, rfl⟩
            case round =>
              obtain ⟨n, z, hn5, rfl, rfl, hz, rfl⟩ := hrel
              by_cases hn : n < 5
              · have hnI : (n : Int) ≤ 4 := by omega
                by_cases hz0 : z.size = 0
                · have hze : z.toList.isEmpty = true := by rw [Gate.isEmpty_of_size]; simpa using hz0
                  have HDT : Hid (Gate.deepS ts (k) = true) := by unfold Hid; rw [HDS.out, hz, Gate.climbS_empty ts _ z hz0]; simpa using hz0
                  clear hz hz0
                  go_wp2_with fail
                  exact ⟨⟨k + 1, by omega, by go_num, HS.out HT.out HDT.out, HB1.out⟩, by simp [intOf]; omega⟩
                · have hze : z.toList.isEmpty = false := by rw [Gate.isEmpty_of_size]; simpa using hz0
                  have HZ : Hid (Gate.climbS ts 5 ts[k].nm = Gate.climbS ts (5 - (n + 1)) (Gate.over ts z)) := by
                    obtain ⟨q, hq⟩ : ∃ q, 5 - n = q + 1 := ⟨4 - n, by omega⟩
                    rw [Hid, hz, hq, Gate.climbS_step ts q z hz0, show 5 - (n + 1) = q by omega]
                  clear hz hz0
                  go_wp2_with (go_at_call 63; refine (l4Over_any _ _ ts _ _ HW1.out).mono ?_; rintro e w' ⟨rfl, rfl⟩)
                  exact ⟨⟨n + 1, Gate.over ts z, by omega, rfl, by go_num, HZ.out, trivial⟩, by simp [intOf]; omega⟩
              · have e5 : 5 - n = 0 := by omega
                rw [e5] at hz
                have hnI : ¬ (n : Int) ≤ 4 := by omega
                by_cases hz0 : z.size = 0
                · have hze : z.toList.isEmpty = true := by rw [Gate.isEmpty_of_size]; simpa using hz0
                  have HDT : Hid (Gate.deepS ts (k) = true) := by unfold Hid; rw [HDS.out, hz]; simpa [Gate.climbS] using hz0
                  clear hz hz0
                  go_wp2_with fail
                  exact ⟨⟨k + 1, by omega, by go_num, HS.out HT.out HDT.out, HB1.out⟩, by simp [intOf]; omega⟩
                · have hze : z.toList.isEmpty = false := by rw [Gate.isEmpty_of_size]; simpa using hz0
                  have HDT : Hid (Gate.deepS ts (k) = false) := by unfold Hid; rw [HDS.out, hz]; simpa [Gate.climbS] using hz0
                  clear hz hz0
                  go_wp2_with fail
                  go_ret
                  exact ⟨ret_bool (HD.out HDT.out).symm, HB1.out⟩
          · go_wp2_with fail
            go_quiet (first | (go_at_call 37; exact Calls.quiet_of_same (as_bool HNm.out (l1NameOk_any _ _ hsn))) | (go_at_call 42; exact Calls.quiet_of_same (as_bool HI.out (l4Team_any _ _ ts _ _ (by exact HWr.out _ _)))))
            go_wp2_with fail
            obtain ⟨W1, hW1⟩ : ∃ W1, W1 = (W0.alloc (.cells #[.string ts[k].nm, .string ts[k].ov] 92)).drewN nq := ⟨_, rfl⟩
            have HB1 : Hid (Below w.heap.size w W1) := by unfold Hid; rw [hW1]; exact HB.out.trans ((HBx.out _ _).mono hsz)
            have HW1 : Hid (TmsAt W1 (some ⟨b, off, none⟩) ts) := HW0.out.mono HB1.out
            rw [← hW1]
            clear hW1
            go_loopw [5, 6] (fun p i wi => ∃ (n : Nat) (z : ByteArray), n ≤ 5 ∧ p = .string z ∧ i = .int .i64 n ∧ Gate.climbS ts 5 ts[k].nm = Gate.climbS ts (5 - n) z ∧ wi = W1) (fun _ i _ => 5 - (intOf i).toNat)
            case atStart => exact ⟨0, ts[k].nm, Nat.zero_le _, rfl, rfl, rfl, rfl⟩
            case round =>
              obtain ⟨n, z, hn5, rfl, rfl, hz, rfl⟩ := hrel
              by_cases hn : n < 5
              · have hnI : (n : Int) ≤ 4 := by omega
                by_cases hz0 : z.size = 0
                · have hze : z.toList.isEmpty = true := by rw [Gate.isEmpty_of_size]; simpa using hz0
                  have HDT : Hid (Gate.deepS ts (k) = true) := by unfold Hid; rw [HDS.out, hz, Gate.climbS_empty ts _ z hz0]; simpa using hz0
                  clear hz hz0
                  go_wp2_with fail
                  exact ⟨⟨k + 1, by omega, by go_num, HS.out HT.out HDT.out, HB1.out⟩, by simp [intOf]; omega⟩
                · have hze : z.toList.isEmpty = false := by rw [Gate.isEmpty_of_size]; simpa using hz0
                  have HZ : Hid (Gate.climbS ts 5 ts[k].nm = Gate.climbS ts (5 - (n + 1)) (Gate.over ts z)) := by
                    obtain ⟨q, hq⟩ : ∃ q, 5 - n = q + 1 := ⟨4 - n, by omega⟩
                    rw [Hid, hz, hq, Gate.climbS_step ts q z hz0, show 5 - (n + 1) = q by omega]
                  clear hz hz0
                  go_wp2_with (go_at_call 63; refine (l4Over_any _ _ ts _ _ HW1.out).mono ?_; rintro e w' ⟨rfl, rfl⟩)
                  exact ⟨⟨n + 1, Gate.over ts z, by omega, rfl, by go_num, HZ.out, trivial⟩, by simp [intOf]; omega⟩
              · have e5 : 5 - n = 0 := by omega
                rw [e5] at hz
                have hnI : ¬ (n : Int) ≤ 4 := by omega
                by_cases hz0 : z.size = 0
                · have hze : z.toList.isEmpty = true := by rw [Gate.isEmpty_of_size]; simpa using hz0
                  have HDT : Hid (Gate.deepS ts (k) = true) := by unfold Hid; rw [HDS.out, hz]; simpa [Gate.climbS] using hz0
                  clear hz hz0
                  go_wp2_with fail
                  exact ⟨⟨k + 1, by omega, by go_num, HS.out HT.out HDT.out, HB1.out⟩, by simp [intOf]; omega⟩
                · have hze : z.toList.isEmpty = false := by rw [Gate.isEmpty_of_size]; simpa using hz0
                  have HDT : Hid (Gate.deepS ts (k) = false) := by unfold Hid; rw [HDS.out, hz]; simpa [Gate.climbS] using hz0
                  clear hz hz0
                  go_wp2_with fail
                  go_ret
                  exact ⟨ret_bool (HD.out HDT.out).symm, HB1.out⟩
        · have HI : Hid (Gate.hasTeam ts ts[k].ov = false) := by simpa [Hid] using hit
          have HF : Hid (Gate.teamAt ts k = false) := by unfold Hid; rw [HA.out, HI.out, hov']; rfl
          clear hit
          rcases hgood with hg | ⟨hg, hk1, hk2, hkm, hls', d0⟩
          · go_wp2_with fail
            go_quiet (first | (go_at_call 37; exact Calls.quiet_of_same (as_bool HNm.out (l1NameOk_any _ _ hsn))) | (go_at_call 42; exact Calls.quiet_of_same (as_bool HI.out (l4Team_any _ _ ts _ _ (by exact HWr.out _ _)))))
            go_wp2_with fail
            go_ret
            exact ⟨ret_bool (HN.out HF.out).symm, HB.out.trans ((HBx.out _ _).mono hsz)⟩
          · go_wp2_with fail
            go_quiet (first | (go_at_call 37; exact Calls.quiet_of_same (as_bool HNm.out (l1NameOk_any _ _ hsn))) | (go_at_call 42; exact Calls.quiet_of_same (as_bool HI.out (l4Team_any _ _ ts _ _ (by exact HWr.out _ _)))))
            go_wp2_with fail
            go_ret
            exact ⟨ret_bool (HN.out HF.out).symm, HB.out.trans ((HBx.out _ _).mono hsz)⟩
    · have HF : Hid (Gate.teamsOkS ts = true) := by
        have e : k = ts.length := by omega
        subst e; rw [Hid, HG.out, hup]
      clear hup
      go_wp2_with fail
      go_ret
      exact ⟨ret_bool HF.out.symm, hB⟩

end Go.Proofs.YtpmlngcljbkchaaGreat

namespace Go.Proofs.YtpmlngcljbkchaaGreat
open Go.RowKit

set_option maxHeartbeats 400000 in
theorem nameIs_any (nm : ByteArray) (kd ls ms : Int) (sl : Value) (to : ByteArray) (rl : Int) (mu fx : Bool) (df wg : ByteArray) (v : ByteArray) (bn : Nat) (w : World) (hb : bn < w.heap.size) (hn : w.cell? ⟨bn, 0, none⟩ = some (.string v)) :
    Calls Tryz.prog 106 #[.agg #[.string nm, .int .i64 kd, .int .i64 ls, .int .i64 ms, sl, .string to, .int .i64 rl, .bool mu, .bool fx, .string df, .string wg], .pointer (some ⟨bn, 0, none⟩)] w fun e w' => e = .returned (.bool (nm.toList == v.toList)) ∧ Below w.heap.size w w' := by
  go_enter Tryz.func106, Tryz.ntmps106
  go_wp2
  go_ret
  exact ⟨rfl, (Below.refl _ _).alloc (Nat.le_refl _) _⟩

set_option maxHeartbeats 1000000 in
theorem IndexFunc_any (a : Option Addr) (cap : Nat) (fs : List Fld) (v : ByteArray) (bn : Nat) (w : World) (hw : FldsAt w a fs) (hbn : bn < w.heap.size) (hn : w.cell? ⟨bn, 0, none⟩ = some (.string v)) :
    Calls Tryz.prog 105 #[.slice a fs.length cap, .func (.func 106) #[] #[.pointer (some ⟨bn, 0, none⟩)]] w fun e w' => e = .returned (.int .i64 (Gate.fieldIx fs v)) ∧ Below w.heap.size w w' := by
  have hl := hw.len
  unfold maxLen at hl
  go_enter Tryz.func105, Tryz.ntmps105
  go_wp2
  go_loopw [8] (fun i wr => ∃ k : Nat, k ≤ fs.length ∧ i = .int .i64 k ∧ Gate.hasName (fs.take k) v = false ∧ Below w.heap.size w wr) (fun i _ => fs.length - (intOf i).toNat)
  case atStart => exact ⟨0, Nat.zero_le _, rfl, rfl, Below.refl _ _⟩
  case round =>
    obtain ⟨k, hk, rfl, hno, hB⟩ := hrel
    by_cases hlt : k < fs.length
    · obtain ⟨b, off, rfl, hb, hr⟩ := hw.rows (by rintro rfl; simp at hlt)
      obtain ⟨wa, wcap, hf⟩ := hr k hlt
      obtain ⟨c0, c1, c2, c3, c4, c5, c6, c7, c8, c9, c10⟩ := (hf.mono hb hB).load
      have hn1 := (hB.cell (p := ⟨bn, 0, none⟩) hbn).trans hn
      have hbn1 : bn < wr.heap.size := Nat.lt_of_lt_of_le hbn hB.size
      clear hw hr hf hn
      by_cases he : fs[k].nm = v
      · have HA : Hid (Gate.fieldIx fs v = k) := Gate.fieldIx_at fs v k hlt hno he
        have HE : Hid ((fs[k].nm.toList == v.toList) = true) := by unfold Hid; rw [Gate.beq_toList]; simpa using he
        clear he hno
        go_wp2_with fail
        refine (as_bool HE.out (nameIs_any _ _ _ _ _ _ _ _ _ _ _ _ _ _ hbn1 hn1)).mono ?_
        rintro e w2 ⟨rfl, hb2⟩
        go_wp2_with fail
        go_ret
        exact ⟨ret_int HA.out.symm, hB.trans (hb2.mono hB.size)⟩
      · have HS : Hid (Gate.hasName (fs.take (k + 1)) v = false) := by unfold Hid; rw [Gate.hasName_snoc fs v k hlt, hno, decide_eq_false he]; rfl
        have HE : Hid ((fs[k].nm.toList == v.toList) = false) := by unfold Hid; rw [Gate.beq_toList]; simpa using he
        clear he hno
        go_wp2_with fail
        refine (as_bool HE.out (nameIs_any _ _ _ _ _ _ _ _ _ _ _ _ _ _ hbn1 hn1)).mono ?_
        rintro e w2 ⟨rfl, hb2⟩
        go_wp2_with fail
        exact ⟨⟨k + 1, by omega, by go_num, HS.out, hB.trans (hb2.mono hB.size)⟩, by simp [intOf]; omega⟩
    · have HA : Hid (Gate.fieldIx fs v = -1) := Gate.fieldIx_none fs v (by rw [← Gate.hasName_all fs v k (by omega)]; exact hno)
      clear hno hw
      go_wp2
      go_ret
      exact ⟨ret_int HA.out.symm, hB⟩

set_option maxHeartbeats 400000 in
theorem fieldPlace_any (a : Option Addr) (cap : Nat) (fs : List Fld) (v : ByteArray) (w : World) (hw : FldsAt w a fs) :
    Calls Tryz.prog 93 #[.slice a fs.length cap, .string v] w fun e w' => e = .returned (.int .i64 (Gate.fieldIx fs v)) ∧ Below w.heap.size w w' := by
  go_enter Tryz.func93, Tryz.ntmps93
  go_wp2_with fail
  refine (IndexFunc_any _ _ _ v _ _ (hw.mono ((Below.refl _ _).alloc (Nat.le_refl _) _)) (by simp) (by rw [World.cell?_alloc_at _ _ _ _ rfl]; rfl)).mono ?_
  rintro e w2 ⟨rfl, hb2⟩
  go_wp2_with fail
  go_ret
  exact ⟨rfl, ((Below.refl _ _).alloc (Nat.le_refl _) _).trans (hb2.mono (by simp))⟩

end Go.Proofs.YtpmlngcljbkchaaGreat

namespace Go.Proofs.YtpmlngcljbkchaaGreat
open Go.RowKit

set_option maxHeartbeats 1000000 in
theorem specBare_1 (nm : ByteArray) (ls ms : Int) (a : Option Addr) (n cap : Nat) (to : ByteArray) (rl : Int) (mu fx : Bool) (df wg : ByteArray) (w : World) :
    Calls Tryz.prog 102 #[.agg #[.string nm, .int .i64 1, .int .i64 ls, .int .i64 ms, .slice a n cap, .string to, .int .i64 rl, .bool mu, .bool fx, .string df, .string wg]] w fun e w' => e = .returned (.bool (Gate.bareOf 1 ls ms n to rl wg)) ∧ Below w.heap.size w w' := by
  go_enter Tryz.func102, Tryz.ntmps102
  go_wp2
  all_goals
    go_ret
    refine ⟨ret_bool ?_, (Below.refl _ _).alloc (Nat.le_refl _) _⟩
    simp_all [Gate.bareOf]
    try first | omega | (intros; omega) | (rw [Bool.eq_iff_iff]; simp)

set_option maxHeartbeats 1000000 in
theorem specBare_2 (nm : ByteArray) (ls ms : Int) (a : Option Addr) (n cap : Nat) (to : ByteArray) (rl : Int) (mu fx : Bool) (df wg : ByteArray) (w : World) :
    Calls Tryz.prog 102 #[.agg #[.string nm, .int .i64 2, .int .i64 ls, .int .i64 ms, .slice a n cap, .string to, .int .i64 rl, .bool mu, .bool fx, .string df, .string wg]] w fun e w' => e = .returned (.bool (Gate.bareOf 2 ls ms n to rl wg)) ∧ Below w.heap.size w w' := by
  go_enter Tryz.func102, Tryz.ntmps102
  go_wp2
  all_goals
    go_ret
    refine ⟨ret_bool ?_, (Below.refl _ _).alloc (Nat.le_refl _) _⟩
    simp_all [Gate.bareOf]
    try first | omega | (intros; omega) | (rw [Bool.eq_iff_iff]; simp)

set_option maxHeartbeats 1000000 in
theorem specBare_3 (nm : ByteArray) (ls ms : Int) (a : Option Addr) (n cap : Nat) (to : ByteArray) (rl : Int) (mu fx : Bool) (df wg : ByteArray) (w : World) :
    Calls Tryz.prog 102 #[.agg #[.string nm, .int .i64 3, .int .i64 ls, .int .i64 ms, .slice a n cap, .string to, .int .i64 rl, .bool mu, .bool fx, .string df, .string wg]] w fun e w' => e = .returned (.bool (Gate.bareOf 3 ls ms n to rl wg)) ∧ Below w.heap.size w w' := by
  go_enter Tryz.func102, Tryz.ntmps102
  go_wp2
  all_goals
    go_ret
    refine ⟨ret_bool ?_, (Below.refl _ _).alloc (Nat.le_refl _) _⟩
    simp_all [Gate.bareOf]
    try first | omega | (intros; omega) | (rw [Bool.eq_iff_iff]; simp)

set_option maxHeartbeats 1000000 in
theorem specBare_4 (nm : ByteArray) (ls ms : Int) (a : Option Addr) (n cap : Nat) (to : ByteArray) (rl : Int) (mu fx : Bool) (df wg : ByteArray) (w : World) :
    Calls Tryz.prog 102 #[.agg #[.string nm, .int .i64 4, .int .i64 ls, .int .i64 ms, .slice a n cap, .string to, .int .i64 rl, .bool mu, .bool fx, .string df, .string wg]] w fun e w' => e = .returned (.bool (Gate.bareOf 4 ls ms n to rl wg)) ∧ Below w.heap.size w w' := by
  go_enter Tryz.func102, Tryz.ntmps102
  go_wp2
  all_goals
    go_ret
    refine ⟨ret_bool ?_, (Below.refl _ _).alloc (Nat.le_refl _) _⟩
    simp_all [Gate.bareOf]
    try first | omega | (intros; omega) | (rw [Bool.eq_iff_iff]; simp)

set_option maxHeartbeats 1000000 in
theorem specBare_other (nm : ByteArray) (kd ls ms : Int) (a : Option Addr) (n cap : Nat) (to : ByteArray) (rl : Int) (mu fx : Bool) (df wg : ByteArray) (w : World) (h1 : kd ≠ 1) (h2 : kd ≠ 2) (h3 : kd ≠ 3) (h4 : kd ≠ 4) :
    Calls Tryz.prog 102 #[.agg #[.string nm, .int .i64 kd, .int .i64 ls, .int .i64 ms, .slice a n cap, .string to, .int .i64 rl, .bool mu, .bool fx, .string df, .string wg]] w fun e w' => ∃ b, e = .returned (.bool b) ∧ Below w.heap.size w w' := by
  have e1 : (kd == 1) = false := by simpa using h1
  have e2 : (kd == 2) = false := by simpa using h2
  have e3 : (kd == 3) = false := by simpa using h3
  have e4 : (kd == 4) = false := by simpa using h4
  have n1 : (kd != 1) = true := by simpa using h1
  have n2 : (kd != 2) = true := by simpa using h2
  clear h1 h2 h3 h4
  go_enter Tryz.func102, Tryz.ntmps102
  go_wp2
  all_goals
    go_ret
    exact ⟨_, rfl, (Below.refl _ _).alloc (Nat.le_refl _) _⟩

end Go.Proofs.YtpmlngcljbkchaaGreat

namespace Go.Proofs.YtpmlngcljbkchaaGreat
open Go.RowKit
theorem blk5 (w : World) (o1 o2 o3 o4 o5 : Obj) : (((((w.alloc o1).alloc o2).alloc o3).alloc o4).alloc o5).heap[w.heap.size]? = some o1 ∧ (((((w.alloc o1).alloc o2).alloc o3).alloc o4).alloc o5).heap[w.heap.size + 1]? = some o2 ∧ (((((w.alloc o1).alloc o2).alloc o3).alloc o4).alloc o5).heap[w.heap.size + 1 + 1]? = some o3 ∧ (((((w.alloc o1).alloc o2).alloc o3).alloc o4).alloc o5).heap[w.heap.size + 1 + 1 + 1]? = some o4 ∧ (((((w.alloc o1).alloc o2).alloc o3).alloc o4).alloc o5).heap[w.heap.size + 1 + 1 + 1 + 1]? = some o5 := by
  obtain ⟨h1, h2, h3⟩ := blk3 w o1 o2 o3
  have e := two_blocks (((w.alloc o1).alloc o2).alloc o3) o4 o5
  have hb := below2' (((w.alloc o1).alloc o2).alloc o3) o4 o5
  refine ⟨(hb.block _ (by simp <;> omega)).trans h1, (hb.block _ (by simp <;> omega)).trans h2, (hb.block _ (by simp)).trans h3, ?_, ?_⟩
  · have := e.1; simpa using this
  · have := e.2; simpa using this
theorem below5 (w : World) (o1 o2 o3 o4 o5 : Obj) : Below w.heap.size w (((((w.alloc o1).alloc o2).alloc o3).alloc o4).alloc o5) := (below4 w o1 o2 o3 o4).alloc (by simp <;> omega) _

/-- An ask's lists in blocks of their own. -/
structure AkOwn (lo : Nat) (w : World) (x : Ak) (g0 g1 g2 : Nat) : Prop where
  l0 : lo ≤ g0
  l1 : lo ≤ g1
  l2 : lo ≤ g2
  vs : w.heap[g0]? = some (.cells (strArr x.vs) 9)
  hs : w.heap[g1]? = some (.cells (strArr x.hs) 9)
  r : w.heap[g2]? = some (.cells (intArr x.r.vs) 3)
theorem AkOwn.at {lo : Nat} {w w0 : World} {x : Ak} {g0 g1 g2 : Nat} {a0 a1 a2 : Option Addr} (h : AkOwn lo w x g0 g1 g2) (ha : AkAt w0 x a0 a1 a2) : AkAt w x (some ⟨g0, 0, none⟩) (some ⟨g1, 0, none⟩) (some ⟨g2, 0, none⟩) :=
  ⟨ha.small, heap_strs h.vs ha.vs.len ha.vs.small, heap_strs h.hs ha.hs.len ha.hs.small, heap_ints h.r ha.r.len⟩

set_option maxHeartbeats 4000000 in
theorem toGateAsk_own (x : Ak) (a0 a1 a2 : Option Addr) (c0 c1 c2 : Nat) (w : World) (hx : AkAt w x a0 a1 a2) (hf : x.Few) :
    Calls Tryz.prog 8 #[.agg (x.cells a0 a1 a2 c0 c1 c2)] w fun e w' => ∃ g0 g1 g2, e = .returned (.agg (x.cells (some ⟨g0, 0, none⟩) (some ⟨g1, 0, none⟩) (some ⟨g2, 0, none⟩) x.vs.length x.hs.length x.r.vs.length)) ∧ AkOwn w.heap.size w' x g0 g1 g2 ∧ Below w.heap.size w w' := by
  have HX : Hid (AkAt w x a0 a1 a2) := hx
  have HF : Hid x.Few := hf
  clear hx hf
  unfold Ak.cells
  go_enter Tryz.func8, Tryz.ntmps8
  go_wp2_with fail
  refine (toStringS_any _ _ _ _ (HX.out.vs.mono (below3' _ _ _ _)) HF.out.vs).mono ?_
  rintro e w1 ⟨rfl, rfl⟩
  go_wp2_with fail
  refine (toStringS_any _ _ _ _ (HX.out.hs.mono (below4 _ _ _ _ _)) HF.out.hs).mono ?_
  rintro e w2 ⟨rfl, rfl⟩
  go_wp2_with fail
  refine (toGateRule_any x.r a2 c2 _ (HX.out.r.mono (below5 _ _ _ _ _ _)) HF.out.r).mono ?_
  rintro e w3 ⟨bk, rfl, hlo, hhi, hbk, hb⟩
  have hlo' : w.heap.size + 1 + 1 + 1 + 1 + 1 ≤ bk := by simpa using hlo
  have hA := (hb.block w.heap.size (by simp <;> omega)).trans (blk5 w _ _ _ _ _).1
  have hR := (hb.block (w.heap.size + 1) (by simp <;> omega)).trans (blk5 w _ _ _ _ _).2.1
  have hO := (hb.block (w.heap.size + 1 + 1) (by simp <;> omega)).trans (blk5 w _ _ _ _ _).2.2.1
  have HV : Hid (w3.heap[w.heap.size + 1 + 1 + 1]? = _) := (hb.block (w.heap.size + 1 + 1 + 1) (by simp <;> omega)).trans (blk5 w _ _ _ _ _).2.2.2.1
  have HH : Hid (w3.heap[w.heap.size + 1 + 1 + 1 + 1]? = _) := (hb.block (w.heap.size + 1 + 1 + 1 + 1) (by simp)).trans (blk5 w _ _ _ _ _).2.2.2.2
  have HK : Hid (w3.heap[bk]? = some (.cells (intArr x.r.vs) 3)) := hbk
  have HB : Hid (Below w.heap.size w w3) := (below5 w _ _ _ _ _).trans (hb.mono (by simp <;> omega))
  have cA := fun j => cell_of_block (o := j) hA
  have cR := fun j => cell_of_block (o := j) hR
  have fR := fun j => frozen_of_block (o := j) hR
  have cO := fun j => cell_of_block (o := j) hO
  have fO := fun j => frozen_of_block (o := j) hO
  have hz1 : w.heap.size + 1 + 1 < w3.heap.size := (Array.getElem?_eq_some_iff.1 hO).1
  clear hb hbk hlo hA hR hO
  unfold Rl.cells
  go_wp2_with fail
  have n1 : bk ≠ w.heap.size + 1 := by omega
  have n2 : bk ≠ w.heap.size + 1 + 1 := by omega
  have n3 : w.heap.size + 1 + 1 + 1 ≠ w.heap.size + 1 := by omega
  have n4 : w.heap.size + 1 + 1 + 1 ≠ w.heap.size + 1 + 1 := by omega
  have n5 : w.heap.size + 1 + 1 + 1 + 1 ≠ w.heap.size + 1 := by omega
  have n6 : w.heap.size + 1 + 1 + 1 + 1 ≠ w.heap.size + 1 + 1 := by omega
  refine bodyPost_ret (v := .agg #[.string x.who, .int .i64 x.vb, .string x.kd, .string x.nm, .string x.tm, .slice (some ⟨w.heap.size + 1 + 1 + 1, 0, none⟩) x.vs.length x.vs.length, .slice (some ⟨w.heap.size + 1 + 1 + 1 + 1, 0, none⟩) x.hs.length x.hs.length, .int .i64 x.sn, .string x.hd, .string x.to, .slice (some ⟨bk, 0, none⟩) x.r.vs.length x.r.vs.length, .string x.r.kd, .string x.r.tm, .string x.r.px, .int .i64 x.no]) (by simp [results, Tryz.results8, go_sem, cR]) rfl ⟨_, _, _, rfl, ⟨by omega, by omega, by omega, ?_, ?_, ?_⟩, ?_⟩
  · simp only [setCell_other n3, setCell_other n4]; exact HV.out
  · simp only [setCell_other n5, setCell_other n6]; exact HH.out
  · simp only [setCell_other n1, setCell_other n2]; exact HK.out
  · have h3 : w.heap.size ≤ w.heap.size + 1 := by omega
    have h4 : w.heap.size ≤ w.heap.size + 1 + 1 := by omega
    have hB := HB.out
    iterate 15 refine Below.setCell ?_ h3 _
    iterate 5 refine Below.setCell ?_ h4 _
    exact hB

theorem toGateAsk_any (x : Ak) (a0 a1 a2 : Option Addr) (c0 c1 c2 : Nat) (w : World) (hx : AkAt w x a0 a1 a2) (hf : x.Few) :
    Calls Tryz.prog 8 #[.agg (x.cells a0 a1 a2 c0 c1 c2)] w fun e w' => ∃ b0 b1 b2, e = .returned (.agg (x.cells b0 b1 b2 x.vs.length x.hs.length x.r.vs.length)) ∧ AkAt w' x b0 b1 b2 ∧ Below w.heap.size w w' := by
  refine (toGateAsk_own x a0 a1 a2 c0 c1 c2 w hx hf).mono ?_
  rintro e w1 ⟨g0, g1, g2, rfl, h, hb⟩
  exact ⟨_, _, _, rfl, h.at hx, hb⟩

end Go.Proofs.YtpmlngcljbkchaaGreat
