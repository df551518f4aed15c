import Derived.Test.YtfpeplbmfbepcaaGreatM29
import Derived.Test.YtfpeplbmfbepcaaGreatM19
import Derived.Test.YtfpeplbmfbepcaaGreatM16
import Derived.Test.YtfpeplbmfbepcaaGreatM14
import Derived.Test.YtfpeplbmfbepcaaGreatM13
import Derived.Deep.QuietTactic
import Derived.BigQuiet
namespace Go.Proofs.YtfpeplbmfbepcaaGreat
open Go.RowKit
namespace Gate
def zaq (b : Bk) : Bool := within b.now 0 1000000 && (within b.tick 0 1000000 && within b.given 0 b.now)
def yR (given : Int) (g : Gr) : Bool := within g.no 1 given && (zy g.to && ((g.gb.toList.isEmpty || zy g.gb) && zac g.r))
noncomputable def yB (b : Bk) : Bool := decide (b.gs.length <= 24) && (zbs zb4 b.gs && b.gs.all (yR b.given))
def yw (ts : List Tm) (g : Lg) : Bool := yh ts g.tm && (zy g.rs && jq g.fr g.mo 0 1000000)
noncomputable def yC (ts : List Tm) (b : Bk) : Bool := decide (b.ls.length <= 10) && (zbs yU b.ls && b.ls.all (yw ts))
end Gate
set_option maxHeartbeats 1000000 in
theorem zjr (b : Bk) (a0 a1 a2 a3 : Option Addr) (c0 c1 c2 c3 : Nat) (w : World) :
    Calls Tryz.prog 109 #[.agg (b.cells a0 a1 a2 a3 c0 c1 c2 c3)] w fun e w' => e = .returned (.bool (Gate.zaq b)) /\ Below w.heap.size w w' := by
  have HB : Hid (∀ ob, Below w.heap.size w (w.alloc ob)) := fun ob => (Below.refl _ _).alloc (Nat.le_refl _) _
  unfold Bk.cells
  by_cases h1 : Gate.within b.now 0 1000000 = true
  rotate_left
  · have h1' : Gate.within b.now 0 1000000 = false := by simpa using h1
    have HF : Hid (Gate.zaq b = false) := by unfold Hid Gate.zaq; rw [h1']; rfl
    have H1 : Hid (∀ W, Calls Tryz.prog 150 #[.int .i64 b.now, .int .i64 0, .int .i64 1000000] W fun e w' => e = .returned (.bool false) /\ w' = W) := fun W => zw h1' (qE _ _ _ W)
    clear h1 h1'
    go_enter Tryz.func109, Tryz.ntmps109
    go_wp2_with (go_at_call 150; refine (H1.out _).mono ?_; rintro e w2 ⟨rfl, rfl⟩)
    go_ret
    exact ⟨ze HF.out.symm, HB.out _⟩
  by_cases h2 : Gate.within b.tick 0 1000000 = true
  rotate_left
  · have h2' : Gate.within b.tick 0 1000000 = false := by simpa using h2
    have HF : Hid (Gate.zaq b = false) := by unfold Hid Gate.zaq; rw [h1, h2']; rfl
    have H1 : Hid (∀ W, Calls Tryz.prog 150 #[.int .i64 b.now, .int .i64 0, .int .i64 1000000] W fun e w' => e = .returned (.bool true) /\ w' = W) := fun W => zw h1 (qE _ _ _ W)
    have H2 : Hid (∀ W, Calls Tryz.prog 150 #[.int .i64 b.tick, .int .i64 0, .int .i64 1000000] W fun e w' => e = .returned (.bool false) /\ w' = W) := fun W => zw h2' (qE _ _ _ W)
    clear h1 h2 h2'
    go_enter Tryz.func109, Tryz.ntmps109
    go_wp2_with fail
    refine (H1.out _).mono ?_
    rintro e w2 ⟨rfl, rfl⟩
    go_wp2_with fail
    refine (H2.out _).mono ?_
    rintro e w2 ⟨rfl, rfl⟩
    go_wp2_with fail
    go_ret
    exact ⟨ze HF.out.symm, HB.out _⟩
  · have HF : Hid (Gate.zaq b = Gate.within b.given 0 b.now) := by unfold Hid Gate.zaq; rw [h1, h2]; rfl
    have H1 : Hid (∀ W, Calls Tryz.prog 150 #[.int .i64 b.now, .int .i64 0, .int .i64 1000000] W fun e w' => e = .returned (.bool true) /\ w' = W) := fun W => zw h1 (qE _ _ _ W)
    have H2 : Hid (∀ W, Calls Tryz.prog 150 #[.int .i64 b.tick, .int .i64 0, .int .i64 1000000] W fun e w' => e = .returned (.bool true) /\ w' = W) := fun W => zw h2 (qE _ _ _ W)
    clear h1 h2
    go_enter Tryz.func109, Tryz.ntmps109
    go_wp2_with fail
    refine (H1.out _).mono ?_
    rintro e w2 ⟨rfl, rfl⟩
    go_wp2_with fail
    refine (H2.out _).mono ?_
    rintro e w2 ⟨rfl, rfl⟩
    go_wp2_with fail
    refine (qE _ _ _ _).mono ?_
    rintro e w2 ⟨rfl, rfl⟩
    go_wp2_with fail
    go_ret
    exact ⟨ze HF.out.symm, HB.out _⟩
set_option maxHeartbeats 4000000 in
theorem zj1 (b : Bk) (a0 a1 a2 a3 : Option Addr) (c0 c1 c2 c3 : Nat) (w : World) (hb : y9 w b a0 a1 a2 a3) :
    Calls Tryz.prog 111 #[.agg (b.cells a0 a1 a2 a3 c0 c1 c2 c3)] w fun e w' => e = .returned (.bool (Gate.yB b)) /\ Below w.heap.size w w' := by
  have HK := hid hb
  clear hb
  unfold Bk.cells
  by_cases hln : b.gs.length <= 24
  rotate_left
  · have HF : Hid (Gate.yB b = false) := by unfold Hid Gate.yB; rw [decide_eq_false hln]; rfl
    have hg : (24 : Int) < (b.gs.length : Int) := by omega
    go_enter Tryz.func111, Tryz.ntmps111
    go_wp2_with fail
    go_ret
    exact ⟨ze HF.out.symm, (Below.refl _ _).alloc (Nat.le_refl _) _⟩
  have hg : decide ((24 : Int) < (b.gs.length : Int)) = false := by simp; omega
  have HLN : Hid (b.gs.length <= 24) := hln
  clear hln
  go_enter Tryz.func111, Tryz.ntmps111
  go_wp2_with fail
  have hX0 := zG w (bC b a0 a1 a2 a3 c0 c1 c2 c3) 48
  have HB0 : Hid (Below w.heap.size w (w.alloc (.cells (bC b a0 a1 a2 a3 c0 c1 c2 c3) 48))) := (Below.refl _ _).alloc (Nat.le_refl _) _
  obtain ⟨W0, hW0⟩ : ∃ W0, W0 = w.alloc (.cells (bC b a0 a1 a2 a3 c0 c1 c2 c3) 48) := ⟨_, rfl⟩
  have hz0 : w.heap.size < W0.heap.size := by rw [hW0]; simp
  rw [<- hW0] at HB0 hX0 ⊢
  clear hW0
  refine (zhS _ _ b.gs _ (HK.out.gs.mono HB0.out)).mono ?_
  rintro e w1 ⟨rfl, hb1⟩
  have HB1 := hid (HB0.out.trans (hb1.mono HB0.out.size))
  have hX1 := za hX0 hz0 hb1
  have hz1 := Nat.lt_of_lt_of_le hz0 hb1.size
  clear hb1 hX0 hz0 HB0
  by_cases has : Gate.zbs Gate.zb4 b.gs = true
  rotate_left
  · have has' : Gate.zbs Gate.zb4 b.gs = false := by simpa using has
    have HF : Hid (Gate.yB b = false) := by unfold Hid Gate.yB; rw [has']; simp
    rw [has']
    clear has has'
    go_wp2_with fail
    go_ret
    exact ⟨ze HF.out.symm, HB1.out⟩
  have HG : Hid (Gate.yB b = b.gs.all (Gate.yR b.given)) := by unfold Hid Gate.yB; rw [has, decide_eq_true HLN.out]; rfl
  rw [has]
  clear has
  go_wp2_with fail
  go_loopw [18] (fun iv wr => ∃ k : Nat, k <= b.gs.length /\ iv = .int .i64 k /\ Hid ((b.gs.take k).all (Gate.yR b.given) = true /\ Below w1.heap.size w1 wr)) (fun iv _ => b.gs.length - (intOf iv).toNat)
  case atStart => exact ⟨0, Nat.zero_le _, rfl, by simp, Below.refl _ _⟩
  case round =>
    obtain ⟨k, hk, rfl, HQ⟩ := hrel
    have hkn : k <= 24 := by have := HLN.out; omega
    by_cases hlt : k < b.gs.length
    · obtain ⟨ob, off, v0, q0, rfl, hob, hsm, hi0, d0, d1, d2, d3, d4, d5, d6⟩ := HK.out.gs.load (HB1.out.trans (HQ.out.2.mono HB1.out.size)) k hlt
      have hob' := Nat.lt_of_lt_of_le hob (HB1.out.trans (HQ.out.2.mono HB1.out.size)).size
      have hltI : (k : Int) < (b.gs.length : Int) := by omega
      have hX := za hX1 hz1 HQ.out.2
      have hz : w.heap.size < wr.heap.size := Nat.lt_of_lt_of_le hz1 HQ.out.2.size
      have HSn : Hid ((b.gs.take (k + 1)).all (Gate.yR b.given) = ((b.gs.take k).all (Gate.yR b.given) && (Gate.yR b.given) b.gs[k])) := Gate.ql _ _ _ hlt
      have HBo : Hid (∀ ob, Below w1.heap.size w1 (wr.alloc ob)) := fun ob => HQ.out.2.alloc HQ.out.2.size _
      have HBw : Hid (∀ W, Below w1.heap.size w1 W -> Below w.heap.size w W) := fun W hW => HB1.out.trans (hW.mono HB1.out.size)
      have HNo : Hid ((Gate.yR b.given) b.gs[k] = false -> Gate.yB b = false) := fun h => by rw [HG.out]; exact Gate.j6 _ _ _ hlt h
      have HYes : Hid ((Gate.yR b.given) b.gs[k] = true -> (b.gs.take (k + 1)).all (Gate.yR b.given) = true) := fun h => by rw [HSn.out, HQ.out.1, h]; rfl
      have HIt := qJ hi0 hsm
      clear hsm hi0
      have HW1 : ∀ v, Gate.within b.gs[k].no 1 b.given = v -> Hid (∀ W, Calls Tryz.prog 150 #[.int .i64 b.gs[k].no, .int .i64 1, .int .i64 b.given] W fun e w' => e = .returned (.bool v) /\ w' = W) := fun v h W => zw h (qE _ _ _ W)
      have HN1 : ∀ v, Gate.zy b.gs[k].to = v -> Hid (∀ W, Calls Tryz.prog 145 #[.string b.gs[k].to] W fun e w' => e = .returned (.bool v) /\ w' = W) := fun v h W => zw h (zR _ W HIt.out.2.to)
      have HN2 : ∀ v, Gate.zy b.gs[k].gb = v -> Hid (∀ W, Calls Tryz.prog 145 #[.string b.gs[k].gb] W fun e w' => e = .returned (.bool v) /\ w' = W) := fun v h W => zw h (zR _ W HIt.out.2.gb)
      have HR1 : ∀ v, Gate.zac b.gs[k].r = v -> Hid (∀ W, Below wr.heap.size wr W -> Calls Tryz.prog 157 #[.agg #[.slice v0 b.gs[k].r.vs.length q0, .string b.gs[k].r.kd, .string b.gs[k].r.tm, .string b.gs[k].r.px]] W fun e w' => e = .returned (.bool v) /\ Below W.heap.size W w') := fun v h W hW => zw h (zn1 b.gs[k].r v0 q0 W HIt.out.2.r (HIt.out.1.mono hW))
      by_cases t1 : Gate.within b.gs[k].no 1 b.given = true
      rotate_left
      · have HF : Hid (Gate.yB b = false) := HNo.out (by unfold Gate.yR; rw [Bool.eq_false_iff.2 t1]; rfl)
        have H1 := HW1 false (Bool.eq_false_iff.2 t1)
        clear HW1 HN1 HN2 HR1 t1
        go_wp2_with fail
        refine (H1.out _).mono ?_
        rintro e w2 ⟨rfl, rfl⟩
        go_wp2_with fail
        go_ret
        exact ⟨ze HF.out.symm, HBw.out _ (HBo.out _)⟩
      have H1 := HW1 true t1
      by_cases t2 : Gate.zy b.gs[k].to = true
      rotate_left
      · have HF : Hid (Gate.yB b = false) := HNo.out (by unfold Gate.yR; rw [t1, Bool.eq_false_iff.2 t2]; rfl)
        have H2 := HN1 false (Bool.eq_false_iff.2 t2)
        clear HW1 HN1 HN2 HR1 t1 t2
        go_wp2_with fail
        refine (H1.out _).mono ?_
        rintro e w2 ⟨rfl, rfl⟩
        go_wp2_with fail
        refine (H2.out _).mono ?_
        rintro e w2 ⟨rfl, rfl⟩
        go_wp2_with fail
        go_ret
        exact ⟨ze HF.out.symm, HBw.out _ (HBo.out _)⟩
      have H2 := HN1 true t2
      by_cases t3 : b.gs[k].gb.toList.isEmpty = true
      · by_cases t5 : Gate.zac b.gs[k].r = true
        · have HY : Hid ((b.gs.take (k + 1)).all (Gate.yR b.given) = true) := HYes.out (by unfold Gate.yR; rw [t1, t2, t3, t5]; rfl)
          have H5 := HR1 true t5
          clear HW1 HN1 HN2 HR1 t1 t2 t5
          go_wp2_with fail
          refine (H1.out _).mono ?_
          rintro e w2 ⟨rfl, rfl⟩
          go_wp2_with fail
          refine (H2.out _).mono ?_
          rintro e w2 ⟨rfl, rfl⟩
          go_wp2_with fail
          refine (H5.out _ ((Below.refl _ _).alloc (Nat.le_refl _) _)).mono ?_
          rintro e w2 ⟨rfl, hb2⟩
          have HB2 := hid ((HBo.out _).trans (hb2.mono (HBo.out _).size))
          clear hb2
          go_wp2_with fail
          exact ⟨⟨k + 1, by omega, by go_num, HY.out, HB2.out⟩, zi hlt⟩
        · have HF : Hid (Gate.yB b = false) := HNo.out (by unfold Gate.yR; rw [t1, t2, t3, Bool.eq_false_iff.2 t5]; rfl)
          have H5 := HR1 false (Bool.eq_false_iff.2 t5)
          clear HW1 HN1 HN2 HR1 t1 t2 t5
          go_wp2_with fail
          refine (H1.out _).mono ?_
          rintro e w2 ⟨rfl, rfl⟩
          go_wp2_with fail
          refine (H2.out _).mono ?_
          rintro e w2 ⟨rfl, rfl⟩
          go_wp2_with fail
          refine (H5.out _ ((Below.refl _ _).alloc (Nat.le_refl _) _)).mono ?_
          rintro e w2 ⟨rfl, hb2⟩
          have HB2 := hid ((HBo.out _).trans (hb2.mono (HBo.out _).size))
          clear hb2
          go_wp2_with fail
          go_ret
          exact ⟨ze HF.out.symm, HBw.out _ HB2.out⟩
      have t3' := Bool.eq_false_iff.2 t3
      clear t3
      by_cases t4 : Gate.zy b.gs[k].gb = true
      rotate_left
      · have HF : Hid (Gate.yB b = false) := HNo.out (by unfold Gate.yR; rw [t1, t2, t3', Bool.eq_false_iff.2 t4]; rfl)
        have H4 := HN2 false (Bool.eq_false_iff.2 t4)
        clear HW1 HN1 HN2 HR1 t1 t2 t4
        go_wp2_with fail
        refine (H1.out _).mono ?_
        rintro e w2 ⟨rfl, rfl⟩
        go_wp2_with fail
        refine (H2.out _).mono ?_
        rintro e w2 ⟨rfl, rfl⟩
        go_wp2_with fail
        refine (H4.out _).mono ?_
        rintro e w2 ⟨rfl, rfl⟩
        go_wp2_with fail
        go_ret
        exact ⟨ze HF.out.symm, HBw.out _ (HBo.out _)⟩
      have H4 := HN2 true t4
      by_cases t5 : Gate.zac b.gs[k].r = true
      · have HY : Hid ((b.gs.take (k + 1)).all (Gate.yR b.given) = true) := HYes.out (by unfold Gate.yR; rw [t1, t2, t3', t4, t5]; rfl)
        have H5 := HR1 true t5
        clear HW1 HN1 HN2 HR1 t1 t2 t4 t5
        go_wp2_with fail
        refine (H1.out _).mono ?_
        rintro e w2 ⟨rfl, rfl⟩
        go_wp2_with fail
        refine (H2.out _).mono ?_
        rintro e w2 ⟨rfl, rfl⟩
        go_wp2_with fail
        refine (H4.out _).mono ?_
        rintro e w2 ⟨rfl, rfl⟩
        go_wp2_with fail
        refine (H5.out _ ((Below.refl _ _).alloc (Nat.le_refl _) _)).mono ?_
        rintro e w2 ⟨rfl, hb2⟩
        have HB2 := hid ((HBo.out _).trans (hb2.mono (HBo.out _).size))
        clear hb2
        go_wp2_with fail
        exact ⟨⟨k + 1, by omega, by go_num, HY.out, HB2.out⟩, zi hlt⟩
      · have HF : Hid (Gate.yB b = false) := HNo.out (by unfold Gate.yR; rw [t1, t2, t3', t4, Bool.eq_false_iff.2 t5]; rfl)
        have H5 := HR1 false (Bool.eq_false_iff.2 t5)
        clear HW1 HN1 HN2 HR1 t1 t2 t4 t5
        go_wp2_with fail
        refine (H1.out _).mono ?_
        rintro e w2 ⟨rfl, rfl⟩
        go_wp2_with fail
        refine (H2.out _).mono ?_
        rintro e w2 ⟨rfl, rfl⟩
        go_wp2_with fail
        refine (H4.out _).mono ?_
        rintro e w2 ⟨rfl, rfl⟩
        go_wp2_with fail
        refine (H5.out _ ((Below.refl _ _).alloc (Nat.le_refl _) _)).mono ?_
        rintro e w2 ⟨rfl, hb2⟩
        have HB2 := hid ((HBo.out _).trans (hb2.mono (HBo.out _).size))
        clear hb2
        go_wp2_with fail
        go_ret
        exact ⟨ze HF.out.symm, HBw.out _ HB2.out⟩
    · have e : k = b.gs.length := by omega
      subst e
      have HE : Hid (Gate.yB b = true) := by
        unfold Hid
        rw [HG.out]
        have h := HQ.out.1
        rw [List.take_of_length_le (Nat.le_refl _)] at h
        exact h
      have HBe := hid (HB1.out.trans (HQ.out.2.mono HB1.out.size))
      clear hlt hk HQ
      go_wp2_with fail
      go_ret
      exact ⟨ze HE.out.symm, HBe.out⟩
end Go.Proofs.YtfpeplbmfbepcaaGreat

namespace Go.Proofs.YtfpeplbmfbepcaaGreat
open Go.RowKit
set_option maxHeartbeats 4000000 in
theorem ziV (l : Lw) (la lb lc : Option Addr) (lca lcb lcc : Nat) (b : Bk) (a0 a1 a2 a3 : Option Addr) (c0 c1 c2 c3 : Nat) (w : World) (hb : y9 w b a0 a1 a2 a3) (hl : qB w l la lb lc) :
    Calls Tryz.prog 112 #[.agg (l.cells la lb lc lca lcb lcc), .agg (b.cells a0 a1 a2 a3 c0 c1 c2 c3)] w fun e w' => e = .returned (.bool (Gate.yC l.ts b)) /\ Below w.heap.size w w' := by
  have HK := hid hb
  have HL := hid hl
  clear hb hl
  unfold Lw.cells Bk.cells
  by_cases hln : b.ls.length <= 10
  rotate_left
  · have HF : Hid (Gate.yC l.ts b = false) := by unfold Hid Gate.yC; rw [decide_eq_false hln]; rfl
    have hg : (10 : Int) < (b.ls.length : Int) := by omega
    go_enter Tryz.func112, Tryz.ntmps112
    go_wp2_with fail
    go_ret
    exact ⟨ze HF.out.symm, zn _ _ _⟩
  have hg : decide ((10 : Int) < (b.ls.length : Int)) = false := by simp; omega
  have HLN : Hid (b.ls.length <= 10) := hln
  clear hln
  go_enter Tryz.func112, Tryz.ntmps112
  go_wp2_with fail
  obtain ⟨hL0, hX0⟩ := yP w (lC l la lb lc lca lcb lcc) (bC b a0 a1 a2 a3 c0 c1 c2 c3) 41 48
  have HB0 : Hid (Below w.heap.size w ((w.alloc (.cells (lC l la lb lc lca lcb lcc) 41)).alloc (.cells (bC b a0 a1 a2 a3 c0 c1 c2 c3) 48))) := zn w _ _
  obtain ⟨W0, hW0⟩ : ∃ W0, W0 = (w.alloc (.cells (lC l la lb lc lca lcb lcc) 41)).alloc (.cells (bC b a0 a1 a2 a3 c0 c1 c2 c3) 48) := ⟨_, rfl⟩
  have hz0 : w.heap.size + 1 < W0.heap.size := by rw [hW0]; simp
  rw [<- hW0] at HB0 hX0 hL0 ⊢
  clear hW0
  refine (zhB _ _ b.ls _ (HK.out.ls.mono HB0.out)).mono ?_
  rintro e w1 ⟨rfl, hb1⟩
  have HB1 := hid (HB0.out.trans (hb1.mono HB0.out.size))
  have hX1 := za hX0 hz0 hb1
  have hL1 := za hL0 (Nat.lt_of_succ_lt hz0) hb1
  have hz1 := Nat.lt_of_lt_of_le hz0 hb1.size
  clear hb1 hX0 hL0 hz0 HB0
  by_cases has : Gate.zbs Gate.yU b.ls = true
  rotate_left
  · have has' : Gate.zbs Gate.yU b.ls = false := by simpa using has
    have HF : Hid (Gate.yC l.ts b = false) := by unfold Hid Gate.yC; rw [has']; simp
    rw [has']
    clear has has'
    go_wp2_with fail
    go_ret
    exact ⟨ze HF.out.symm, HB1.out⟩
  have HG : Hid (Gate.yC l.ts b = b.ls.all (Gate.yw l.ts)) := by unfold Hid Gate.yC; rw [has, decide_eq_true HLN.out]; rfl
  rw [has]
  clear has
  go_wp2_with fail
  go_loopw [20] (fun iv wr => ∃ k : Nat, k <= b.ls.length /\ iv = .int .i64 k /\ Hid ((b.ls.take k).all (Gate.yw l.ts) = true /\ Below w1.heap.size w1 wr)) (fun iv _ => b.ls.length - (intOf iv).toNat)
  case atStart => exact ⟨0, Nat.zero_le _, rfl, by simp, Below.refl _ _⟩
  case round =>
    obtain ⟨k, hk, rfl, HQ⟩ := hrel
    have hkn : k <= 10 := by have := HLN.out; omega
    by_cases hlt : k < b.ls.length
    · obtain ⟨ob, off, rfl, hob, d0, d1, d2, d3⟩ := HK.out.ls.load (HB1.out.trans (HQ.out.2.mono HB1.out.size)) k hlt
      have hob' := Nat.lt_of_lt_of_le hob (HB1.out.trans (HQ.out.2.mono HB1.out.size)).size
      have hltI : (k : Int) < (b.ls.length : Int) := by omega
      have hX := za hX1 hz1 HQ.out.2
      have hz : w.heap.size + 1 < wr.heap.size := Nat.lt_of_lt_of_le hz1 HQ.out.2.size
      have HSn : Hid ((b.ls.take (k + 1)).all (Gate.yw l.ts) = ((b.ls.take k).all (Gate.yw l.ts) && (Gate.yw l.ts) b.ls[k])) := Gate.ql _ _ _ hlt
      have HBo : Hid (∀ ob, Below w1.heap.size w1 (wr.alloc ob)) := fun ob => HQ.out.2.alloc HQ.out.2.size _
      have HBw : Hid (∀ W, Below w1.heap.size w1 W -> Below w.heap.size w W) := fun W hW => HB1.out.trans (hW.mono HB1.out.size)
      have HNo : Hid ((Gate.yw l.ts) b.ls[k] = false -> Gate.yC l.ts b = false) := fun h => by rw [HG.out]; exact Gate.j6 _ _ _ hlt h
      have HYes : Hid ((Gate.yw l.ts) b.ls[k] = true -> (b.ls.take (k + 1)).all (Gate.yw l.ts) = true) := fun h => by rw [HSn.out, HQ.out.1, h]; rfl
      have hL := za hL1 (Nat.lt_of_succ_lt hz1) HQ.out.2
      have hzL := Nat.lt_of_succ_lt hz
      have HSm : Hid b.ls[k].Small := HK.out.ls.small k hlt
      go_wp2_with fail
      have hbN : Below wr.heap.size wr (wr.alloc (.cells #[.string b.ls[k].tm, .string b.ls[k].rs, .int .i64 b.ls[k].mo, .int .i64 b.ls[k].fr] 134)) := (Below.refl _ _).alloc (Nat.le_refl _) _
      have hN := zG wr #[.string b.ls[k].tm, .string b.ls[k].rs, .int .i64 b.ls[k].mo, .int .i64 b.ls[k].fr] 134
      obtain ⟨w2, hw2⟩ : ∃ w2, w2 = wr.alloc (.cells #[.string b.ls[k].tm, .string b.ls[k].rs, .int .i64 b.ls[k].mo, .int .i64 b.ls[k].fr] 134) := ⟨_, rfl⟩
      have hn2 : wr.heap.size < w2.heap.size := by rw [hw2]; simp
      rw [<- hw2] at hbN hN ⊢
      have HB2 : Hid (Below w1.heap.size w1 w2) := by unfold Hid; rw [hw2]; exact HBo.out _
      clear hw2 d0 d1 d2 d3 hX hL hbN
      refine (zcc _ _ l.ts b.ls[k].tm _ (HL.out.ts.mono (HBw.out _ HB2.out))).mono ?_
      rintro e w3 ⟨rfl, hb3⟩
      have HB3 := hid (HB2.out.trans (hb3.mono HB2.out.size))
      have hN3 := za hN hn2 hb3
      have hn3 := Nat.lt_of_lt_of_le hn2 hb3.size
      clear hb3 hN hn2 HB2
      have HN1 : ∀ v, Gate.zy b.ls[k].rs = v -> Hid (∀ W, Calls Tryz.prog 145 #[.string b.ls[k].rs] W fun e w' => e = .returned (.bool v) /\ w' = W) := fun v h W => zw h (zR _ W HSm.out.rs)
      by_cases t1 : Gate.yh l.ts b.ls[k].tm = true
      rotate_left
      · have HF : Hid (Gate.yC l.ts b = false) := HNo.out (by unfold Gate.yw; rw [Bool.eq_false_iff.2 t1]; rfl)
        rw [Bool.eq_false_iff.2 t1]
        clear HN1 t1
        go_wp2_with fail
        go_ret
        exact ⟨ze HF.out.symm, HBw.out _ HB3.out⟩
      rw [t1]
      by_cases t2 : Gate.zy b.ls[k].rs = true
      rotate_left
      · have HF : Hid (Gate.yC l.ts b = false) := HNo.out (by unfold Gate.yw; rw [t1, Bool.eq_false_iff.2 t2]; rfl)
        have H2 := HN1 false (Bool.eq_false_iff.2 t2)
        clear HN1 t1 t2
        go_wp2_with fail
        refine (H2.out _).mono ?_
        rintro e w4 ⟨rfl, rfl⟩
        go_wp2_with fail
        go_ret
        exact ⟨ze HF.out.symm, HBw.out _ HB3.out⟩
      have H2 := HN1 true t2
      by_cases t3 : Gate.jq b.ls[k].fr b.ls[k].mo 0 1000000 = true
      · have HY : Hid ((b.ls.take (k + 1)).all (Gate.yw l.ts) = true) := HYes.out (by unfold Gate.yw; rw [t1, t2, t3]; rfl)
        have H3 : Hid (∀ W, Calls Tryz.prog 160 #[.int .i64 b.ls[k].fr, .int .i64 b.ls[k].mo, .int .i64 0, .int .i64 1000000] W fun e w' => e = .returned (.bool true) /\ w' = W) := fun W => zw t3 (za7 _ _ _ _ W)
        clear HN1 t1 t2 t3
        go_wp2_with fail
        refine (H2.out _).mono ?_
        rintro e w4 ⟨rfl, rfl⟩
        go_wp2_with fail
        refine (H3.out _).mono ?_
        rintro e w4 ⟨rfl, rfl⟩
        go_wp2_with fail
        exact ⟨⟨k + 1, by omega, by go_num, HY.out, HB3.out⟩, zi hlt⟩
      · have HF : Hid (Gate.yC l.ts b = false) := HNo.out (by unfold Gate.yw; rw [t1, t2, Bool.eq_false_iff.2 t3]; rfl)
        have H3 : Hid (∀ W, Calls Tryz.prog 160 #[.int .i64 b.ls[k].fr, .int .i64 b.ls[k].mo, .int .i64 0, .int .i64 1000000] W fun e w' => e = .returned (.bool false) /\ w' = W) := fun W => zw (Bool.eq_false_iff.2 t3) (za7 _ _ _ _ W)
        clear HN1 t1 t2 t3
        go_wp2_with fail
        refine (H2.out _).mono ?_
        rintro e w4 ⟨rfl, rfl⟩
        go_wp2_with fail
        refine (H3.out _).mono ?_
        rintro e w4 ⟨rfl, rfl⟩
        go_wp2_with fail
        go_ret
        exact ⟨ze HF.out.symm, HBw.out _ HB3.out⟩
    · have e : k = b.ls.length := by omega
      subst e
      have HE : Hid (Gate.yC l.ts b = true) := by
        unfold Hid
        rw [HG.out]
        have h := HQ.out.1
        rw [List.take_of_length_le (Nat.le_refl _)] at h
        exact h
      have HBe := hid (HB1.out.trans (HQ.out.2.mono HB1.out.size))
      clear hlt hk HQ
      go_wp2_with fail
      go_ret
      exact ⟨ze HE.out.symm, HBe.out⟩
end Go.Proofs.YtfpeplbmfbepcaaGreat

namespace Go.Proofs.YtfpeplbmfbepcaaGreat
open Go.RowKit
namespace Gate
theorem zqd (a b : ByteArray) : key a b < 0 ↔ less a b = true := by
  rw [zij, decide_eq_true_eq]
  have := zmS a b
  omega
theorem zkD {a b c : ByteArray} (h : key a b < 0) (h' : key b c < 0) : key a c < 0 := by
  rw [zqd] at h h' ⊢
  exact zaU _ _ _ h h'
theorem zjj {a b c d e f : ByteArray} (h : key2 a b c d < 0) (h' : key2 c d e f < 0) : key2 a b e f < 0 := by
  unfold key2 at h h' ⊢
  by_cases h1 : key a c = 0
  · rw [if_pos h1] at h
    have e1 := (zbj a c).1 h1
    subst e1
    by_cases h2 : key a e = 0
    · rw [if_pos h2] at h' ⊢
      exact zkD h h'
    · rw [if_neg h2] at h' ⊢
      exact h'
  · rw [if_neg h1] at h
    by_cases h2 : key c e = 0
    · have e1 := (zbj c e).1 h2
      subst e1
      rw [if_neg h1]
      exact h
    · rw [if_neg h2] at h'
      have h3 := zkD h h'
      rw [if_neg (by omega)]
      exact h3
theorem za4 {a b c : Lg} (h : yU a b < 0) (h' : yU b c < 0) : yU a c < 0 := zjj h h'
theorem zex {a b c d : ByteArray} : key2 a b c d = 0 ↔ a = c /\ b = d := by
  unfold key2
  by_cases h : key a c = 0
  · rw [if_pos h, zbj]
    exact ⟨fun e => ⟨(zbj a c).1 h, e⟩, fun e => e.2⟩
  · rw [if_neg h]
    exact ⟨fun e => absurd e h, fun e => absurd ((zbj a c).2 e.1) h⟩
theorem zb3 {α : Type} {key : α -> α -> Int} (ht : ∀ a b c : α, key a b < 0 -> key b c < 0 -> key a c < 0) {ms : List α} (h : rising key ms) : ∀ (j : Nat) (hj : j < ms.length) (i : Nat) (hi : i < j), key (ms[i]'(by omega)) ms[j] < 0
  | 0, _, i, hi => by omega
  | j + 1, hj, i, hi => by
    rcases Nat.lt_or_ge i j with hlt | hge
    · have hjl : j < ms.length := by omega
      have hil : i < ms.length := by omega
      exact ht ms[i] ms[j] ms[j + 1] (zb3 ht h j hjl i hlt) (h j hj)
    · have e : i = j := by omega
      subst e
      exact h i hj
def jK (ls : List Lg) (tm rs : ByteArray) : Bool := ls.any fun g => decide (g.tm = tm) && decide (g.rs = rs)
structure zdT (ls : List Lg) (tm rs : ByteArray) (p : Nat) : Prop where
  le : p <= ls.length
  below : ∀ i (h : i < ls.length), i < p -> key2 ls[i].tm ls[i].rs tm rs < 0
  above : ∀ i (h : i < ls.length), p <= i -> 0 <= key2 ls[i].tm ls[i].rs tm rs
theorem zdT.found {ls : List Lg} {tm rs : ByteArray} {p : Nat} (h : zdT ls tm rs p) (hr : rising yU ls) : jK ls tm rs = true ↔ ∃ hp : p < ls.length, ls[p].tm = tm /\ ls[p].rs = rs := by
  unfold jK
  rw [List.any_eq_true]
  constructor
  · rintro ⟨g, hg, he⟩
    obtain ⟨i, hi, rfl⟩ := List.mem_iff_getElem.1 hg
    simp only [Bool.and_eq_true, decide_eq_true_eq] at he
    have hz : key2 ls[i].tm ls[i].rs tm rs = 0 := zex.2 he
    have hpi : p <= i := by
      rcases Nat.lt_or_ge i p with hlt | hge
      · have := h.below i hi hlt; omega
      · exact hge
    rcases Nat.eq_or_lt_of_le hpi with e | hlt
    · subst e; exact ⟨hi, he⟩
    · have h1 := zb3 (fun a b c => za4 (a := a) (b := b) (c := c)) hr i hi p hlt
      have h2 := h.above p (by omega) (Nat.le_refl _)
      unfold yU at h1
      rw [he.1, he.2] at h1
      omega
  · rintro ⟨hp, he⟩
    exact ⟨ls[p], List.getElem_mem _, by simp [he.1, he.2]⟩
end Gate
end Go.Proofs.YtfpeplbmfbepcaaGreat
