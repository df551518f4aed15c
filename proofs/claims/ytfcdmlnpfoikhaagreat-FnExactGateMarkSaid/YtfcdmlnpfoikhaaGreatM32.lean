import Derived.Test.YtfcdmlnpfoikhaaGreatM27
import Derived.Test.YtfcdmlnpfoikhaaGreatM23
import Derived.Test.YtfcdmlnpfoikhaaGreatM17
import Derived.Test.YtfcdmlnpfoikhaaGreatM09
import Derived.Test.YtfcdmlnpfoikhaaGreatM07
namespace Go.Proofs.YtfcdmlnpfoikhaaGreat
open Go.RowKit
namespace Gate
def zaj (b : Bk) : Bool := within b.now 0 1000000 && (within b.tick 0 1000000 && within b.given 0 b.now)
def yP (given : Int) (g : Gr) : Bool := within g.no 1 given && (zy g.to && ((g.gb.toList.isEmpty || zy g.gb) && j3 g.r))
noncomputable def yA (b : Bk) : Bool := decide (b.gs.length <= 24) && (zbe zbQ b.gs && b.gs.all (yP b.given))
def yw (ts : List Tm) (g : Lg) : Bool := yh ts g.tm && (zy g.rs && jl g.fr g.mo 0 1000000)
noncomputable def yC (ts : List Tm) (b : Bk) : Bool := decide (b.ls.length <= 10) && (zbe yT b.ls && b.ls.all (yw ts))
end Gate
set_option maxHeartbeats 1000000 in
theorem ziQ (b : Bk) (a0 a1 a2 a3 : Option Addr) (c0 c1 c2 c3 : Nat) (w : World) :
    Calls Tryz.prog 106 #[.agg (b.cells a0 a1 a2 a3 c0 c1 c2 c3)] w fun e w' => e = .returned (.bool (Gate.zaj b)) /\ Below w.heap.size w w' := by
  have HB : Hid (∀ ob, Below w.heap.size w (w.alloc ob)) := fun ob => (Below.refl _ _).alloc (Nat.le_refl _) _
  unfold Bk.cells
  by_cases h1 : Gate.within b.now 0 1000000 = true
  rotate_left
  · have h1' : Gate.within b.now 0 1000000 = false := by simpa using h1
    have HF : Hid (Gate.zaj b = false) := by unfold Hid Gate.zaj; rw [h1']; rfl
    have H1 : Hid (∀ W, Calls Tryz.prog 145 #[.int .i64 b.now, .int .i64 0, .int .i64 1000000] W fun e w' => e = .returned (.bool false) /\ w' = W) := fun W => zw h1' (qE _ _ _ W)
    clear h1 h1'
    go_enter Tryz.func106, Tryz.ntmps106
    go_wp2_with (go_at_call 145; refine (H1.out _).mono ?_; rintro e w2 ⟨rfl, rfl⟩)
    go_ret
    exact ⟨ze HF.out.symm, HB.out _⟩
  by_cases h2 : Gate.within b.tick 0 1000000 = true
  rotate_left
  · have h2' : Gate.within b.tick 0 1000000 = false := by simpa using h2
    have HF : Hid (Gate.zaj b = false) := by unfold Hid Gate.zaj; rw [h1, h2']; rfl
    have H1 : Hid (∀ W, Calls Tryz.prog 145 #[.int .i64 b.now, .int .i64 0, .int .i64 1000000] W fun e w' => e = .returned (.bool true) /\ w' = W) := fun W => zw h1 (qE _ _ _ W)
    have H2 : Hid (∀ W, Calls Tryz.prog 145 #[.int .i64 b.tick, .int .i64 0, .int .i64 1000000] W fun e w' => e = .returned (.bool false) /\ w' = W) := fun W => zw h2' (qE _ _ _ W)
    clear h1 h2 h2'
    go_enter Tryz.func106, Tryz.ntmps106
    go_wp2_with fail
    refine (H1.out _).mono ?_
    rintro e w2 ⟨rfl, rfl⟩
    go_wp2_with fail
    refine (H2.out _).mono ?_
    rintro e w2 ⟨rfl, rfl⟩
    go_wp2_with fail
    go_ret
    exact ⟨ze HF.out.symm, HB.out _⟩
  · have HF : Hid (Gate.zaj b = Gate.within b.given 0 b.now) := by unfold Hid Gate.zaj; rw [h1, h2]; rfl
    have H1 : Hid (∀ W, Calls Tryz.prog 145 #[.int .i64 b.now, .int .i64 0, .int .i64 1000000] W fun e w' => e = .returned (.bool true) /\ w' = W) := fun W => zw h1 (qE _ _ _ W)
    have H2 : Hid (∀ W, Calls Tryz.prog 145 #[.int .i64 b.tick, .int .i64 0, .int .i64 1000000] W fun e w' => e = .returned (.bool true) /\ w' = W) := fun W => zw h2 (qE _ _ _ W)
    clear h1 h2
    go_enter Tryz.func106, Tryz.ntmps106
    go_wp2_with fail
    refine (H1.out _).mono ?_
    rintro e w2 ⟨rfl, rfl⟩
    go_wp2_with fail
    refine (H2.out _).mono ?_
    rintro e w2 ⟨rfl, rfl⟩
    go_wp2_with fail
    refine (qE _ _ _ _).mono ?_
    rintro e w2 ⟨rfl, rfl⟩
    go_wp2_with fail
    go_ret
    exact ⟨ze HF.out.symm, HB.out _⟩
set_option maxHeartbeats 4000000 in
theorem zjr (b : Bk) (a0 a1 a2 a3 : Option Addr) (c0 c1 c2 c3 : Nat) (w : World) (hb : qD w b a0 a1 a2 a3) :
    Calls Tryz.prog 108 #[.agg (b.cells a0 a1 a2 a3 c0 c1 c2 c3)] w fun e w' => e = .returned (.bool (Gate.yA b)) /\ Below w.heap.size w w' := by
  have HK := hid hb
  clear hb
  unfold Bk.cells
  by_cases hln : b.gs.length <= 24
  rotate_left
  · have HF : Hid (Gate.yA b = false) := by unfold Hid Gate.yA; rw [decide_eq_false hln]; rfl
    have hg : (24 : Int) < (b.gs.length : Int) := by omega
    go_enter Tryz.func108, Tryz.ntmps108
    go_wp2_with fail
    go_ret
    exact ⟨ze HF.out.symm, (Below.refl _ _).alloc (Nat.le_refl _) _⟩
  have hg : decide ((24 : Int) < (b.gs.length : Int)) = false := by simp; omega
  have HLN : Hid (b.gs.length <= 24) := hln
  clear hln
  go_enter Tryz.func108, Tryz.ntmps108
  go_wp2_with fail
  have hX0 := zH w (bC b a0 a1 a2 a3 c0 c1 c2 c3) 48
  have HB0 : Hid (Below w.heap.size w (w.alloc (.cells (bC b a0 a1 a2 a3 c0 c1 c2 c3) 48))) := (Below.refl _ _).alloc (Nat.le_refl _) _
  obtain ⟨W0, hW0⟩ : ∃ W0, W0 = w.alloc (.cells (bC b a0 a1 a2 a3 c0 c1 c2 c3) 48) := ⟨_, rfl⟩
  have hz0 : w.heap.size < W0.heap.size := by rw [hW0]; simp
  rw [<- hW0] at HB0 hX0 ⊢
  clear hW0
  refine (zhn _ _ b.gs _ (HK.out.gs.mono HB0.out)).mono ?_
  rintro e w1 ⟨rfl, hb1⟩
  have HB1 := hid (HB0.out.trans (hb1.mono HB0.out.size))
  have hX1 := za hX0 hz0 hb1
  have hz1 := Nat.lt_of_lt_of_le hz0 hb1.size
  clear hb1 hX0 hz0 HB0
  by_cases has : Gate.zbe Gate.zbQ b.gs = true
  rotate_left
  · have has' : Gate.zbe Gate.zbQ b.gs = false := by simpa using has
    have HF : Hid (Gate.yA b = false) := by unfold Hid Gate.yA; rw [has']; simp
    rw [has']
    clear has has'
    go_wp2_with fail
    go_ret
    exact ⟨ze HF.out.symm, HB1.out⟩
  have HG : Hid (Gate.yA b = b.gs.all (Gate.yP b.given)) := by unfold Hid Gate.yA; rw [has, decide_eq_true HLN.out]; rfl
  rw [has]
  clear has
  go_wp2_with fail
  go_loopw [18] (fun iv wr => ∃ k : Nat, k <= b.gs.length /\ iv = .int .i64 k /\ Hid ((b.gs.take k).all (Gate.yP b.given) = true /\ Below w1.heap.size w1 wr)) (fun iv _ => b.gs.length - (intOf iv).toNat)
  case atStart => exact ⟨0, Nat.zero_le _, rfl, by simp, Below.refl _ _⟩
  case round =>
    obtain ⟨k, hk, rfl, HQ⟩ := hrel
    have hkn : k <= 24 := by have := HLN.out; omega
    by_cases hlt : k < b.gs.length
    · obtain ⟨ob, off, v0, q0, rfl, hob, hsm, hi0, d0, d1, d2, d3, d4, d5, d6⟩ := HK.out.gs.load (HB1.out.trans (HQ.out.2.mono HB1.out.size)) k hlt
      have hob' := Nat.lt_of_lt_of_le hob (HB1.out.trans (HQ.out.2.mono HB1.out.size)).size
      have hltI : (k : Int) < (b.gs.length : Int) := by omega
      have hX := za hX1 hz1 HQ.out.2
      have hz : w.heap.size < wr.heap.size := Nat.lt_of_lt_of_le hz1 HQ.out.2.size
      have HSn : Hid ((b.gs.take (k + 1)).all (Gate.yP b.given) = ((b.gs.take k).all (Gate.yP b.given) && (Gate.yP b.given) b.gs[k])) := Gate.y9 _ _ _ hlt
      have HBo : Hid (∀ ob, Below w1.heap.size w1 (wr.alloc ob)) := fun ob => HQ.out.2.alloc HQ.out.2.size _
      have HBw : Hid (∀ W, Below w1.heap.size w1 W -> Below w.heap.size w W) := fun W hW => HB1.out.trans (hW.mono HB1.out.size)
      have HNo : Hid ((Gate.yP b.given) b.gs[k] = false -> Gate.yA b = false) := fun h => by rw [HG.out]; exact Gate.jX _ _ _ hlt h
      have HYes : Hid ((Gate.yP b.given) b.gs[k] = true -> (b.gs.take (k + 1)).all (Gate.yP b.given) = true) := fun h => by rw [HSn.out, HQ.out.1, h]; rfl
      have HIt := jE hi0 hsm
      clear hsm hi0
      have HW1 : ∀ v, Gate.within b.gs[k].no 1 b.given = v -> Hid (∀ W, Calls Tryz.prog 145 #[.int .i64 b.gs[k].no, .int .i64 1, .int .i64 b.given] W fun e w' => e = .returned (.bool v) /\ w' = W) := fun v h W => zw h (qE _ _ _ W)
      have HN1 : ∀ v, Gate.zy b.gs[k].to = v -> Hid (∀ W, Calls Tryz.prog 140 #[.string b.gs[k].to] W fun e w' => e = .returned (.bool v) /\ w' = W) := fun v h W => zw h (zN _ W HIt.out.2.to)
      have HN2 : ∀ v, Gate.zy b.gs[k].gb = v -> Hid (∀ W, Calls Tryz.prog 140 #[.string b.gs[k].gb] W fun e w' => e = .returned (.bool v) /\ w' = W) := fun v h W => zw h (zN _ W HIt.out.2.gb)
      have HR1 : ∀ v, Gate.j3 b.gs[k].r = v -> Hid (∀ W, Below wr.heap.size wr W -> Calls Tryz.prog 153 #[.agg #[.slice v0 b.gs[k].r.vs.length q0, .string b.gs[k].r.kd, .string b.gs[k].r.tm, .string b.gs[k].r.px]] W fun e w' => e = .returned (.bool v) /\ Below W.heap.size W w') := fun v h W hW => zw h (zm6 b.gs[k].r v0 q0 W HIt.out.2.r (HIt.out.1.mono hW))
      by_cases t1 : Gate.within b.gs[k].no 1 b.given = true
      rotate_left
      · have HF : Hid (Gate.yA b = false) := HNo.out (by unfold Gate.yP; rw [Bool.eq_false_iff.2 t1]; rfl)
        have H1 := HW1 false (Bool.eq_false_iff.2 t1)
        clear HW1 HN1 HN2 HR1 t1
        go_wp2_with fail
        refine (H1.out _).mono ?_
        rintro e w2 ⟨rfl, rfl⟩
        go_wp2_with fail
        go_ret
        exact ⟨ze HF.out.symm, HBw.out _ (HBo.out _)⟩
      have H1 := HW1 true t1
      by_cases t2 : Gate.zy b.gs[k].to = true
      rotate_left
      · have HF : Hid (Gate.yA b = false) := HNo.out (by unfold Gate.yP; rw [t1, Bool.eq_false_iff.2 t2]; rfl)
        have H2 := HN1 false (Bool.eq_false_iff.2 t2)
        clear HW1 HN1 HN2 HR1 t1 t2
        go_wp2_with fail
        refine (H1.out _).mono ?_
        rintro e w2 ⟨rfl, rfl⟩
        go_wp2_with fail
        refine (H2.out _).mono ?_
        rintro e w2 ⟨rfl, rfl⟩
        go_wp2_with fail
        go_ret
        exact ⟨ze HF.out.symm, HBw.out _ (HBo.out _)⟩
      have H2 := HN1 true t2
      by_cases t3 : b.gs[k].gb.toList.isEmpty = true
      · by_cases t5 : Gate.j3 b.gs[k].r = true
        · have HY : Hid ((b.gs.take (k + 1)).all (Gate.yP b.given) = true) := HYes.out (by unfold Gate.yP; rw [t1, t2, t3, t5]; rfl)
          have H5 := HR1 true t5
          clear HW1 HN1 HN2 HR1 t1 t2 t5
          go_wp2_with fail
          refine (H1.out _).mono ?_
          rintro e w2 ⟨rfl, rfl⟩
          go_wp2_with fail
          refine (H2.out _).mono ?_
          rintro e w2 ⟨rfl, rfl⟩
          go_wp2_with fail
          refine (H5.out _ ((Below.refl _ _).alloc (Nat.le_refl _) _)).mono ?_
          rintro e w2 ⟨rfl, hb2⟩
          have HB2 := hid ((HBo.out _).trans (hb2.mono (HBo.out _).size))
          clear hb2
          go_wp2_with fail
          exact ⟨⟨k + 1, by omega, by go_num, HY.out, HB2.out⟩, zk hlt⟩
        · have HF : Hid (Gate.yA b = false) := HNo.out (by unfold Gate.yP; rw [t1, t2, t3, Bool.eq_false_iff.2 t5]; rfl)
          have H5 := HR1 false (Bool.eq_false_iff.2 t5)
          clear HW1 HN1 HN2 HR1 t1 t2 t5
          go_wp2_with fail
          refine (H1.out _).mono ?_
          rintro e w2 ⟨rfl, rfl⟩
          go_wp2_with fail
          refine (H2.out _).mono ?_
          rintro e w2 ⟨rfl, rfl⟩
          go_wp2_with fail
          refine (H5.out _ ((Below.refl _ _).alloc (Nat.le_refl _) _)).mono ?_
          rintro e w2 ⟨rfl, hb2⟩
          have HB2 := hid ((HBo.out _).trans (hb2.mono (HBo.out _).size))
          clear hb2
          go_wp2_with fail
          go_ret
          exact ⟨ze HF.out.symm, HBw.out _ HB2.out⟩
      have t3' := Bool.eq_false_iff.2 t3
      clear t3
      by_cases t4 : Gate.zy b.gs[k].gb = true
      rotate_left
      · have HF : Hid (Gate.yA b = false) := HNo.out (by unfold Gate.yP; rw [t1, t2, t3', Bool.eq_false_iff.2 t4]; rfl)
        have H4 := HN2 false (Bool.eq_false_iff.2 t4)
        clear HW1 HN1 HN2 HR1 t1 t2 t4
        go_wp2_with fail
        refine (H1.out _).mono ?_
        rintro e w2 ⟨rfl, rfl⟩
        go_wp2_with fail
        refine (H2.out _).mono ?_
        rintro e w2 ⟨rfl, rfl⟩
        go_wp2_with fail
        refine (H4.out _).mono ?_
        rintro e w2 ⟨rfl, rfl⟩
        go_wp2_with fail
        go_ret
        exact ⟨ze HF.out.symm, HBw.out _ (HBo.out _)⟩
      have H4 := HN2 true t4
      by_cases t5 : Gate.j3 b.gs[k].r = true
      · have HY : Hid ((b.gs.take (k + 1)).all (Gate.yP b.given) = true) := HYes.out (by unfold Gate.yP; rw [t1, t2, t3', t4, t5]; rfl)
        have H5 := HR1 true t5
        clear HW1 HN1 HN2 HR1 t1 t2 t4 t5
        go_wp2_with fail
        refine (H1.out _).mono ?_
        rintro e w2 ⟨rfl, rfl⟩
        go_wp2_with fail
        refine (H2.out _).mono ?_
        rintro e w2 ⟨rfl, rfl⟩
        go_wp2_with fail
        refine (H4.out _).mono ?_
        rintro e w2 ⟨rfl, rfl⟩
        go_wp2_with fail
        refine (H5.out _ ((Below.refl _ _).alloc (Nat.le_refl _) _)).mono ?_
        rintro e w2 ⟨rfl, hb2⟩
        have HB2 := hid ((HBo.out _).trans (hb2.mono (HBo.out _).size))
        clear hb2
        go_wp2_with fail
        exact ⟨⟨k + 1, by omega, by go_num, HY.out, HB2.out⟩, zk hlt⟩
      · have HF : Hid (Gate.yA b = false) := HNo.out (by unfold Gate.yP; rw [t1, t2, t3', t4, Bool.eq_false_iff.2 t5]; rfl)
        have H5 := HR1 false (Bool.eq_false_iff.2 t5)
        clear HW1 HN1 HN2 HR1 t1 t2 t4 t5
        go_wp2_with fail
        refine (H1.out _).mono ?_
        rintro e w2 ⟨rfl, rfl⟩
        go_wp2_with fail
        refine (H2.out _).mono ?_
        rintro e w2 ⟨rfl, rfl⟩
        go_wp2_with fail
        refine (H4.out _).mono ?_
        rintro e w2 ⟨rfl, rfl⟩
        go_wp2_with fail
        refine (H5.out _ ((Below.refl _ _).alloc (Nat.le_refl _) _)).mono ?_
        rintro e w2 ⟨rfl, hb2⟩
        have HB2 := hid ((HBo.out _).trans (hb2.mono (HBo.out _).size))
        clear hb2
        go_wp2_with fail
        go_ret
        exact ⟨ze HF.out.symm, HBw.out _ HB2.out⟩
    · have e : k = b.gs.length := by omega
      subst e
      have HE : Hid (Gate.yA b = true) := by
        unfold Hid
        rw [HG.out]
        have h := HQ.out.1
        rw [List.take_of_length_le (Nat.le_refl _)] at h
        exact h
      have HBe := hid (HB1.out.trans (HQ.out.2.mono HB1.out.size))
      clear hlt hk HQ
      go_wp2_with fail
      go_ret
      exact ⟨ze HE.out.symm, HBe.out⟩
end Go.Proofs.YtfcdmlnpfoikhaaGreat
