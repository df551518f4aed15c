import Derived.Test.YtfapkhgallmkdaaGreatM30
import Derived.Test.YtfapkhgallmkdaaGreatM16
import Derived.Test.YtfapkhgallmkdaaGreatM13
import Derived.Test.YtfapkhgallmkdaaGreatM10
import Derived.Test.YtfapkhgallmkdaaGreatM07
namespace Go.Proofs.YtfapkhgallmkdaaGreat
open Go.RowKit
namespace Gate
def zab (b : Bk) : Bool := within b.now 0 1000000 && (within b.tick 0 1000000 && within b.given 0 b.now)
def yN (given : Int) (g : Gr) : Bool := within g.no 1 given && (zy g.to && ((g.gb.toList.isEmpty || zy g.gb) && jF g.r))
noncomputable def yt (b : Bk) : Bool := decide (b.gs.length <= 24) && (za7 zbM b.gs && b.gs.all (yN b.given))
def yB (ts : List Tm) (g : Lg) : Bool := yj ts g.tm && (zy g.rs && jk g.fr g.mo 0 1000000)
noncomputable def yE (ts : List Tm) (b : Bk) : Bool := decide (b.ls.length <= 10) && (za7 yS b.ls && b.ls.all (yB ts))
end Gate
set_option maxHeartbeats 1000000 in
theorem ziu (b : Bk) (a0 a1 a2 a3 : Option Addr) (c0 c1 c2 c3 : Nat) (w : World) :
    Calls Tryz.prog 100 #[.agg (b.cells a0 a1 a2 a3 c0 c1 c2 c3)] w fun e w' => e = .returned (.bool (Gate.zab b)) /\ Below w.heap.size w w' := by
  have HB : Hid (∀ ob, Below w.heap.size w (w.alloc ob)) := fun ob => (Below.refl _ _).alloc (Nat.le_refl _) _
  unfold Bk.cells
  by_cases h1 : Gate.within b.now 0 1000000 = true
  rotate_left
  · have h1' : Gate.within b.now 0 1000000 = false := by simpa using h1
    have HF : Hid (Gate.zab b = false) := by unfold Hid Gate.zab; rw [h1']; rfl
    have H1 : Hid (∀ W, Calls Tryz.prog 139 #[.int .i64 b.now, .int .i64 0, .int .i64 1000000] W fun e w' => e = .returned (.bool false) /\ w' = W) := fun W => zk h1' (qG _ _ _ W)
    clear h1 h1'
    go_enter Tryz.func100, Tryz.ntmps100
    go_wp2_with (go_at_call 139; refine (H1.out _).mono ?_; rintro e w2 ⟨rfl, rfl⟩)
    go_ret
    exact ⟨ze HF.out.symm, HB.out _⟩
  by_cases h2 : Gate.within b.tick 0 1000000 = true
  rotate_left
  · have h2' : Gate.within b.tick 0 1000000 = false := by simpa using h2
    have HF : Hid (Gate.zab b = false) := by unfold Hid Gate.zab; rw [h1, h2']; rfl
    have H1 : Hid (∀ W, Calls Tryz.prog 139 #[.int .i64 b.now, .int .i64 0, .int .i64 1000000] W fun e w' => e = .returned (.bool true) /\ w' = W) := fun W => zk h1 (qG _ _ _ W)
    have H2 : Hid (∀ W, Calls Tryz.prog 139 #[.int .i64 b.tick, .int .i64 0, .int .i64 1000000] W fun e w' => e = .returned (.bool false) /\ w' = W) := fun W => zk h2' (qG _ _ _ W)
    clear h1 h2 h2'
    go_enter Tryz.func100, Tryz.ntmps100
    go_wp2_with fail
    refine (H1.out _).mono ?_
    rintro e w2 ⟨rfl, rfl⟩
    go_wp2_with fail
    refine (H2.out _).mono ?_
    rintro e w2 ⟨rfl, rfl⟩
    go_wp2_with fail
    go_ret
    exact ⟨ze HF.out.symm, HB.out _⟩
  · have HF : Hid (Gate.zab b = Gate.within b.given 0 b.now) := by unfold Hid Gate.zab; rw [h1, h2]; rfl
    have H1 : Hid (∀ W, Calls Tryz.prog 139 #[.int .i64 b.now, .int .i64 0, .int .i64 1000000] W fun e w' => e = .returned (.bool true) /\ w' = W) := fun W => zk h1 (qG _ _ _ W)
    have H2 : Hid (∀ W, Calls Tryz.prog 139 #[.int .i64 b.tick, .int .i64 0, .int .i64 1000000] W fun e w' => e = .returned (.bool true) /\ w' = W) := fun W => zk h2 (qG _ _ _ W)
    clear h1 h2
    go_enter Tryz.func100, Tryz.ntmps100
    go_wp2_with fail
    refine (H1.out _).mono ?_
    rintro e w2 ⟨rfl, rfl⟩
    go_wp2_with fail
    refine (H2.out _).mono ?_
    rintro e w2 ⟨rfl, rfl⟩
    go_wp2_with fail
    refine (qG _ _ _ _).mono ?_
    rintro e w2 ⟨rfl, rfl⟩
    go_wp2_with fail
    go_ret
    exact ⟨ze HF.out.symm, HB.out _⟩
set_option maxHeartbeats 4000000 in
theorem ziY (b : Bk) (a0 a1 a2 a3 : Option Addr) (c0 c1 c2 c3 : Nat) (w : World) (hb : qL w b a0 a1 a2 a3) :
    Calls Tryz.prog 102 #[.agg (b.cells a0 a1 a2 a3 c0 c1 c2 c3)] w fun e w' => e = .returned (.bool (Gate.yt b)) /\ Below w.heap.size w w' := by
  have HK := hid hb
  clear hb
  unfold Bk.cells
  by_cases hln : b.gs.length <= 24
  rotate_left
  · have HF : Hid (Gate.yt b = false) := by unfold Hid Gate.yt; rw [decide_eq_false hln]; rfl
    have hg : (24 : Int) < (b.gs.length : Int) := by omega
    go_enter Tryz.func102, Tryz.ntmps102
    go_wp2_with fail
    go_ret
    exact ⟨ze HF.out.symm, (Below.refl _ _).alloc (Nat.le_refl _) _⟩
  have hg : decide ((24 : Int) < (b.gs.length : Int)) = false := by simp; omega
  have HLN : Hid (b.gs.length <= 24) := hln
  clear hln
  go_enter Tryz.func102, Tryz.ntmps102
  go_wp2_with fail
  have hX0 := zG w (bC b a0 a1 a2 a3 c0 c1 c2 c3) 50
  have HB0 : Hid (Below w.heap.size w (w.alloc (.cells (bC b a0 a1 a2 a3 c0 c1 c2 c3) 50))) := (Below.refl _ _).alloc (Nat.le_refl _) _
  obtain ⟨W0, hW0⟩ : ∃ W0, W0 = w.alloc (.cells (bC b a0 a1 a2 a3 c0 c1 c2 c3) 50) := ⟨_, rfl⟩
  have hz0 : w.heap.size < W0.heap.size := by rw [hW0]; simp
  rw [<- hW0] at HB0 hX0 ⊢
  clear hW0
  refine (zg0 _ _ b.gs _ (HK.out.gs.mono HB0.out)).mono ?_
  rintro e w1 ⟨rfl, hb1⟩
  have HB1 := hid (HB0.out.trans (hb1.mono HB0.out.size))
  have hX1 := za hX0 hz0 hb1
  have hz1 := Nat.lt_of_lt_of_le hz0 hb1.size
  clear hb1 hX0 hz0 HB0
  by_cases has : Gate.za7 Gate.zbM b.gs = true
  rotate_left
  · have has' : Gate.za7 Gate.zbM b.gs = false := by simpa using has
    have HF : Hid (Gate.yt b = false) := by unfold Hid Gate.yt; rw [has']; simp
    rw [has']
    clear has has'
    go_wp2_with fail
    go_ret
    exact ⟨ze HF.out.symm, HB1.out⟩
  have HG : Hid (Gate.yt b = b.gs.all (Gate.yN b.given)) := by unfold Hid Gate.yt; rw [has, decide_eq_true HLN.out]; rfl
  rw [has]
  clear has
  go_wp2_with fail
  go_loopw [18] (fun iv wr => ∃ k : Nat, k <= b.gs.length /\ iv = .int .i64 k /\ Hid ((b.gs.take k).all (Gate.yN b.given) = true /\ Below w1.heap.size w1 wr)) (fun iv _ => b.gs.length - (intOf iv).toNat)
  case atStart => exact ⟨0, Nat.zero_le _, rfl, by simp, Below.refl _ _⟩
  case round =>
    obtain ⟨k, hk, rfl, HQ⟩ := hrel
    have hkn : k <= 24 := by have := HLN.out; omega
    by_cases hlt : k < b.gs.length
    · obtain ⟨ob, off, v0, q0, rfl, hob, hsm, hi0, d0, d1, d2, d3, d4, d5, d6⟩ := HK.out.gs.load (HB1.out.trans (HQ.out.2.mono HB1.out.size)) k hlt
      have hob' := Nat.lt_of_lt_of_le hob (HB1.out.trans (HQ.out.2.mono HB1.out.size)).size
      have hltI : (k : Int) < (b.gs.length : Int) := by omega
      have hX := za hX1 hz1 HQ.out.2
      have hz : w.heap.size < wr.heap.size := Nat.lt_of_lt_of_le hz1 HQ.out.2.size
      have HSn : Hid ((b.gs.take (k + 1)).all (Gate.yN b.given) = ((b.gs.take k).all (Gate.yN b.given) && (Gate.yN b.given) b.gs[k])) := Gate.y7 _ _ _ hlt
      have HBo : Hid (∀ ob, Below w1.heap.size w1 (wr.alloc ob)) := fun ob => HQ.out.2.alloc HQ.out.2.size _
      have HBw : Hid (∀ W, Below w1.heap.size w1 W -> Below w.heap.size w W) := fun W hW => HB1.out.trans (hW.mono HB1.out.size)
      have HNo : Hid ((Gate.yN b.given) b.gs[k] = false -> Gate.yt b = false) := fun h => by rw [HG.out]; exact Gate.jT _ _ _ hlt h
      have HYes : Hid ((Gate.yN b.given) b.gs[k] = true -> (b.gs.take (k + 1)).all (Gate.yN b.given) = true) := fun h => by rw [HSn.out, HQ.out.1, h]; rfl
      have HIt := j4 hi0 hsm
      clear hsm hi0
      have HW1 : ∀ v, Gate.within b.gs[k].no 1 b.given = v -> Hid (∀ W, Calls Tryz.prog 139 #[.int .i64 b.gs[k].no, .int .i64 1, .int .i64 b.given] W fun e w' => e = .returned (.bool v) /\ w' = W) := fun v h W => zk h (qG _ _ _ W)
      have HN1 : ∀ v, Gate.zy b.gs[k].to = v -> Hid (∀ W, Calls Tryz.prog 134 #[.string b.gs[k].to] W fun e w' => e = .returned (.bool v) /\ w' = W) := fun v h W => zk h (zN _ W HIt.out.2.to)
      have HN2 : ∀ v, Gate.zy b.gs[k].gb = v -> Hid (∀ W, Calls Tryz.prog 134 #[.string b.gs[k].gb] W fun e w' => e = .returned (.bool v) /\ w' = W) := fun v h W => zk h (zN _ W HIt.out.2.gb)
      have HR1 : ∀ v, Gate.jF b.gs[k].r = v -> Hid (∀ W, Below wr.heap.size wr W -> Calls Tryz.prog 147 #[.agg #[.slice v0 b.gs[k].r.vs.length q0, .string b.gs[k].r.kd, .string b.gs[k].r.tm, .string b.gs[k].r.px]] W fun e w' => e = .returned (.bool v) /\ Below W.heap.size W w') := fun v h W hW => zk h (zmM b.gs[k].r v0 q0 W HIt.out.2.r (HIt.out.1.mono hW))
      by_cases t1 : Gate.within b.gs[k].no 1 b.given = true
      rotate_left
      · have HF : Hid (Gate.yt b = false) := HNo.out (by unfold Gate.yN; rw [Bool.eq_false_iff.2 t1]; rfl)
        have H1 := HW1 false (Bool.eq_false_iff.2 t1)
        clear HW1 HN1 HN2 HR1 t1
        go_wp2_with fail
        refine (H1.out _).mono ?_
        rintro e w2 ⟨rfl, rfl⟩
        go_wp2_with fail
        go_ret
        exact ⟨ze HF.out.symm, HBw.out _ (HBo.out _)⟩
      have H1 := HW1 true t1
      by_cases t2 : Gate.zy b.gs[k].to = true
      rotate_left
      · have HF : Hid (Gate.yt b = false) := HNo.out (by unfold Gate.yN; rw [t1, Bool.eq_false_iff.2 t2]; rfl)
        have H2 := HN1 false (Bool.eq_false_iff.2 t2)
        clear HW1 HN1 HN2 HR1 t1 t2
        go_wp2_with fail
        refine (H1.out _).mono ?_
        rintro e w2 ⟨rfl, rfl⟩
        go_wp2_with fail
        refine (H2.out _).mono ?_
        rintro e w2 ⟨rfl, rfl⟩
        go_wp2_with fail
        go_ret
        exact ⟨ze HF.out.symm, HBw.out _ (HBo.out _)⟩
      have H2 := HN1 true t2
      by_cases t3 : b.gs[k].gb.toList.isEmpty = true
      · by_cases t5 : Gate.jF b.gs[k].r = true
        · have HY : Hid ((b.gs.take (k + 1)).all (Gate.yN b.given) = true) := HYes.out (by unfold Gate.yN; rw [t1, t2, t3, t5]; rfl)
          have H5 := HR1 true t5
          clear HW1 HN1 HN2 HR1 t1 t2 t5
          go_wp2_with fail
          refine (H1.out _).mono ?_
          rintro e w2 ⟨rfl, rfl⟩
          go_wp2_with fail
          refine (H2.out _).mono ?_
          rintro e w2 ⟨rfl, rfl⟩
          go_wp2_with fail
          refine (H5.out _ ((Below.refl _ _).alloc (Nat.le_refl _) _)).mono ?_
          rintro e w2 ⟨rfl, hb2⟩
          have HB2 := hid ((HBo.out _).trans (hb2.mono (HBo.out _).size))
          clear hb2
          go_wp2_with fail
          exact ⟨⟨k + 1, by omega, by go_num, HY.out, HB2.out⟩, zm hlt⟩
        · have HF : Hid (Gate.yt b = false) := HNo.out (by unfold Gate.yN; rw [t1, t2, t3, Bool.eq_false_iff.2 t5]; rfl)
          have H5 := HR1 false (Bool.eq_false_iff.2 t5)
          clear HW1 HN1 HN2 HR1 t1 t2 t5
          go_wp2_with fail
          refine (H1.out _).mono ?_
          rintro e w2 ⟨rfl, rfl⟩
          go_wp2_with fail
          refine (H2.out _).mono ?_
          rintro e w2 ⟨rfl, rfl⟩
          go_wp2_with fail
          refine (H5.out _ ((Below.refl _ _).alloc (Nat.le_refl _) _)).mono ?_
          rintro e w2 ⟨rfl, hb2⟩
          have HB2 := hid ((HBo.out _).trans (hb2.mono (HBo.out _).size))
          clear hb2
          go_wp2_with fail
          go_ret
          exact ⟨ze HF.out.symm, HBw.out _ HB2.out⟩
      have t3' := Bool.eq_false_iff.2 t3
      clear t3
      by_cases t4 : Gate.zy b.gs[k].gb = true
      rotate_left
      · have HF : Hid (Gate.yt b = false) := HNo.out (by unfold Gate.yN; rw [t1, t2, t3', Bool.eq_false_iff.2 t4]; rfl)
        have H4 := HN2 false (Bool.eq_false_iff.2 t4)
        clear HW1 HN1 HN2 HR1 t1 t2 t4
        go_wp2_with fail
        refine (H1.out _).mono ?_
        rintro e w2 ⟨rfl, rfl⟩
        go_wp2_with fail
        refine (H2.out _).mono ?_
        rintro e w2 ⟨rfl, rfl⟩
        go_wp2_with fail
        refine (H4.out _).mono ?_
        rintro e w2 ⟨rfl, rfl⟩
        go_wp2_with fail
        go_ret
        exact ⟨ze HF.out.symm, HBw.out _ (HBo.out _)⟩
      have H4 := HN2 true t4
      by_cases t5 : Gate.jF b.gs[k].r = true
      · have HY : Hid ((b.gs.take (k + 1)).all (Gate.yN b.given) = true) := HYes.out (by unfold Gate.yN; rw [t1, t2, t3', t4, t5]; rfl)
        have H5 := HR1 true t5
        clear HW1 HN1 HN2 HR1 t1 t2 t4 t5
        go_wp2_with fail
        refine (H1.out _).mono ?_
        rintro e w2 ⟨rfl, rfl⟩
        go_wp2_with fail
        refine (H2.out _).mono ?_
        rintro e w2 ⟨rfl, rfl⟩
        go_wp2_with fail
        refine (H4.out _).mono ?_
        rintro e w2 ⟨rfl, rfl⟩
        go_wp2_with fail
        refine (H5.out _ ((Below.refl _ _).alloc (Nat.le_refl _) _)).mono ?_
        rintro e w2 ⟨rfl, hb2⟩
        have HB2 := hid ((HBo.out _).trans (hb2.mono (HBo.out _).size))
        clear hb2
        go_wp2_with fail
        exact ⟨⟨k + 1, by omega, by go_num, HY.out, HB2.out⟩, zm hlt⟩
      · have HF : Hid (Gate.yt b = false) := HNo.out (by unfold Gate.yN; rw [t1, t2, t3', t4, Bool.eq_false_iff.2 t5]; rfl)
        have H5 := HR1 false (Bool.eq_false_iff.2 t5)
        clear HW1 HN1 HN2 HR1 t1 t2 t4 t5
        go_wp2_with fail
        refine (H1.out _).mono ?_
        rintro e w2 ⟨rfl, rfl⟩
        go_wp2_with fail
        refine (H2.out _).mono ?_
        rintro e w2 ⟨rfl, rfl⟩
        go_wp2_with fail
        refine (H4.out _).mono ?_
        rintro e w2 ⟨rfl, rfl⟩
        go_wp2_with fail
        refine (H5.out _ ((Below.refl _ _).alloc (Nat.le_refl _) _)).mono ?_
        rintro e w2 ⟨rfl, hb2⟩
        have HB2 := hid ((HBo.out _).trans (hb2.mono (HBo.out _).size))
        clear hb2
        go_wp2_with fail
        go_ret
        exact ⟨ze HF.out.symm, HBw.out _ HB2.out⟩
    · have e : k = b.gs.length := by omega
      subst e
      have HE : Hid (Gate.yt b = true) := by
        unfold Hid
        rw [HG.out]
        have h := HQ.out.1
        rw [List.take_of_length_le (Nat.le_refl _)] at h
        exact h
      have HBe := hid (HB1.out.trans (HQ.out.2.mono HB1.out.size))
      clear hlt hk HQ
      go_wp2_with fail
      go_ret
      exact ⟨ze HE.out.symm, HBe.out⟩
end Go.Proofs.YtfapkhgallmkdaaGreat
