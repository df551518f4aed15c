import Derived.Test.YtkfigdbbncjojaaGreatM52
import Derived.Test.YtkfigdbbncjojaaGreatM44
import Derived.Test.YtkfigdbbncjojaaGreatM50
import Derived.Test.YtkfigdbbncjojaaGreatM53
import Derived.Test.YtkfigdbbncjojaaGreatM37
namespace Go.Proofs.YtkfigdbbncjojaaGreat
open Go.RowKit
namespace Gate
noncomputable def zam (l : Lw) (b : Bk) : Bool := jV b && (zS l b && (yu b && (yw l.ts b && (yD b && zbx l b))))
noncomputable def j3 (l : Lw) (b : Bk) : Bool := zbe l && zam l b
end Gate
theorem zb2 {ts : List Tm} {b : Bk} (h : Gate.yw ts b = true) : Gate.rising Gate.yL b.ls /\ b.ls.length <= 10 /\ ∀ i (hi : i < b.ls.length), Gate.yj ts b.ls[i] = true := by
  unfold Gate.yw at h
  simp only [Bool.and_eq_true, decide_eq_true_eq] at h
  exact ⟨(Gate.zko _ _).1 h.2.1, h.1, fun i hi => List.all_eq_true.1 h.2.2 _ (List.getElem_mem _)⟩
theorem zi4 {b : Bk} (h : Gate.jV b = true) : 0 <= b.tick /\ b.tick <= 1000000 := by
  unfold Gate.jV Gate.within at h
  simp only [Bool.and_eq_true, decide_eq_true_eq] at h
  exact h.2.1
theorem zja {b : Bk} (h : Gate.yD b = true) : b.ps.length <= 24 /\ ∀ i (hi : i < b.ps.length), Gate.yE b.ls b.tick b.ps[i] = true := by
  unfold Gate.yD at h
  simp only [Bool.and_eq_true, decide_eq_true_eq] at h
  exact ⟨h.1, fun i hi => List.all_eq_true.1 h.2.2 _ (List.getElem_mem _)⟩
theorem zl3 {b : Bk} (h : Gate.rising Gate.yL b.ls) : ∀ i j (hi : i < b.ls.length) (hj : j < b.ls.length), b.ls[i].tm = b.ls[j].tm -> b.ls[i].rs = b.ls[j].rs -> i = j := by
  intro i j hi hj e1 e2
  have hz : ∀ i j (hi : i < b.ls.length) (hj : j < b.ls.length), i < j -> b.ls[i].tm = b.ls[j].tm -> b.ls[i].rs = b.ls[j].rs -> False := by
    intro i j hi hj hlt e1 e2
    have h1 := Gate.zb9 (fun a b c => Gate.zaw (a := a) (b := b) (c := c)) h j hj i hlt
    have h2 : Gate.yL b.ls[i] b.ls[j] = 0 := by unfold Gate.yL; rw [Gate.ze6]; exact ⟨e1, e2⟩
    omega
  rcases Nat.lt_trichotomy i j with h1 | h1 | h1
  · exact (hz i j hi hj h1 e1 e2).elim
  · exact h1
  · exact (hz j i hj hi h1 e1.symm e2.symm).elim
theorem zni {ts : List Tm} {b : Bk} (h : Gate.yw ts b = true) (h' : Gate.yD b = true) (hz : ql b.os <= 1048576) : zgx b := by
  obtain ⟨h1, h2, h3⟩ := zb2 h
  obtain ⟨p1, p2⟩ := zja h'
  refine ⟨zl3 h1, fun k hk => ?_, fun i hi => ?_, fun i hi => ?_, by omega, by omega, hz⟩
  · have h4 := p2 k hk
    unfold Gate.yE Gate.ji at h4
    simp only [Bool.and_eq_true] at h4
    obtain ⟨g, hg, h5⟩ := List.any_eq_true.1 h4.1
    obtain ⟨j, hj, rfl⟩ := List.mem_iff_getElem.1 hg
    simp only [Bool.and_eq_true, decide_eq_true_eq] at h5
    exact ⟨j, hj, h5.1, h5.2⟩
  · have h4 := h3 i hi
    unfold Gate.yj Gate.qV at h4
    simp only [Bool.and_eq_true, decide_eq_true_eq] at h4
    omega
  · have h4 := p2 i hi
    unfold Gate.yE Gate.within at h4
    simp only [Bool.and_eq_true, decide_eq_true_eq] at h4
    omega
set_option maxRecDepth 20000 in
set_option maxHeartbeats 4000000 in
theorem zlB (l : Lw) (la lb lc : Option Addr) (lca lcb lcc : Nat) (b : Bk) (a0 a1 a2 a3 : Option Addr) (c0 c1 c2 c3 : Nat) (w : World) (hb : qY w b a0 a1 a2 a3) (hl : qO w l la lb lc) (hml : l.ms.length <= 1048576) (hok : Gate.zY l.ss l.ms = true) (hfw : ∀ i (h : i < b.os.length), b.os[i].vs.length <= 1048576 /\ b.os[i].hs.length <= 1048576) (hz : ql b.os <= 1048576) :
    Calls Tryz.prog 32 #[.agg (lC l la lb lc lca lcb lcc), .agg (bC b a0 a1 a2 a3 c0 c1 c2 c3)] w fun e w' => e = .returned (.bool (Gate.zam l b)) /\ Below w.heap.size w w' := by
  have HK := hid hb
  have HL := hid hl
  have HF : Hid (l.ms.length <= 1048576 /\ Gate.zY l.ss l.ms = true /\ (∀ i (h : i < b.os.length), b.os[i].vs.length <= 1048576 /\ b.os[i].hs.length <= 1048576) /\ ql b.os <= 1048576) := ⟨hml, hok, hfw, hz⟩
  clear hb hl hml hok hfw hz
  go_enter Tryz.func32, Tryz.ntmps32
  go_wp2_with fail
  obtain ⟨hL0, hX0⟩ := qw w (lC l la lb lc lca lcb lcc) (bC b a0 a1 a2 a3 c0 c1 c2 c3) 40 47
  have HBi : Hid (Below w.heap.size w ((w.alloc (.cells (lC l la lb lc lca lcb lcc) 40)).alloc (.cells (bC b a0 a1 a2 a3 c0 c1 c2 c3) 47))) := zq w _ _
  obtain ⟨W0, hW0⟩ : ∃ W0, W0 = (w.alloc (.cells (lC l la lb lc lca lcb lcc) 40)).alloc (.cells (bC b a0 a1 a2 a3 c0 c1 c2 c3) 47) := ⟨_, rfl⟩
  have hz0 : w.heap.size + 1 < W0.heap.size := by rw [hW0]; simp
  rw [<- hW0] at HBi hX0 hL0 ⊢
  clear hW0
  refine (zhU b a0 a1 a2 a3 c0 c1 c2 c3 _).mono ?_
  rintro e w1 ⟨rfl, hb0⟩
  have hX1 := za hX0 hz0 hb0
  have hL1 := za hL0 (Nat.lt_of_succ_lt hz0) hb0
  have hz1 := Nat.lt_of_lt_of_le hz0 hb0.size
  have hy1 := Nat.lt_of_succ_lt hz1
  have HBi := hid (HBi.out.trans (hb0.mono HBi.out.size))
  clear hb0 hX0 hL0 hz0
  by_cases t : Gate.jV b = true
  rotate_left
  · have HN : Hid (Gate.zam l b = false) := by unfold Hid Gate.zam; rw [Bool.eq_false_iff.2 t]; rfl
    rw [Bool.eq_false_iff.2 t]
    clear t
    go_wp2_with fail
    go_ret
    exact ⟨ze HN.out.symm, HBi.out⟩
  have HT0 := hid t
  rw [t]
  clear t
  go_wp2_with fail
  refine (zhc l la lb lc lca lcb lcc b a0 a1 a2 a3 c0 c1 c2 c3 _ (HK.out.mono HBi.out) (HL.out.mono HBi.out) HF.out.1 HF.out.2.1 HF.out.2.2.1).mono ?_
  rintro e w2 ⟨rfl, hb1⟩
  have hX2 := za hX1 hz1 hb1
  have hL2 := za hL1 (Nat.lt_of_succ_lt hz1) hb1
  have hz2 := Nat.lt_of_lt_of_le hz1 hb1.size
  have hy2 := Nat.lt_of_succ_lt hz2
  have HBi := hid (HBi.out.trans (hb1.mono HBi.out.size))
  clear hb1 hX1 hL1 hz1 hy1
  by_cases t : Gate.zS l b = true
  rotate_left
  · have HN : Hid (Gate.zam l b = false) := by unfold Hid Gate.zam; rw [HT0.out, Bool.eq_false_iff.2 t]; rfl
    rw [Bool.eq_false_iff.2 t]
    clear t
    go_wp2_with fail
    go_ret
    exact ⟨ze HN.out.symm, HBi.out⟩
  have HT1 := hid t
  rw [t]
  clear t
  go_wp2_with fail
  refine (zh3 b a0 a1 a2 a3 c0 c1 c2 c3 _ (HK.out.mono HBi.out)).mono ?_
  rintro e w3 ⟨rfl, hb2⟩
  have hX3 := za hX2 hz2 hb2
  have hL3 := za hL2 (Nat.lt_of_succ_lt hz2) hb2
  have hz3 := Nat.lt_of_lt_of_le hz2 hb2.size
  have hy3 := Nat.lt_of_succ_lt hz3
  have HBi := hid (HBi.out.trans (hb2.mono HBi.out.size))
  clear hb2 hX2 hL2 hz2 hy2
  by_cases t : Gate.yu b = true
  rotate_left
  · have HN : Hid (Gate.zam l b = false) := by unfold Hid Gate.zam; rw [HT0.out, HT1.out, Bool.eq_false_iff.2 t]; rfl
    rw [Bool.eq_false_iff.2 t]
    clear t
    go_wp2_with fail
    go_ret
    exact ⟨ze HN.out.symm, HBi.out⟩
  have HT2 := hid t
  rw [t]
  clear t
  go_wp2_with fail
  refine (zht l la lb lc lca lcb lcc b a0 a1 a2 a3 c0 c1 c2 c3 _ (HK.out.mono HBi.out) (HL.out.mono HBi.out)).mono ?_
  rintro e w4 ⟨rfl, hb3⟩
  have hX4 := za hX3 hz3 hb3
  have hL4 := za hL3 (Nat.lt_of_succ_lt hz3) hb3
  have hz4 := Nat.lt_of_lt_of_le hz3 hb3.size
  have hy4 := Nat.lt_of_succ_lt hz4
  have HBi := hid (HBi.out.trans (hb3.mono HBi.out.size))
  clear hb3 hX3 hL3 hz3 hy3
  by_cases t : Gate.yw l.ts b = true
  rotate_left
  · have HN : Hid (Gate.zam l b = false) := by unfold Hid Gate.zam; rw [HT0.out, HT1.out, HT2.out, Bool.eq_false_iff.2 t]; rfl
    rw [Bool.eq_false_iff.2 t]
    clear t
    go_wp2_with fail
    go_ret
    exact ⟨ze HN.out.symm, HBi.out⟩
  have HT3 := hid t
  rw [t]
  clear t
  go_wp2_with fail
  refine (zin b a0 a1 a2 a3 c0 c1 c2 c3 _ (HK.out.mono HBi.out) (zb2 HT3.out).1 (zb2 HT3.out).2.1 (zi4 HT0.out)).mono ?_
  rintro e w5 ⟨rfl, hb4⟩
  have hX5 := za hX4 hz4 hb4
  have hL5 := za hL4 (Nat.lt_of_succ_lt hz4) hb4
  have hz5 := Nat.lt_of_lt_of_le hz4 hb4.size
  have hy5 := Nat.lt_of_succ_lt hz5
  have HBi := hid (HBi.out.trans (hb4.mono HBi.out.size))
  clear hb4 hX4 hL4 hz4 hy4
  by_cases t : Gate.yD b = true
  rotate_left
  · have HN : Hid (Gate.zam l b = false) := by unfold Hid Gate.zam; rw [HT0.out, HT1.out, HT2.out, HT3.out, Bool.eq_false_iff.2 t]; rfl
    rw [Bool.eq_false_iff.2 t]
    clear t
    go_wp2_with fail
    go_ret
    exact ⟨ze HN.out.symm, HBi.out⟩
  have HT4 := hid t
  rw [t]
  clear t
  go_wp2_with fail
  refine (zkh l la lb lc lca lcb lcc b a0 a1 a2 a3 c0 c1 c2 c3 _ (HL.out.mono HBi.out) (HK.out.mono HBi.out) (zni HT3.out HT4.out HF.out.2.2.2)).mono ?_
  rintro e w6 ⟨rfl, hb5⟩
  have HBe := hid (HBi.out.trans (hb5.mono HBi.out.size))
  have HN : Hid (Gate.zbx l b = Gate.zam l b) := by unfold Hid Gate.zam; rw [HT0.out, HT1.out, HT2.out, HT3.out, HT4.out]; rfl
  rw [HN.out]
  clear hb5 hX5 hL5 hz5 hy5
  go_wp2_with fail
  go_ret
  exact ⟨rfl, HBe.out⟩
set_option maxRecDepth 20000 in
set_option maxHeartbeats 4000000 in
theorem zhK (l : Lw) (la lb lc : Option Addr) (lca lcb lcc : Nat) (b : Bk) (a0 a1 a2 a3 : Option Addr) (c0 c1 c2 c3 : Nat) (w : World) (hl : qO w l la lb lc) (hb : qY w b a0 a1 a2 a3) (hlf : l.Few) (hbf : b.Few) (hz : ql b.os <= 1048576) :
    Calls Tryz.prog 9 #[.agg (l.cells la lb lc lca lcb lcc), .agg (b.cells a0 a1 a2 a3 c0 c1 c2 c3)] w fun e w' => e = .returned (.bool (Gate.j3 l b)) /\ Below w.heap.size w w' := by
  have HK := hid hb
  have HL := hid hl
  have HF : Hid (l.Few /\ b.Few /\ ql b.os <= 1048576) := ⟨hlf, hbf, hz⟩
  clear hb hl hlf hbf hz
  unfold Lw.cells Bk.cells
  go_enter Tryz.func9, Tryz.ntmps9
  go_wp2_with fail
  obtain ⟨hL0, hX0⟩ := qw w (lC l la lb lc lca lcb lcc) (bC b a0 a1 a2 a3 c0 c1 c2 c3) 40 47
  have HBi : Hid (Below w.heap.size w ((w.alloc (.cells (lC l la lb lc lca lcb lcc) 40)).alloc (.cells (bC b a0 a1 a2 a3 c0 c1 c2 c3) 47))) := zq w _ _
  obtain ⟨W0, hW0⟩ : ∃ W0, W0 = (w.alloc (.cells (lC l la lb lc lca lcb lcc) 40)).alloc (.cells (bC b a0 a1 a2 a3 c0 c1 c2 c3) 47) := ⟨_, rfl⟩
  have hz0 : w.heap.size + 1 < W0.heap.size := by rw [hW0]; simp
  rw [<- hW0] at HBi hX0 hL0 ⊢
  clear hW0
  refine (zie l la lb lc lca lcb lcc _ (HL.out.mono HBi.out) HF.out.1).mono ?_
  rintro e w1 ⟨rfl, hb0⟩
  have hX1 := za hX0 hz0 hb0
  have hL1 := za hL0 (Nat.lt_of_succ_lt hz0) hb0
  have hz1 := Nat.lt_of_lt_of_le hz0 hb0.size
  have hy1 := Nat.lt_of_succ_lt hz1
  have HBi := hid (HBi.out.trans (hb0.mono HBi.out.size))
  clear hb0 hX0 hL0 hz0
  by_cases t : Gate.zbe l = true
  rotate_left
  · have HN : Hid (Gate.j3 l b = false) := by unfold Hid Gate.j3; rw [Bool.eq_false_iff.2 t]; rfl
    rw [Bool.eq_false_iff.2 t]
    clear t
    go_wp2_with fail
    go_ret
    exact ⟨ze HN.out.symm, HBi.out⟩
  have HN : Hid (Gate.zam l b = Gate.j3 l b) := by unfold Hid Gate.j3; rw [t]; rfl
  have HM : Hid (Gate.zY l.ss l.ms = true) := by unfold Gate.zbe at t; simp only [Bool.and_eq_true] at t; exact t.1
  rw [t]
  clear t
  go_wp2_with fail
  refine (zlB l la lb lc lca lcb lcc b a0 a1 a2 a3 c0 c1 c2 c3 _ (HK.out.mono HBi.out) (HL.out.mono HBi.out) HF.out.1.ms HM.out HF.out.2.1.os.2 HF.out.2.2).mono ?_
  rintro e w2 ⟨rfl, hb1⟩
  have HBe := hid (HBi.out.trans (hb1.mono HBi.out.size))
  rw [HN.out]
  clear hb1 hX1 hL1 hz1 hy1
  go_wp2_with fail
  go_ret
  exact ⟨rfl, HBe.out⟩
end Go.Proofs.YtkfigdbbncjojaaGreat

namespace Go.Proofs.YtkfigdbbncjojaaGreat
open Go.RowKit
theorem zar (l : Lw) (b : Bk) : Gate.j3 l b = (Gate.zbe l && ((Gate.within b.now 0 1000000 && (Gate.within b.tick 0 1000000 && Gate.within b.given 0 b.now)) && (Gate.zS l b && (Gate.yu b && Gate.qJ l b)))) := rfl
theorem zc7 (n lo hi : Int) (w : World) : Calls Tryz.prog 20 #[.int .i64 n, .int .i64 lo, .int .i64 hi] w fun e w' => e = .returned (.bool (Gate.within n lo hi)) /\ w' = w := jh n lo hi w
theorem zmB {n lo hi : Int} (h : Gate.within n lo hi = true) : lo <= n /\ n <= hi := by unfold Gate.within at h; simpa using h
set_option maxRecDepth 20000 in
set_option maxHeartbeats 4000000 in
theorem zgE (l : Lw) (la lb lc : Option Addr) (lca lcb lcc : Nat) (b : Bk) (a0 a1 a2 a3 : Option Addr) (c0 c1 c2 c3 : Nat) (w : World) (hl : qO w l la lb lc) (hb : qY w b a0 a1 a2 a3) (hh : zbu w a0 b.os) (hbf : b.Few) (hz : ql b.os <= 1048576) :
    Calls Tryz.prog 6 #[.agg (l.cells la lb lc lca lcb lcc), .agg (b.cells a0 a1 a2 a3 c0 c1 c2 c3)] w fun e w' => e = .returned (.bool (Gate.j3 l b)) /\ Below w.heap.size w w' := by
  have HK := hid hb
  have HL := hid hl
  have HH := hid hh
  have HF : Hid (b.Few /\ ql b.os <= 1048576) := ⟨hbf, hz⟩
  clear hb hl hh hbf hz
  unfold Lw.cells Bk.cells
  go_enter Tryz.func6, Tryz.ntmps6
  go_wp2_with fail
  obtain ⟨hL0, hX0⟩ := qw w (lC l la lb lc lca lcb lcc) (bC b a0 a1 a2 a3 c0 c1 c2 c3) 40 47
  have HBi : Hid (Below w.heap.size w ((w.alloc (.cells (lC l la lb lc lca lcb lcc) 40)).alloc (.cells (bC b a0 a1 a2 a3 c0 c1 c2 c3) 47))) := zq w _ _
  obtain ⟨W0, hW0⟩ : ∃ W0, W0 = (w.alloc (.cells (lC l la lb lc lca lcb lcc) 40)).alloc (.cells (bC b a0 a1 a2 a3 c0 c1 c2 c3) 47) := ⟨_, rfl⟩
  have hz0 : w.heap.size + 1 < W0.heap.size := by rw [hW0]; simp
  rw [<- hW0] at HBi hX0 hL0 ⊢
  clear hW0
  refine (zh6 l la lb lc lca lcb lcc _ (HL.out.mono HBi.out)).mono ?_
  rintro e w1 ⟨rfl, hb0⟩
  have hX1 := za hX0 hz0 hb0
  have hL1 := za hL0 (Nat.lt_of_succ_lt hz0) hb0
  have hz1 := Nat.lt_of_lt_of_le hz0 hb0.size
  have HBi := hid (HBi.out.trans (hb0.mono HBi.out.size))
  clear hb0 hX0 hL0 hz0
  have hy1 := Nat.lt_of_succ_lt hz1
  by_cases t : Gate.zbe l = true
  rotate_left
  · have HN : Hid (Gate.j3 l b = false) := by rw [Hid, zar, Bool.eq_false_iff.2 t]; simp
    rw [Bool.eq_false_iff.2 t]
    clear t
    go_wp2_with fail
    go_ret
    exact ⟨ze HN.out.symm, HBi.out⟩
  have HT0 := hid t
  rw [t]
  clear t
  go_wp2_with fail
  have HM : Hid (Gate.zY l.ss l.ms = true) := by have t := HT0.out; unfold Gate.zbe at t; simp only [Bool.and_eq_true] at t; exact t.1
  refine (zc7 b.now (0) (1000000) _).mono ?_
  rintro e w2 ⟨rfl, rfl⟩
  have hX2 := hX1
  have hL2 := hL1
  have hz2 := hz1
  clear hX1 hL1 hz1
  have hy2 := Nat.lt_of_succ_lt hz2
  have hcv : Gate.within b.now 0 1000000 = Gate.within b.now 0 1000000 := rfl
  clear hcv
  by_cases t : Gate.within b.now 0 1000000 = true
  rotate_left
  · have HN : Hid (Gate.j3 l b = false) := by rw [Hid, zar, HT0.out, Bool.eq_false_iff.2 t]; simp
    rw [Bool.eq_false_iff.2 t]
    clear t
    go_wp2_with fail
    go_ret
    exact ⟨ze HN.out.symm, HBi.out⟩
  have HT1 := hid t
  rw [t]
  clear t
  go_wp2_with fail
  refine (zc7 b.tick (0) (1000000) _).mono ?_
  rintro e w3 ⟨rfl, rfl⟩
  have hX3 := hX2
  have hL3 := hL2
  have hz3 := hz2
  clear hX2 hL2 hz2
  have hy3 := Nat.lt_of_succ_lt hz3
  have hcv : Gate.within b.tick 0 1000000 = Gate.within b.tick 0 1000000 := rfl
  clear hcv
  by_cases t : Gate.within b.tick 0 1000000 = true
  rotate_left
  · have HN : Hid (Gate.j3 l b = false) := by rw [Hid, zar, HT0.out, HT1.out, Bool.eq_false_iff.2 t]; simp
    rw [Bool.eq_false_iff.2 t]
    clear t
    go_wp2_with fail
    go_ret
    exact ⟨ze HN.out.symm, HBi.out⟩
  have HT2 := hid t
  rw [t]
  clear t
  go_wp2_with fail
  refine (zc7 b.given (0) (b.now) _).mono ?_
  rintro e w4 ⟨rfl, rfl⟩
  have hX4 := hX3
  have hL4 := hL3
  have hz4 := hz3
  clear hX3 hL3 hz3
  have hy4 := Nat.lt_of_succ_lt hz4
  have hcv : Gate.within b.given 0 b.now = Gate.within b.given 0 b.now := rfl
  clear hcv
  by_cases t : Gate.within b.given 0 b.now = true
  rotate_left
  · have HN : Hid (Gate.j3 l b = false) := by rw [Hid, zar, HT0.out, HT1.out, HT2.out, Bool.eq_false_iff.2 t]; simp
    rw [Bool.eq_false_iff.2 t]
    clear t
    go_wp2_with fail
    go_ret
    exact ⟨ze HN.out.symm, HBi.out⟩
  have HT3 := hid t
  rw [t]
  clear t
  go_wp2_with fail
  refine (zf1 l la lb lc lca lcb lcc b a0 a1 a2 a3 c0 c1 c2 c3 _ (HL.out.mono HBi.out) (HK.out.mono HBi.out) (HH.out.mono HBi.out) HM.out HF.out.1.os.2).mono ?_
  rintro e w5 ⟨rfl, hb4⟩
  have hX5 := za hX4 hz4 hb4
  have hL5 := za hL4 (Nat.lt_of_succ_lt hz4) hb4
  have hz5 := Nat.lt_of_lt_of_le hz4 hb4.size
  have HBi := hid (HBi.out.trans (hb4.mono HBi.out.size))
  clear hb4 hX4 hL4 hz4
  have hy5 := Nat.lt_of_succ_lt hz5
  by_cases t : Gate.zS l b = true
  rotate_left
  · have HN : Hid (Gate.j3 l b = false) := by rw [Hid, zar, HT0.out, HT1.out, HT2.out, HT3.out, Bool.eq_false_iff.2 t]; simp
    rw [Bool.eq_false_iff.2 t]
    clear t
    go_wp2_with fail
    go_ret
    exact ⟨ze HN.out.symm, HBi.out⟩
  have HT4 := hid t
  rw [t]
  clear t
  go_wp2_with fail
  refine (zgJ b a0 a1 a2 a3 c0 c1 c2 c3 _ (HK.out.mono HBi.out)).mono ?_
  rintro e w6 ⟨rfl, hb5⟩
  have hX6 := za hX5 hz5 hb5
  have hL6 := za hL5 (Nat.lt_of_succ_lt hz5) hb5
  have hz6 := Nat.lt_of_lt_of_le hz5 hb5.size
  have HBi := hid (HBi.out.trans (hb5.mono HBi.out.size))
  clear hb5 hX5 hL5 hz5
  have hy6 := Nat.lt_of_succ_lt hz6
  by_cases t : Gate.yu b = true
  rotate_left
  · have HN : Hid (Gate.j3 l b = false) := by rw [Hid, zar, HT0.out, HT1.out, HT2.out, HT3.out, HT4.out, Bool.eq_false_iff.2 t]; simp
    rw [Bool.eq_false_iff.2 t]
    clear t
    go_wp2_with fail
    go_ret
    exact ⟨ze HN.out.symm, HBi.out⟩
  have HT5 := hid t
  rw [t]
  clear t
  go_wp2_with fail
  refine (zi3 l la lb lc lca lcb lcc b a0 a1 a2 a3 c0 c1 c2 c3 _ (HL.out.mono HBi.out) (HK.out.mono HBi.out) (zmB HT2.out) HF.out.2).mono ?_
  rintro e w7 ⟨rfl, hb6⟩
  have hX7 := za hX6 hz6 hb6
  have hL7 := za hL6 (Nat.lt_of_succ_lt hz6) hb6
  have hz7 := Nat.lt_of_lt_of_le hz6 hb6.size
  have HBi := hid (HBi.out.trans (hb6.mono HBi.out.size))
  clear hb6 hX6 hL6 hz6
  have hy7 := Nat.lt_of_succ_lt hz7
  have HN : Hid (Gate.qJ l b = Gate.j3 l b) := by rw [Hid, zar, HT0.out, HT1.out, HT2.out, HT3.out, HT4.out, HT5.out]; rfl
  rw [HN.out]
  go_wp2_with fail
  go_ret
  exact ⟨rfl, HBi.out⟩
end Go.Proofs.YtkfigdbbncjojaaGreat
