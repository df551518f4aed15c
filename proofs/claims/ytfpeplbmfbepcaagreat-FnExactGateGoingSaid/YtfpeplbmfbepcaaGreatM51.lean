import Derived.Test.YtfpeplbmfbepcaaGreatM50
import Derived.Test.YtfpeplbmfbepcaaGreatM44
import Derived.Test.YtfpeplbmfbepcaaGreatM23
import Derived.Test.YtfpeplbmfbepcaaGreatM03
import Derived.Test.YtfpeplbmfbepcaaGreatM11
import Derived.Test.YtfpeplbmfbepcaaGreatM13
import Derived.Test.YtfpeplbmfbepcaaGreatM43
namespace Go.Proofs.YtfpeplbmfbepcaaGreat
open Go.RowKit
namespace Gate
noncomputable def zaD (l : Lw) (b : Bk) : Bool := zaq b && (zK l b && (yB b && (yC l.ts b && (yJ b && zb6 l b))))
noncomputable def jI (l : Lw) (b : Bk) : Bool := zbN l && zaD l b
end Gate
theorem zcP {ts : List Tm} {b : Bk} (h : Gate.yC ts b = true) : Gate.rising Gate.yU b.ls /\ b.ls.length <= 10 /\ ∀ i (hi : i < b.ls.length), Gate.yw ts b.ls[i] = true := by
  unfold Gate.yC at h
  simp only [Bool.and_eq_true, decide_eq_true_eq] at h
  exact ⟨(Gate.zh9 _ _).1 h.2.1, h.1, fun i hi => List.all_eq_true.1 h.2.2 _ (List.getElem_mem _)⟩
theorem zlh {b : Bk} (h : Gate.zaq b = true) : 0 <= b.tick /\ b.tick <= 1000000 := by
  unfold Gate.zaq Gate.within at h
  simp only [Bool.and_eq_true, decide_eq_true_eq] at h
  exact h.2.1
theorem zlC {b : Bk} (h : Gate.yJ b = true) : b.ps.length <= 24 /\ ∀ i (hi : i < b.ps.length), Gate.yK b.ls b.tick b.ps[i] = true := by
  unfold Gate.yJ at h
  simp only [Bool.and_eq_true, decide_eq_true_eq] at h
  exact ⟨h.1, fun i hi => List.all_eq_true.1 h.2.2 _ (List.getElem_mem _)⟩
theorem znN {b : Bk} (h : Gate.rising Gate.yU b.ls) : ∀ i j (hi : i < b.ls.length) (hj : j < b.ls.length), b.ls[i].tm = b.ls[j].tm -> b.ls[i].rs = b.ls[j].rs -> i = j := by
  intro i j hi hj e1 e2
  have hz : ∀ i j (hi : i < b.ls.length) (hj : j < b.ls.length), i < j -> b.ls[i].tm = b.ls[j].tm -> b.ls[i].rs = b.ls[j].rs -> False := by
    intro i j hi hj hlt e1 e2
    have h1 := Gate.zb3 (fun a b c => Gate.za4 (a := a) (b := b) (c := c)) h j hj i hlt
    have h2 : Gate.yU b.ls[i] b.ls[j] = 0 := by unfold Gate.yU; rw [Gate.zex]; exact ⟨e1, e2⟩
    omega
  rcases Nat.lt_trichotomy i j with h1 | h1 | h1
  · exact (hz i j hi hj h1 e1 e2).elim
  · exact h1
  · exact (hz j i hj hi h1 e1.symm e2.symm).elim
theorem zpp {ts : List Tm} {b : Bk} (h : Gate.yC ts b = true) (h' : Gate.yJ b = true) (hz : yZ b.os <= 1048576) : zh2 b := by
  obtain ⟨h1, h2, h3⟩ := zcP h
  obtain ⟨p1, p2⟩ := zlC h'
  refine ⟨znN h1, fun k hk => ?_, fun i hi => ?_, fun i hi => ?_, by omega, by omega, hz⟩
  · have h4 := p2 k hk
    unfold Gate.yK Gate.jK at h4
    simp only [Bool.and_eq_true] at h4
    obtain ⟨g, hg, h5⟩ := List.any_eq_true.1 h4.1
    obtain ⟨j, hj, rfl⟩ := List.mem_iff_getElem.1 hg
    simp only [Bool.and_eq_true, decide_eq_true_eq] at h5
    exact ⟨j, hj, h5.1, h5.2⟩
  · have h4 := h3 i hi
    unfold Gate.yw Gate.jq at h4
    simp only [Bool.and_eq_true, decide_eq_true_eq] at h4
    omega
  · have h4 := p2 i hi
    unfold Gate.yK Gate.within at h4
    simp only [Bool.and_eq_true, decide_eq_true_eq] at h4
    omega
set_option maxRecDepth 20000 in
set_option maxHeartbeats 4000000 in
theorem znj (l : Lw) (la lb lc : Option Addr) (lca lcb lcc : Nat) (b : Bk) (a0 a1 a2 a3 : Option Addr) (c0 c1 c2 c3 : Nat) (w : World) (hb : y9 w b a0 a1 a2 a3) (hl : qB w l la lb lc) (hml : l.ms.length <= 1048576) (hok : Gate.yc l.ss l.ms = true) (hfw : ∀ i (h : i < b.os.length), b.os[i].vs.length <= 1048576 /\ b.os[i].hs.length <= 1048576) (hz : yZ b.os <= 1048576) :
    Calls Tryz.prog 72 #[.agg (lC l la lb lc lca lcb lcc), .agg (bC b a0 a1 a2 a3 c0 c1 c2 c3)] w fun e w' => e = .returned (.bool (Gate.zaD l b)) /\ Below w.heap.size w w' := by
  have HK := hid hb
  have HL := hid hl
  have HF : Hid (l.ms.length <= 1048576 /\ Gate.yc l.ss l.ms = true /\ (∀ i (h : i < b.os.length), b.os[i].vs.length <= 1048576 /\ b.os[i].hs.length <= 1048576) /\ yZ b.os <= 1048576) := ⟨hml, hok, hfw, hz⟩
  clear hb hl hml hok hfw hz
  go_enter Tryz.func72, Tryz.ntmps72
  go_wp2_with fail
  obtain ⟨hL0, hX0⟩ := yP w (lC l la lb lc lca lcb lcc) (bC b a0 a1 a2 a3 c0 c1 c2 c3) 41 48
  have HBi : Hid (Below w.heap.size w ((w.alloc (.cells (lC l la lb lc lca lcb lcc) 41)).alloc (.cells (bC b a0 a1 a2 a3 c0 c1 c2 c3) 48))) := zn w _ _
  obtain ⟨W0, hW0⟩ : ∃ W0, W0 = (w.alloc (.cells (lC l la lb lc lca lcb lcc) 41)).alloc (.cells (bC b a0 a1 a2 a3 c0 c1 c2 c3) 48) := ⟨_, rfl⟩
  have hz0 : w.heap.size + 1 < W0.heap.size := by rw [hW0]; simp
  rw [<- hW0] at HBi hX0 hL0 ⊢
  clear hW0
  refine (zjr b a0 a1 a2 a3 c0 c1 c2 c3 _).mono ?_
  rintro e w1 ⟨rfl, hb0⟩
  have hX1 := za hX0 hz0 hb0
  have hL1 := za hL0 (Nat.lt_of_succ_lt hz0) hb0
  have hz1 := Nat.lt_of_lt_of_le hz0 hb0.size
  have hy1 := Nat.lt_of_succ_lt hz1
  have HBi := hid (HBi.out.trans (hb0.mono HBi.out.size))
  clear hb0 hX0 hL0 hz0
  by_cases t : Gate.zaq b = true
  rotate_left
  · have HN : Hid (Gate.zaD l b = false) := by unfold Hid Gate.zaD; rw [Bool.eq_false_iff.2 t]; rfl
    rw [Bool.eq_false_iff.2 t]
    clear t
    go_wp2_with fail
    go_ret
    exact ⟨ze HN.out.symm, HBi.out⟩
  have HT0 := hid t
  rw [t]
  clear t
  go_wp2_with fail
  refine (ziQ l la lb lc lca lcb lcc b a0 a1 a2 a3 c0 c1 c2 c3 _ (HK.out.mono HBi.out) (HL.out.mono HBi.out) HF.out.1 HF.out.2.1 HF.out.2.2.1).mono ?_
  rintro e w2 ⟨rfl, hb1⟩
  have hX2 := za hX1 hz1 hb1
  have hL2 := za hL1 (Nat.lt_of_succ_lt hz1) hb1
  have hz2 := Nat.lt_of_lt_of_le hz1 hb1.size
  have hy2 := Nat.lt_of_succ_lt hz2
  have HBi := hid (HBi.out.trans (hb1.mono HBi.out.size))
  clear hb1 hX1 hL1 hz1 hy1
  by_cases t : Gate.zK l b = true
  rotate_left
  · have HN : Hid (Gate.zaD l b = false) := by unfold Hid Gate.zaD; rw [HT0.out, Bool.eq_false_iff.2 t]; rfl
    rw [Bool.eq_false_iff.2 t]
    clear t
    go_wp2_with fail
    go_ret
    exact ⟨ze HN.out.symm, HBi.out⟩
  have HT1 := hid t
  rw [t]
  clear t
  go_wp2_with fail
  refine (zj1 b a0 a1 a2 a3 c0 c1 c2 c3 _ (HK.out.mono HBi.out)).mono ?_
  rintro e w3 ⟨rfl, hb2⟩
  have hX3 := za hX2 hz2 hb2
  have hL3 := za hL2 (Nat.lt_of_succ_lt hz2) hb2
  have hz3 := Nat.lt_of_lt_of_le hz2 hb2.size
  have hy3 := Nat.lt_of_succ_lt hz3
  have HBi := hid (HBi.out.trans (hb2.mono HBi.out.size))
  clear hb2 hX2 hL2 hz2 hy2
  by_cases t : Gate.yB b = true
  rotate_left
  · have HN : Hid (Gate.zaD l b = false) := by unfold Hid Gate.zaD; rw [HT0.out, HT1.out, Bool.eq_false_iff.2 t]; rfl
    rw [Bool.eq_false_iff.2 t]
    clear t
    go_wp2_with fail
    go_ret
    exact ⟨ze HN.out.symm, HBi.out⟩
  have HT2 := hid t
  rw [t]
  clear t
  go_wp2_with fail
  refine (ziV l la lb lc lca lcb lcc b a0 a1 a2 a3 c0 c1 c2 c3 _ (HK.out.mono HBi.out) (HL.out.mono HBi.out)).mono ?_
  rintro e w4 ⟨rfl, hb3⟩
  have hX4 := za hX3 hz3 hb3
  have hL4 := za hL3 (Nat.lt_of_succ_lt hz3) hb3
  have hz4 := Nat.lt_of_lt_of_le hz3 hb3.size
  have hy4 := Nat.lt_of_succ_lt hz4
  have HBi := hid (HBi.out.trans (hb3.mono HBi.out.size))
  clear hb3 hX3 hL3 hz3 hy3
  by_cases t : Gate.yC l.ts b = true
  rotate_left
  · have HN : Hid (Gate.zaD l b = false) := by unfold Hid Gate.zaD; rw [HT0.out, HT1.out, HT2.out, Bool.eq_false_iff.2 t]; rfl
    rw [Bool.eq_false_iff.2 t]
    clear t
    go_wp2_with fail
    go_ret
    exact ⟨ze HN.out.symm, HBi.out⟩
  have HT3 := hid t
  rw [t]
  clear t
  go_wp2_with fail
  refine (zjA b a0 a1 a2 a3 c0 c1 c2 c3 _ (HK.out.mono HBi.out) (zcP HT3.out).1 (zcP HT3.out).2.1 (zlh HT0.out)).mono ?_
  rintro e w5 ⟨rfl, hb4⟩
  have hX5 := za hX4 hz4 hb4
  have hL5 := za hL4 (Nat.lt_of_succ_lt hz4) hb4
  have hz5 := Nat.lt_of_lt_of_le hz4 hb4.size
  have hy5 := Nat.lt_of_succ_lt hz5
  have HBi := hid (HBi.out.trans (hb4.mono HBi.out.size))
  clear hb4 hX4 hL4 hz4 hy4
  by_cases t : Gate.yJ b = true
  rotate_left
  · have HN : Hid (Gate.zaD l b = false) := by unfold Hid Gate.zaD; rw [HT0.out, HT1.out, HT2.out, HT3.out, Bool.eq_false_iff.2 t]; rfl
    rw [Bool.eq_false_iff.2 t]
    clear t
    go_wp2_with fail
    go_ret
    exact ⟨ze HN.out.symm, HBi.out⟩
  have HT4 := hid t
  rw [t]
  clear t
  go_wp2_with fail
  refine (zmT l la lb lc lca lcb lcc b a0 a1 a2 a3 c0 c1 c2 c3 _ (HL.out.mono HBi.out) (HK.out.mono HBi.out) (zpp HT3.out HT4.out HF.out.2.2.2)).mono ?_
  rintro e w6 ⟨rfl, hb5⟩
  have HBe := hid (HBi.out.trans (hb5.mono HBi.out.size))
  have HN : Hid (Gate.zb6 l b = Gate.zaD l b) := by unfold Hid Gate.zaD; rw [HT0.out, HT1.out, HT2.out, HT3.out, HT4.out]; rfl
  rw [HN.out]
  clear hb5 hX5 hL5 hz5 hy5
  go_wp2_with fail
  go_ret
  exact ⟨rfl, HBe.out⟩
set_option maxRecDepth 20000 in
set_option maxHeartbeats 4000000 in
theorem ziL (l : Lw) (la lb lc : Option Addr) (lca lcb lcc : Nat) (b : Bk) (a0 a1 a2 a3 : Option Addr) (c0 c1 c2 c3 : Nat) (w : World) (hl : qB w l la lb lc) (hb : y9 w b a0 a1 a2 a3) (hlf : l.Few) (hbf : b.Few) (hz : yZ b.os <= 1048576) :
    Calls Tryz.prog 35 #[.agg (l.cells la lb lc lca lcb lcc), .agg (b.cells a0 a1 a2 a3 c0 c1 c2 c3)] w fun e w' => e = .returned (.bool (Gate.jI l b)) /\ Below w.heap.size w w' := by
  have HK := hid hb
  have HL := hid hl
  have HF : Hid (l.Few /\ b.Few /\ yZ b.os <= 1048576) := ⟨hlf, hbf, hz⟩
  clear hb hl hlf hbf hz
  unfold Lw.cells Bk.cells
  go_enter Tryz.func35, Tryz.ntmps35
  go_wp2_with fail
  obtain ⟨hL0, hX0⟩ := yP w (lC l la lb lc lca lcb lcc) (bC b a0 a1 a2 a3 c0 c1 c2 c3) 41 48
  have HBi : Hid (Below w.heap.size w ((w.alloc (.cells (lC l la lb lc lca lcb lcc) 41)).alloc (.cells (bC b a0 a1 a2 a3 c0 c1 c2 c3) 48))) := zn w _ _
  obtain ⟨W0, hW0⟩ : ∃ W0, W0 = (w.alloc (.cells (lC l la lb lc lca lcb lcc) 41)).alloc (.cells (bC b a0 a1 a2 a3 c0 c1 c2 c3) 48) := ⟨_, rfl⟩
  have hz0 : w.heap.size + 1 < W0.heap.size := by rw [hW0]; simp
  rw [<- hW0] at HBi hX0 hL0 ⊢
  clear hW0
  refine (zj3 l la lb lc lca lcb lcc _ (HL.out.mono HBi.out) HF.out.1).mono ?_
  rintro e w1 ⟨rfl, hb0⟩
  have hX1 := za hX0 hz0 hb0
  have hL1 := za hL0 (Nat.lt_of_succ_lt hz0) hb0
  have hz1 := Nat.lt_of_lt_of_le hz0 hb0.size
  have hy1 := Nat.lt_of_succ_lt hz1
  have HBi := hid (HBi.out.trans (hb0.mono HBi.out.size))
  clear hb0 hX0 hL0 hz0
  by_cases t : Gate.zbN l = true
  rotate_left
  · have HN : Hid (Gate.jI l b = false) := by unfold Hid Gate.jI; rw [Bool.eq_false_iff.2 t]; rfl
    rw [Bool.eq_false_iff.2 t]
    clear t
    go_wp2_with fail
    go_ret
    exact ⟨ze HN.out.symm, HBi.out⟩
  have HN : Hid (Gate.zaD l b = Gate.jI l b) := by unfold Hid Gate.jI; rw [t]; rfl
  have HM : Hid (Gate.yc l.ss l.ms = true) := by unfold Gate.zbN at t; simp only [Bool.and_eq_true] at t; exact t.1
  rw [t]
  clear t
  go_wp2_with fail
  refine (znj l la lb lc lca lcb lcc b a0 a1 a2 a3 c0 c1 c2 c3 _ (HK.out.mono HBi.out) (HL.out.mono HBi.out) HF.out.1.ms HM.out HF.out.2.1.os.2 HF.out.2.2).mono ?_
  rintro e w2 ⟨rfl, hb1⟩
  have HBe := hid (HBi.out.trans (hb1.mono HBi.out.size))
  rw [HN.out]
  clear hb1 hX1 hL1 hz1 hy1
  go_wp2_with fail
  go_ret
  exact ⟨rfl, HBe.out⟩
end Go.Proofs.YtfpeplbmfbepcaaGreat

namespace Go.Proofs.YtfpeplbmfbepcaaGreat
open Go.RowKit
namespace Gate
theorem zcK {l : Lw} {b : Bk} (hok : yc l.ss l.ms = true) (h : zK l b = true) : b.os.length <= 40 /\ ∀ k (h : k < b.os.length), zo l.ss b.os[k] = true := by
  unfold zK at h
  simp only [Bool.and_eq_true, decide_eq_true_eq] at h
  refine ⟨h.1, fun k hk => ?_⟩
  have h2 := List.all_eq_true.1 h.2.2 _ (List.getElem_mem hk)
  unfold yF zaK at h2
  simp only [Bool.and_eq_true, decide_eq_true_eq] at h2
  have h3 := zay hok h2.2.2.1.1
  unfold y8 at h3
  unfold zo
  simp only [Bool.and_eq_true, decide_eq_true_eq] at h3 ⊢
  exact ⟨h3.1, h3.2.1⟩
end Gate
theorem book_facts {l : Lw} {b : Bk} (h : Gate.jI l b = true) : Gate.yc l.ss l.ms = true /\ Gate.zK l b = true := by
  unfold Gate.jI Gate.zaD Gate.zbN at h
  simp only [Bool.and_eq_true] at h
  exact ⟨h.1.1, h.2.2.1⟩
end Go.Proofs.YtfpeplbmfbepcaaGreat

namespace Go.Proofs.YtfpeplbmfbepcaaGreat
open Go.RowKit
namespace Gate
noncomputable def zaz (l : Lw) (o p : Ob) (role : Int) (m : Nat) : Bool := (yG (shapeOf l.ss o.kd).fs o.vs m).any fun x => decide (x.rl = role) && jV x.to x.nm p
noncomputable def names (l : Lw) (o p : Ob) (role : Int) : Bool := zaz l o p role (shapeOf l.ss o.kd).fs.length
theorem zlf {l : Lw} {o p : Ob} {role : Int} {fs : List Fld} (e : fs = (shapeOf l.ss o.kd).fs) {m : Nat} (hk : m < fs.length) (hv : m < o.vs.length) (h : ¬ (fs[m].kd = 4 /\ o.vs[m].toList.isEmpty = false)) : zaz l o p role (m + 1) = zaz l o p role m := by
  subst e
  unfold zaz
  rw [jR, List.any_append]
  have : zdW (shapeOf l.ss o.kd).fs o.vs m = [] := by
    unfold zdW
    rw [List.getElem?_eq_getElem hk, List.getElem?_eq_getElem hv]
    exact dif_neg (fun h' => h h'.1)
  rw [this]; simp
theorem zl0 {l : Lw} {o p : Ob} {role : Int} {fs : List Fld} (e : fs = (shapeOf l.ss o.kd).fs) {m : Nat} (hk : m < fs.length) (hv : m < o.vs.length) (h1 : fs[m].kd = 4) (h2 : o.vs[m].toList.isEmpty = false) (hs1 : fs[m].to.size <= maxLen) (hs2 : o.vs[m].size <= maxLen) : zaz l o p role (m + 1) = (zaz l o p role m || (decide (fs[m].rl = role) && jV fs[m].to o.vs[m] p)) := by
  subst e
  unfold zaz
  rw [jR, List.any_append]
  have : zdW (shapeOf l.ss o.kd).fs o.vs m = [⟨m, (shapeOf l.ss o.kd).fs[m].rl, (shapeOf l.ss o.kd).fs[m].to, o.vs[m], hs1, hs2⟩] := by
    unfold zdW
    rw [List.getElem?_eq_getElem hk, List.getElem?_eq_getElem hv]
    exact dif_pos ⟨⟨h1, h2⟩, hs1, hs2⟩
  rw [this]; simp
theorem zjw {l : Lw} {o p : Ob} {role : Int} {fs : List Fld} (e : fs = (shapeOf l.ss o.kd).fs) {m : Nat} (hk : m <= fs.length) (h : zaz l o p role m = true) : names l o p role = true := by
  subst e
  unfold names zaz at *
  obtain ⟨t, ht⟩ := zaw (shapeOf l.ss o.kd).fs o.vs hk
  rw [<- ht, List.any_append, h]; rfl
theorem zpg (kd nm : ByteArray) (p : Ob) : jV kd nm p = ((kd.toList == p.kd.toList) && (nm.toList == p.nm.toList)) := by
  unfold jV
  rw [Gate.beq_toList, Gate.beq_toList]
  congr 1
  · exact decide_eq_decide.2 eq_comm
  · exact decide_eq_decide.2 eq_comm
end Gate
set_option maxRecDepth 20000 in
set_option maxHeartbeats 40000000 in
theorem zg7 (l : Lw) (la lb lc : Option Addr) (lca lcb lcc : Nat) (b : Bk) (a0 a1 a2 a3 : Option Addr) (c0 c1 c2 c3 : Nat) (i k : Nat) (role : Int) (w : World) (hl : qB w l la lb lc) (hb : y9 w b a0 a1 a2 a3) (hi : i < b.os.length) (hk : k < b.os.length) (hwc : Gate.zo l.ss b.os[i] = true) (hfw : b.os[i].vs.length <= 1048576) :
    Calls Tryz.prog 103 #[.agg (lC l la lb lc lca lcb lcc), .agg (bC b a0 a1 a2 a3 c0 c1 c2 c3), .int .i64 (i : Int), .int .i64 (k : Int), .int .i64 role] w fun e w' => e = .returned (.bool (Gate.names l b.os[i] b.os[k] role)) /\ Below w.heap.size w w' := by
  have HK := hid hb
  have HL := hid hl
  have HWc : Hid (Gate.zo l.ss b.os[i] = true /\ b.os[i].vs.length <= 1048576) := ⟨hwc, hfw⟩
  have hiI : (i : Int) < (b.os.length : Int) := by omega
  have hkI : (k : Int) < (b.os.length : Int) := by omega
  clear hb hl hwc hfw
  obtain ⟨ob, off, va, ha, q0, q1, rfl, hob, hsm, hs0, hs1, d0, d1, d2, d3, d4, d5, d6⟩ := HK.out.os.load (zn w (.cells (lC l la lb lc lca lcb lcc) 41) (.cells (bC b a0 a1 a2 a3 c0 c1 c2 c3) 48)) i hi
  have hob' : ob < ((w.alloc (.cells (lC l la lb lc lca lcb lcc) 41)).alloc (.cells (bC b (some ⟨ob, off, none⟩) a1 a2 a3 c0 c1 c2 c3) 48)).heap.size := by simp; omega
  go_enter Tryz.func103, Tryz.ntmps103
  go_wp2_with fail
  have HIt : Hid (qR ((w.alloc (.cells (lC l la lb lc lca lcb lcc) 41)).alloc (.cells (bC b (some ⟨ob, off, none⟩) a1 a2 a3 c0 c1 c2 c3) 48)) b.os[i] va ha) := ⟨hsm, hs0, hs1⟩
  obtain ⟨hX0, hY0, hZ0⟩ := zo7 w (.cells (lC l la lb lc lca lcb lcc) 41) (.cells (bC b (some ⟨ob, off, none⟩) a1 a2 a3 c0 c1 c2 c3) 48) (.cells (oC b.os[i] va ha q0 q1) 119)
  have HB3 : Hid (Below w.heap.size w (((w.alloc (.cells (lC l la lb lc lca lcb lcc) 41)).alloc (.cells (bC b (some ⟨ob, off, none⟩) a1 a2 a3 c0 c1 c2 c3) 48)).alloc (.cells (oC b.os[i] va ha q0 q1) 119))) := below3' w _ _ _
  have HI3 : Hid (qR (((w.alloc (.cells (lC l la lb lc lca lcb lcc) 41)).alloc (.cells (bC b (some ⟨ob, off, none⟩) a1 a2 a3 c0 c1 c2 c3) 48)).alloc (.cells (oC b.os[i] va ha q0 q1) 119)) b.os[i] va ha) := HIt.out.mono ((Below.refl _ _).alloc (Nat.le_refl _) _)
  obtain ⟨W3, hW3⟩ : ∃ W3, W3 = ((w.alloc (.cells (lC l la lb lc lca lcb lcc) 41)).alloc (.cells (bC b (some ⟨ob, off, none⟩) a1 a2 a3 c0 c1 c2 c3) 48)).alloc (.cells (oC b.os[i] va ha q0 q1) 119) := ⟨_, rfl⟩
  have hz3 : w.heap.size + 1 + 1 < W3.heap.size := by rw [hW3]; simp
  rw [<- hW3] at HB3 HI3 hX0 hY0 hZ0 ⊢
  clear hW3 d0 d1 d2 d3 d4 d5 d6 HIt hsm hs0 hs1 hob'
  refine (zbe _ _ l.ss b.os[i] _ _ _ _ _ (HL.out.ss.mono HB3.out) HI3.out HWc.out.1).mono ?_
  rintro e w4 ⟨fa, fcap, rfl, hfa, hb4⟩
  have hY4 : ∀ j, w4.cell? ⟨w.heap.size + 1, j, none⟩ = (bC b (some ⟨ob, off, none⟩) a1 a2 a3 c0 c1 c2 c3)[j]? := za (j5 hY0) (by omega) hb4
  have hZ4 : ∀ j, w4.cell? ⟨w.heap.size + 1 + 1, j, none⟩ = (oC b.os[i] va ha q0 q1)[j]? := za (j5 hZ0) (by omega) hb4
  have hz4 := Nat.lt_of_lt_of_le hz3 hb4.size
  have hy4 := Nat.lt_of_succ_lt hz4
  have HB4 : Hid (Below w.heap.size w w4) := HB3.out.trans (hb4.mono HB3.out.size)
  have HI4 : Hid (qR w4 b.os[i] va ha) := HI3.out.mono hb4
  have HFa : Hid (zW w4 fa (Gate.shapeOf l.ss b.os[i].kd).fs) := hfa.mono hb4
  have HLv : Hid ((Gate.shapeOf l.ss b.os[i].kd).fs.length = b.os[i].vs.length) := by have := HWc.out.1; unfold Gate.zo at this; simp only [Bool.and_eq_true, decide_eq_true_eq] at this; exact this.2.symm
  clear hfa hb4 hX0 hY0 hZ0 hz3 HI3 HB3
  obtain ⟨fs, hfs⟩ : ∃ fs, fs = (Gate.shapeOf l.ss b.os[i].kd).fs := ⟨_, rfl⟩
  have HFS : Hid (fs = (Gate.shapeOf l.ss b.os[i].kd).fs) := hfs
  rw [<- hfs] at HFa HLv ⊢
  clear hfs
  go_wp2_with fail
  go_loopw [14] (fun jv wi => ∃ m : Nat, m <= fs.length /\ jv = .int .i64 m /\ Hid (Gate.zaz l b.os[i] b.os[k] role m = false /\ Below w4.heap.size w4 wi)) (fun jv _ => fs.length - (intOf jv).toNat)
  case atStart => exact ⟨0, Nat.zero_le _, rfl, by simp [Gate.zaz, yG], Below.refl _ _⟩
  case round =>
    obtain ⟨m, hm, rfl, HR⟩ := hrel
    have hfl : fs.length <= 1048576 := by have := HLv.out; have := HWc.out.2; omega
    have hYm := za hY4 hy4 HR.out.2
    have hZm := za hZ4 hz4 HR.out.2
    have hzm := Nat.lt_of_lt_of_le hz4 HR.out.2.size
    have hym := Nat.lt_of_lt_of_le hy4 HR.out.2.size
    have HBm : Hid (Below w.heap.size w wr) := HB4.out.trans (HR.out.2.mono HB4.out.size)
    by_cases hml : m < fs.length
    · have hmI : (m : Int) < (fs.length : Int) := by omega
      have hmv : m < b.os[i].vs.length := by have := HLv.out; omega
      have hmvI : (m : Int) < (b.os[i].vs.length : Int) := by omega
      obtain ⟨fb, foff, fw, fc, rfl, hfb, hfi⟩ := zod HFa.out HR.out.2 m hml
      obtain ⟨d0, d1, d2, d3, d4, d5, d6, d7, d8, d9, d10⟩ := hfi.load
      obtain ⟨vb, voff, rfl, hvb, cv0⟩ := HI4.out.vals.cells (by intro e; rw [e] at hmv; simp at hmv)
      have cv := (HR.out.2.cell (p := ⟨vb, voff + m, none⟩) hvb).trans (cv0 m hmv)
      have HSt : Hid (fs[m].to.size <= maxLen /\ b.os[i].vs[m].size <= maxLen) := ⟨hfi.small.to, HI4.out.vals.small _ (List.getElem_mem _)⟩
      obtain ⟨ob2, off2, _, _, _, _, e2, hob2, _, _, _, p0, p1, _⟩ := HK.out.os.load HBm.out k hk
      simp only [Option.some.injEq, Addr.mk.injEq] at e2
      obtain ⟨rfl, rfl, _⟩ := e2
      have hfb' : fb < wr.heap.size := Nat.lt_of_lt_of_le hfb HR.out.2.size
      have HBa : Hid (Below wr.heap.size wr (wr.alloc (.cells #[.string fs[m].nm, .int .i64 fs[m].kd, .int .i64 fs[m].ls, .int .i64 fs[m].ms, .slice fw fs[m].ws.length fc, .string fs[m].to, .int .i64 fs[m].rl, .bool fs[m].mu, .bool fs[m].fx, .string fs[m].df, .string fs[m].wg] 165))) := (Below.refl _ _).alloc (Nat.le_refl _) _
      have hob3 := Nat.lt_of_lt_of_le hob2 HBm.out.size
      have hvb3 := Nat.lt_of_lt_of_le hvb HR.out.2.size
      clear hfi cv0 hY4 hZ4 hz4 hy4
      go_wp2_with fail
      have hT0 := zG wr #[.string fs[m].nm, .int .i64 fs[m].kd, .int .i64 fs[m].ls, .int .i64 fs[m].ms, .slice fw fs[m].ws.length fc, .string fs[m].to, .int .i64 fs[m].rl, .bool fs[m].mu, .bool fs[m].fx, .string fs[m].df, .string fs[m].wg] 165
      obtain ⟨W5, hW5⟩ : ∃ W5, W5 = wr.alloc (.cells #[.string fs[m].nm, .int .i64 fs[m].kd, .int .i64 fs[m].ls, .int .i64 fs[m].ms, .slice fw fs[m].ws.length fc, .string fs[m].to, .int .i64 fs[m].rl, .bool fs[m].mu, .bool fs[m].fx, .string fs[m].df, .string fs[m].wg] 165) := ⟨_, rfl⟩
      have hy5 : wr.heap.size < W5.heap.size := by rw [hW5]; simp
      rw [<- hW5] at HBa hT0 ⊢
      clear hW5 d0 d1 d2 d3 d4 d5 d6 d7 d8 d9 d10
      have hT := za hT0 hy5 (Below.refl W5.heap.size W5).drew
      have hY := za (za hYm hym HBa.out) (Nat.lt_of_lt_of_le hym HBa.out.size) (Below.refl W5.heap.size W5).drew
      have hZ := za (za hZm hzm HBa.out) (Nat.lt_of_lt_of_le hzm HBa.out.size) (Below.refl W5.heap.size W5).drew
      have cvd := (HBa.out.cell (p := ⟨vb, voff + m, none⟩) hvb3).trans cv
      have p0d := (HBa.out.cell (p := ⟨ob, off + k * 7, none⟩) hob3).trans p0
      have p1d := (HBa.out.cell (p := ⟨ob, off + k * 7 + 1, none⟩) hob3).trans p1
      have HRd := hid ((HR.out.2.trans (HBa.out.mono HR.out.2.size)).drew)
      have HBd := hid (HB4.out.trans (HRd.out.mono HB4.out.size))
      clear hT0 hYm hZm hzm hym cv p0 p1
      refine wp_region_held_drew (S := fun w' => (∀ j, w'.cell? ⟨w.heap.size + 1, j, none⟩ = (bC b (some ⟨ob, off, none⟩) a1 a2 a3 c0 c1 c2 c3)[j]?) /\ (∀ j, w'.cell? ⟨w.heap.size + 1 + 1, j, none⟩ = (oC b.os[i] (some ⟨vb, voff, none⟩) ha q0 q1)[j]?) /\ (∀ j, w'.cell? ⟨wr.heap.size, j, none⟩ = (#[.string fs[m].nm, .int .i64 fs[m].kd, .int .i64 fs[m].ls, .int .i64 fs[m].ms, .slice fw fs[m].ws.length fc, .string fs[m].to, .int .i64 fs[m].rl, .bool fs[m].mu, .bool fs[m].fx, .string fs[m].df, .string fs[m].wg] : Array Value)[j]?) /\ w'.cell? ⟨vb, voff + m, none⟩ = some (.string b.os[i].vs[m]) /\ w'.cell? ⟨ob, off + k * 7, none⟩ = some (.string b.os[k].kd) /\ w'.cell? ⟨ob, off + k * 7 + 1, none⟩ = some (.string b.os[k].nm)) (by kernel_rfl) ⟨hY, hZ, hT, cvd, p0d, p1d⟩ (fun hHeld => ?_)
      obtain ⟨x2, hx2⟩ : ∃ x, x = ((fs[m].kd == 4) && (fs[m].rl == role)) := ⟨_, rfl⟩
      obtain ⟨x3, hx3⟩ : ∃ x, x = (x2 && !(b.os[i].vs[m].toList.isEmpty)) := ⟨_, rfl⟩
      obtain ⟨x4, hx4⟩ : ∃ x, x = (x3 && (fs[m].to.toList == b.os[k].kd.toList)) := ⟨_, rfl⟩
      obtain ⟨x5, hx5⟩ : ∃ x, x = (x4 && (b.os[i].vs[m].toList == b.os[k].nm.toList)) := ⟨_, rfl⟩
      have HX := zia hx2 hx3 hx4 hx5
      clear hx2 hx3 hx4 hx5
      refine tG 0 ?_; refine tG 1 ?_; refine tG 2 ?_; refine tG 3 ?_
      refine sT 4 ?_; refine sT 5 ?_; refine sT 6 ?_; refine sT 7 ?_
      refine tG (v := .bool x2) 8 ?_ (hy := by intro w hSw; rw [HX.out.1]; cases h : (fs[m].kd == 4) <;> go_simp)
      refine tG 9 ?_
      refine sT 10 ?_; refine sT 11 ?_; refine sT 12 ?_; refine sT 13 ?_; refine sT 14 ?_
      refine sT (v := .bool (!(b.os[i].vs[m].toList.isEmpty))) 15 ?_
      refine tG (v := .bool x3) 16 ?_ (hy := by intro w hSw; rw [HX.out.2.1]; cases h : x2 <;> go_simp)
      refine tG 17 ?_
      refine sT 18 ?_; refine sT 19 ?_; refine sT 20 ?_; refine sT 21 ?_; refine sT 22 ?_; refine sT 23 ?_; refine sT 24 ?_; refine sT 25 ?_; refine sT 26 ?_
      refine tG (v := .bool x4) 27 ?_ (hy := by intro w hSw; rw [HX.out.2.2.1]; cases h : x3 <;> go_simp)
      refine tG 28 ?_
      refine sT 29 ?_; refine sT 30 ?_; refine sT 31 ?_; refine sT 32 ?_; refine sT 33 ?_; refine sT 34 ?_; refine sT 35 ?_; refine sT 36 ?_; refine sT 37 ?_; refine sT 38 ?_; refine sT 39 ?_; refine sT 40 ?_
      refine tG (v := .bool x5) 41 ?_ (hy := by intro w hSw; rw [HX.out.2.2.2]; cases h : x4 <;> go_simp)
      refine wpAnyH_done (by kernel_rfl) ?_ _
      have HN : Hid (Gate.zaz l b.os[i] b.os[k] role (m + 1) = x5) := by
        unfold Hid
        obtain ⟨e2, e3, e4, e5⟩ := HX.out
        subst e2 e3 e4 e5
        by_cases h1 : fs[m].kd = 4 /\ b.os[i].vs[m].toList.isEmpty = false
        · rw [Gate.zl0 HFS.out hml hmv h1.1 h1.2 HSt.out.1 HSt.out.2, HR.out.1, Gate.zpg, h1.1, h1.2]
          cases h2 : decide (fs[m].rl = role) <;> simp_all
        · rw [Gate.zlf HFS.out hml hmv h1, HR.out.1]
          by_cases h4 : fs[m].kd = 4
          · have h5 : b.os[i].vs[m].toList.isEmpty = true := by simpa using fun h => h1 ⟨h4, h⟩
            rw [h5]; simp
          · rw [beq_eq_false_iff_ne.2 h4]; rfl
      clear hHeld HX
      cases x5 with
      | true =>
        have HF : Hid (Gate.names l b.os[i] b.os[k] role = true) := Gate.zjw (m := m + 1) HFS.out hml HN.out
        go_wp2_with fail
        go_ret
        exact ⟨ze HF.out.symm, HBd.out⟩
      | false =>
        go_wp2_with fail
        exact ⟨⟨m + 1, by omega, by go_num, HN.out, HRd.out⟩, by simp [intOf]; omega⟩
    · have e : m = fs.length := by omega
      subst e
      have HN : Hid (Gate.names l b.os[i] b.os[k] role = false) := by
        have h1 := HR.out.1
        rw [HFS.out] at h1
        exact h1
      clear HR hY4 hZ4
      go_wp2_with fail
      go_ret
      exact ⟨ze HN.out.symm, HBm.out⟩
end Go.Proofs.YtfpeplbmfbepcaaGreat
