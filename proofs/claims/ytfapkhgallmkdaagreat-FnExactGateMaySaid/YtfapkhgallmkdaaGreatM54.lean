import Derived.Test.YtfapkhgallmkdaaGreatM50
import Derived.Test.YtfapkhgallmkdaaGreatM53
import Derived.Test.YtfapkhgallmkdaaGreatM43
import Derived.Test.YtfapkhgallmkdaaGreatM52
import Derived.Test.YtfapkhgallmkdaaGreatM45
import Derived.Test.YtfapkhgallmkdaaGreatM34
import Derived.Test.YtfapkhgallmkdaaGreatM14
namespace Go.Proofs.YtfapkhgallmkdaaGreat
open Go.RowKit
theorem zaF (l : Lw) (b : Bk) : Gate.qY l b = (Gate.zbA l && ((Gate.within b.now 0 1000000 && (Gate.within b.tick 0 1000000 && Gate.within b.given 0 b.now)) && (Gate.zW l b && (Gate.yt b && Gate.jd l b)))) := rfl
theorem zdK (n lo hi : Int) (w : World) : Calls Tryz.prog 47 #[.int .i64 n, .int .i64 lo, .int .i64 hi] w fun e w' => e = .returned (.bool (Gate.within n lo hi)) /\ w' = w := jD n lo hi w
theorem zng {n lo hi : Int} (h : Gate.within n lo hi = true) : lo <= n /\ n <= hi := by unfold Gate.within at h; simpa using h
set_option maxRecDepth 20000 in
set_option maxHeartbeats 4000000 in
theorem zdR (l : Lw) (la lb lc : Option Addr) (lca lcb lcc : Nat) (b : Bk) (a0 a1 a2 a3 : Option Addr) (c0 c1 c2 c3 : Nat) (w : World) (hl : qH w l la lb lc) (hb : qL w b a0 a1 a2 a3) (hh : za9 w a0 b.os) (hbf : b.Few) (hz : yV b.os <= 1048576) :
    Calls Tryz.prog 21 #[.agg (l.cells la lb lc lca lcb lcc), .agg (b.cells a0 a1 a2 a3 c0 c1 c2 c3)] w fun e w' => e = .returned (.bool (Gate.qY l b)) /\ Below w.heap.size w w' := by
  have HK := hid hb
  have HL := hid hl
  have HH := hid hh
  have HF : Hid (b.Few /\ yV b.os <= 1048576) := ⟨hbf, hz⟩
  clear hb hl hh hbf hz
  unfold Lw.cells Bk.cells
  go_enter Tryz.func21, Tryz.ntmps21
  go_wp2_with fail
  obtain ⟨hL0, hX0⟩ := qM w (lC l la lb lc lca lcb lcc) (bC b a0 a1 a2 a3 c0 c1 c2 c3) 43 50
  have HBi : Hid (Below w.heap.size w ((w.alloc (.cells (lC l la lb lc lca lcb lcc) 43)).alloc (.cells (bC b a0 a1 a2 a3 c0 c1 c2 c3) 50))) := zu w _ _
  obtain ⟨W0, hW0⟩ : ∃ W0, W0 = (w.alloc (.cells (lC l la lb lc lca lcb lcc) 43)).alloc (.cells (bC b a0 a1 a2 a3 c0 c1 c2 c3) 50) := ⟨_, rfl⟩
  have hz0 : w.heap.size + 1 < W0.heap.size := by rw [hW0]; simp
  rw [<- hW0] at HBi hX0 hL0 ⊢
  clear hW0
  refine (zix l la lb lc lca lcb lcc _ (HL.out.mono HBi.out)).mono ?_
  rintro e w1 ⟨rfl, hb0⟩
  have hX1 := za hX0 hz0 hb0
  have hL1 := za hL0 (Nat.lt_of_succ_lt hz0) hb0
  have hz1 := Nat.lt_of_lt_of_le hz0 hb0.size
  have HBi := hid (HBi.out.trans (hb0.mono HBi.out.size))
  clear hb0 hX0 hL0 hz0
  have hy1 := Nat.lt_of_succ_lt hz1
  by_cases t : Gate.zbA l = true
  rotate_left
  · have HN : Hid (Gate.qY l b = false) := by rw [Hid, zaF, Bool.eq_false_iff.2 t]; simp
    rw [Bool.eq_false_iff.2 t]
    clear t
    go_wp2_with fail
    go_ret
    exact ⟨ze HN.out.symm, HBi.out⟩
  have HT0 := hid t
  rw [t]
  clear t
  go_wp2_with fail
  have HM : Hid (Gate.yg l.ss l.ms = true) := by have t := HT0.out; unfold Gate.zbA at t; simp only [Bool.and_eq_true] at t; exact t.1
  refine (zdK b.now (0) (1000000) _).mono ?_
  rintro e w2 ⟨rfl, rfl⟩
  have hX2 := hX1
  have hL2 := hL1
  have hz2 := hz1
  clear hX1 hL1 hz1
  have hy2 := Nat.lt_of_succ_lt hz2
  have hcv : Gate.within b.now 0 1000000 = Gate.within b.now 0 1000000 := rfl
  clear hcv
  by_cases t : Gate.within b.now 0 1000000 = true
  rotate_left
  · have HN : Hid (Gate.qY l b = false) := by rw [Hid, zaF, HT0.out, Bool.eq_false_iff.2 t]; simp
    rw [Bool.eq_false_iff.2 t]
    clear t
    go_wp2_with fail
    go_ret
    exact ⟨ze HN.out.symm, HBi.out⟩
  have HT1 := hid t
  rw [t]
  clear t
  go_wp2_with fail
  refine (zdK b.tick (0) (1000000) _).mono ?_
  rintro e w3 ⟨rfl, rfl⟩
  have hX3 := hX2
  have hL3 := hL2
  have hz3 := hz2
  clear hX2 hL2 hz2
  have hy3 := Nat.lt_of_succ_lt hz3
  have hcv : Gate.within b.tick 0 1000000 = Gate.within b.tick 0 1000000 := rfl
  clear hcv
  by_cases t : Gate.within b.tick 0 1000000 = true
  rotate_left
  · have HN : Hid (Gate.qY l b = false) := by rw [Hid, zaF, HT0.out, HT1.out, Bool.eq_false_iff.2 t]; simp
    rw [Bool.eq_false_iff.2 t]
    clear t
    go_wp2_with fail
    go_ret
    exact ⟨ze HN.out.symm, HBi.out⟩
  have HT2 := hid t
  rw [t]
  clear t
  go_wp2_with fail
  refine (zdK b.given (0) (b.now) _).mono ?_
  rintro e w4 ⟨rfl, rfl⟩
  have hX4 := hX3
  have hL4 := hL3
  have hz4 := hz3
  clear hX3 hL3 hz3
  have hy4 := Nat.lt_of_succ_lt hz4
  have hcv : Gate.within b.given 0 b.now = Gate.within b.given 0 b.now := rfl
  clear hcv
  by_cases t : Gate.within b.given 0 b.now = true
  rotate_left
  · have HN : Hid (Gate.qY l b = false) := by rw [Hid, zaF, HT0.out, HT1.out, HT2.out, Bool.eq_false_iff.2 t]; simp
    rw [Bool.eq_false_iff.2 t]
    clear t
    go_wp2_with fail
    go_ret
    exact ⟨ze HN.out.symm, HBi.out⟩
  have HT3 := hid t
  rw [t]
  clear t
  go_wp2_with fail
  refine (zgp l la lb lc lca lcb lcc b a0 a1 a2 a3 c0 c1 c2 c3 _ (HL.out.mono HBi.out) (HK.out.mono HBi.out) (HH.out.mono HBi.out) HM.out HF.out.1.os.2).mono ?_
  rintro e w5 ⟨rfl, hb4⟩
  have hX5 := za hX4 hz4 hb4
  have hL5 := za hL4 (Nat.lt_of_succ_lt hz4) hb4
  have hz5 := Nat.lt_of_lt_of_le hz4 hb4.size
  have HBi := hid (HBi.out.trans (hb4.mono HBi.out.size))
  clear hb4 hX4 hL4 hz4
  have hy5 := Nat.lt_of_succ_lt hz5
  by_cases t : Gate.zW l b = true
  rotate_left
  · have HN : Hid (Gate.qY l b = false) := by rw [Hid, zaF, HT0.out, HT1.out, HT2.out, HT3.out, Bool.eq_false_iff.2 t]; simp
    rw [Bool.eq_false_iff.2 t]
    clear t
    go_wp2_with fail
    go_ret
    exact ⟨ze HN.out.symm, HBi.out⟩
  have HT4 := hid t
  rw [t]
  clear t
  go_wp2_with fail
  refine (zh7 b a0 a1 a2 a3 c0 c1 c2 c3 _ (HK.out.mono HBi.out)).mono ?_
  rintro e w6 ⟨rfl, hb5⟩
  have hX6 := za hX5 hz5 hb5
  have hL6 := za hL5 (Nat.lt_of_succ_lt hz5) hb5
  have hz6 := Nat.lt_of_lt_of_le hz5 hb5.size
  have HBi := hid (HBi.out.trans (hb5.mono HBi.out.size))
  clear hb5 hX5 hL5 hz5
  have hy6 := Nat.lt_of_succ_lt hz6
  by_cases t : Gate.yt b = true
  rotate_left
  · have HN : Hid (Gate.qY l b = false) := by rw [Hid, zaF, HT0.out, HT1.out, HT2.out, HT3.out, HT4.out, Bool.eq_false_iff.2 t]; simp
    rw [Bool.eq_false_iff.2 t]
    clear t
    go_wp2_with fail
    go_ret
    exact ⟨ze HN.out.symm, HBi.out⟩
  have HT5 := hid t
  rw [t]
  clear t
  go_wp2_with fail
  refine (zj7 l la lb lc lca lcb lcc b a0 a1 a2 a3 c0 c1 c2 c3 _ (HL.out.mono HBi.out) (HK.out.mono HBi.out) (zng HT2.out) HF.out.2).mono ?_
  rintro e w7 ⟨rfl, hb6⟩
  have hX7 := za hX6 hz6 hb6
  have hL7 := za hL6 (Nat.lt_of_succ_lt hz6) hb6
  have hz7 := Nat.lt_of_lt_of_le hz6 hb6.size
  have HBi := hid (HBi.out.trans (hb6.mono HBi.out.size))
  clear hb6 hX6 hL6 hz6
  have hy7 := Nat.lt_of_succ_lt hz7
  have HN : Hid (Gate.jd l b = Gate.qY l b) := by rw [Hid, zaF, HT0.out, HT1.out, HT2.out, HT3.out, HT4.out, HT5.out]; rfl
  rw [HN.out]
  go_wp2_with fail
  go_ret
  exact ⟨rfl, HBi.out⟩
end Go.Proofs.YtfapkhgallmkdaaGreat

namespace Go.Proofs.YtfapkhgallmkdaaGreat
open Go.RowKit
noncomputable def Gate.may (l : Lw) (b : Bk) (who : ByteArray) (x : Ac) : Bool := Gate.qY l b && Gate.zjh l b who x
theorem Gate.zld {l : Lw} {b : Bk} (h : Gate.qY l b = true) : Gate.yt b = true := by
  unfold Gate.qY Gate.zan at h
  simp only [Bool.and_eq_true] at h
  first | exact h.2.1.2.1 | exact h.2.2.2.1 | exact h.2.1.2 | exact h.2.2.1.2 | simp_all
set_option maxHeartbeats 4000000 in
theorem zlT (l : Lw) (la lb lc : Option Addr) (lca lcb lcc : Nat) (b : Bk) (a0 a1 a2 a3 : Option Addr) (c0 c1 c2 c3 : Nat) (who : ByteArray) (x : Ac) (w : World) (hl : qH w l la lb lc) (hb : qL w b a0 a1 a2 a3) (hx : x.Small) (hlf : l.Few) (hbf : b.Few) (hz : yV b.os <= 1048576) :
    Calls Tryz.prog 11 #[.agg (l.cells la lb lc lca lcb lcc), .agg (b.cells a0 a1 a2 a3 c0 c1 c2 c3), .string who, .agg x.cells] w fun e w' => e = .returned (.bool (Gate.may l b who x)) /\ Below w.heap.size w w' := by
  have HL : Hid (qH w l la lb lc) := hl
  have HK : Hid (qL w b a0 a1 a2 a3) := hb
  have HX : Hid x.Small := hx
  have HF : Hid (l.Few /\ b.Few /\ yV b.os <= 1048576) := ⟨hlf, hbf, hz⟩
  clear hlf hbf hz
  clear hl hb hx
  unfold Lw.cells Bk.cells Ac.cells
  by_cases ho : Gate.qY l b = true
  · have HO : Hid (Gate.qY l b = true) := ho
    clear ho
    go_enter Tryz.func11, Tryz.ntmps11
    go_wp2_with fail
    obtain ⟨W0, hW0, hX0, hY0, hZ0, hz0, hB0⟩ := zaG w #[.slice la l.ss.length lca, .slice lb l.ms.length lcb, .slice lc l.ts.length lcc] #[.int .i64 b.now, .int .i64 b.tick, .int .i64 b.given, .slice a0 b.os.length c0, .slice a1 b.gs.length c1, .slice a2 b.ls.length c2, .slice a3 b.ps.length c3] #[.int .i64 x.vb, .string x.kd, .string x.tm, .string x.nm] 43 50 52
    rw [<- hW0]
    clear hW0
    refine (zk HO.out (zdF l la lb lc lca lcb lcc b a0 a1 a2 a3 c0 c1 c2 c3 _ (HL.out.mono hB0) (HK.out.mono hB0) HF.out.1 HF.out.2.1 HF.out.2.2)).mono ?_
    rintro e w1 ⟨rfl, hb⟩
    have hX1 := za hX0 (by omega) hb
    have hY1 := za hY0 (by omega) hb
    have hZ1 := za hZ0 hz0 hb
    have hz1 := Nat.lt_of_lt_of_le hz0 hb.size
    have hB1 := hB0.trans (hb.mono hB0.size)
    clear hb hX0 hY0 hZ0 hz0 hB0
    have hq1 := Nat.lt_of_succ_lt hz1
    have hy1 := Nat.lt_of_succ_lt hq1
    go_wp2_with fail
    refine (zoW l la lb lc lca lcb lcc b a0 a1 a2 a3 c0 c1 c2 c3 who x _ (HL.out.mono hB1) (HK.out.mono hB1) HX.out (Gate.zld HO.out)).mono ?_
    rintro e w2 ⟨rfl, hb⟩
    have hB2 := hB1.trans (hb.mono hB1.size)
    clear hb hB1
    go_wp2_with fail
    go_ret
    exact ⟨ze (by unfold Gate.may; rw [HO.out]; rfl), hB2⟩
  · have HO : Hid (Gate.qY l b = false) := Bool.eq_false_iff.2 ho
    clear ho
    go_enter Tryz.func11, Tryz.ntmps11
    go_wp2_with fail
    obtain ⟨W0, hW0, hX0, hY0, hZ0, hz0, hB0⟩ := zaG w #[.slice la l.ss.length lca, .slice lb l.ms.length lcb, .slice lc l.ts.length lcc] #[.int .i64 b.now, .int .i64 b.tick, .int .i64 b.given, .slice a0 b.os.length c0, .slice a1 b.gs.length c1, .slice a2 b.ls.length c2, .slice a3 b.ps.length c3] #[.int .i64 x.vb, .string x.kd, .string x.tm, .string x.nm] 43 50 52
    rw [<- hW0]
    clear hW0
    refine (zk HO.out (zdF l la lb lc lca lcb lcc b a0 a1 a2 a3 c0 c1 c2 c3 _ (HL.out.mono hB0) (HK.out.mono hB0) HF.out.1 HF.out.2.1 HF.out.2.2)).mono ?_
    rintro e w1 ⟨rfl, hb⟩
    have hX1 := za hX0 (by omega) hb
    have hY1 := za hY0 (by omega) hb
    have hZ1 := za hZ0 hz0 hb
    have hz1 := Nat.lt_of_lt_of_le hz0 hb.size
    have hB1 := hB0.trans (hb.mono hB0.size)
    clear hb hX0 hY0 hZ0 hz0 hB0
    have hq1 := Nat.lt_of_succ_lt hz1
    have hy1 := Nat.lt_of_succ_lt hq1
    go_wp2_with fail
    go_ret
    exact ⟨ze (by unfold Gate.may; rw [HO.out]; rfl), hB1⟩
set_option maxHeartbeats 4000000 in
theorem zli (l : Lw) (la lb lc : Option Addr) (lca lcb lcc : Nat) (b : Bk) (a0 a1 a2 a3 : Option Addr) (c0 c1 c2 c3 : Nat) (who : ByteArray) (x : Ac) (w : World) (hl : qH w l la lb lc) (hb : qL w b a0 a1 a2 a3) (hx : x.Small) (hh : za9 w a0 b.os) (hbf : b.Few) (hz : yV b.os <= 1048576) :
    Calls Tryz.prog 7 #[.agg (l.cells la lb lc lca lcb lcc), .agg (b.cells a0 a1 a2 a3 c0 c1 c2 c3), .string who, .agg x.cells] w fun e w' => e = .returned (.bool (Gate.may l b who x)) /\ Below w.heap.size w w' := by
  have HL : Hid (qH w l la lb lc) := hl
  have HK : Hid (qL w b a0 a1 a2 a3) := hb
  have HX : Hid x.Small := hx
  have HF : Hid (za9 w a0 b.os /\ b.Few /\ yV b.os <= 1048576) := ⟨hh, hbf, hz⟩
  clear hh hbf hz
  clear hl hb hx
  unfold Lw.cells Bk.cells Ac.cells
  by_cases ho : Gate.qY l b = true
  · have HO : Hid (Gate.qY l b = true) := ho
    clear ho
    go_enter Tryz.func7, Tryz.ntmps7
    go_wp2_with fail
    obtain ⟨W0, hW0, hX0, hY0, hZ0, hz0, hB0⟩ := zaG w #[.slice la l.ss.length lca, .slice lb l.ms.length lcb, .slice lc l.ts.length lcc] #[.int .i64 b.now, .int .i64 b.tick, .int .i64 b.given, .slice a0 b.os.length c0, .slice a1 b.gs.length c1, .slice a2 b.ls.length c2, .slice a3 b.ps.length c3] #[.int .i64 x.vb, .string x.kd, .string x.tm, .string x.nm] 43 50 52
    rw [<- hW0]
    clear hW0
    refine (zk HO.out (zdR l la lb lc lca lcb lcc b a0 a1 a2 a3 c0 c1 c2 c3 _ (HL.out.mono hB0) (HK.out.mono hB0) (HF.out.1.mono hB0) HF.out.2.1 HF.out.2.2)).mono ?_
    rintro e w1 ⟨rfl, hb⟩
    have hX1 := za hX0 (by omega) hb
    have hY1 := za hY0 (by omega) hb
    have hZ1 := za hZ0 hz0 hb
    have hz1 := Nat.lt_of_lt_of_le hz0 hb.size
    have hB1 := hB0.trans (hb.mono hB0.size)
    clear hb hX0 hY0 hZ0 hz0 hB0
    have hq1 := Nat.lt_of_succ_lt hz1
    have hy1 := Nat.lt_of_succ_lt hq1
    go_wp2_with fail
    refine (znk l la lb lc lca lcb lcc b a0 a1 a2 a3 c0 c1 c2 c3 who x _ (HL.out.mono hB1) (HK.out.mono hB1) HX.out HF.out.2.1.gs.1).mono ?_
    rintro e w2 ⟨rfl, hb⟩
    have hB2 := hB1.trans (hb.mono hB1.size)
    clear hb hB1
    go_wp2_with fail
    go_ret
    exact ⟨ze (by unfold Gate.may; rw [HO.out]; rfl), hB2⟩
  · have HO : Hid (Gate.qY l b = false) := Bool.eq_false_iff.2 ho
    clear ho
    go_enter Tryz.func7, Tryz.ntmps7
    go_wp2_with fail
    obtain ⟨W0, hW0, hX0, hY0, hZ0, hz0, hB0⟩ := zaG w #[.slice la l.ss.length lca, .slice lb l.ms.length lcb, .slice lc l.ts.length lcc] #[.int .i64 b.now, .int .i64 b.tick, .int .i64 b.given, .slice a0 b.os.length c0, .slice a1 b.gs.length c1, .slice a2 b.ls.length c2, .slice a3 b.ps.length c3] #[.int .i64 x.vb, .string x.kd, .string x.tm, .string x.nm] 43 50 52
    rw [<- hW0]
    clear hW0
    refine (zk HO.out (zdR l la lb lc lca lcb lcc b a0 a1 a2 a3 c0 c1 c2 c3 _ (HL.out.mono hB0) (HK.out.mono hB0) (HF.out.1.mono hB0) HF.out.2.1 HF.out.2.2)).mono ?_
    rintro e w1 ⟨rfl, hb⟩
    have hX1 := za hX0 (by omega) hb
    have hY1 := za hY0 (by omega) hb
    have hZ1 := za hZ0 hz0 hb
    have hz1 := Nat.lt_of_lt_of_le hz0 hb.size
    have hB1 := hB0.trans (hb.mono hB0.size)
    clear hb hX0 hY0 hZ0 hz0 hB0
    have hq1 := Nat.lt_of_succ_lt hz1
    have hy1 := Nat.lt_of_succ_lt hq1
    go_wp2_with fail
    go_ret
    exact ⟨ze (by unfold Gate.may; rw [HO.out]; rfl), hB1⟩
end Go.Proofs.YtfapkhgallmkdaaGreat

namespace Go.Proofs.YtfapkhgallmkdaaGreat
open Go.RowKit
set_option maxHeartbeats 4000000 in
theorem zmk (l : Lw) (la lb lc : Option Addr) (lca lcb lcc : Nat) (b : Bk) (a0 a1 a2 a3 : Option Addr) (c0 c1 c2 c3 : Nat) (who : ByteArray) (x : Ac) (w : World) (hl : qH w l la lb lc) (ho : qL w b a0 a1 a2 a3) (ht : who.size <= maxLen) (hx : x.Small) :
    Calls Tryz.prog 3 #[.agg (l.cells la lb lc lca lcb lcc), .agg (b.cells a0 a1 a2 a3 c0 c1 c2 c3), .string who, .agg x.cells] w fun e w' => e = .returned (.bool true) /\ Below w.heap.size w w' := by
  have HL : Hid (qH w l la lb lc) := hl
  have HO : Hid (qL w b a0 a1 a2 a3) := ho
  have HX : Hid x.Small := hx
  have ht' := ht
  unfold maxLen at ht'
  clear hl ho ht hx
  unfold Lw.cells Bk.cells Ac.cells
  by_cases hts : 1048576 < (who.size : Int)
  · go_enter Tryz.func3, Tryz.ntmps3
    go_wp2_with fail
    go_ret
    exact ⟨rfl, below3' _ _ _ _⟩
  go_enter Tryz.func3, Tryz.ntmps3
  go_wp2_with fail
  obtain ⟨W0, hW0, hX0, hO0, hA0, zA0, hB0⟩ := zaG w #[.slice la l.ss.length lca, .slice lb l.ms.length lcb, .slice lc l.ts.length lcc] #[.int .i64 b.now, .int .i64 b.tick, .int .i64 b.given, .slice a0 b.os.length c0, .slice a1 b.gs.length c1, .slice a2 b.ls.length c2, .slice a3 b.ps.length c3] #[.int .i64 x.vb, .string x.kd, .string x.tm, .string x.nm] 26 32 34
  have zO0 := Nat.lt_of_succ_lt zA0
  have zX0 := Nat.lt_of_succ_lt zO0
  rw [<- hW0]
  clear hW0
  refine (ziA l _ _ _ _ _ _ _ _ (HL.out.mono hB0) (by omega) (by omega)).mono ?_
  rintro e w1 ⟨rfl, hb⟩
  have hX1 := za hX0 zX0 hb
  have zX1 := Nat.lt_of_lt_of_le zX0 hb.size
  have hO1 := za hO0 zO0 hb
  have zO1 := Nat.lt_of_lt_of_le zO0 hb.size
  have hA1 := za hA0 zA0 hb
  have zA1 := Nat.lt_of_lt_of_le zA0 hb.size
  have hB1 := hB0.trans (hb.mono hB0.size)
  clear hb hX0 zX0 hO0 zO0 hA0 zA0 hB0
  by_cases hsz : (l.sz : Int) <= 1048576
  rotate_left
  · rw [zw (by omega)]
    go_wp2_with fail
    go_ret
    exact ⟨rfl, hB1⟩
  have HF : Hid l.Few := Lw.few hsz
  have hneg : decide (1048576 - (l.sz : Int) < 0) = false := by simp; omega
  rw [zI hsz]
  go_wp2_with fail
  refine (zho b _ _ _ _ _ _ _ _ _ _ (HO.out.mono hB1) (by omega) (by omega)).mono ?_
  rintro e w2 ⟨rfl, hb⟩
  have hX2 := za hX1 zX1 hb
  have zX2 := Nat.lt_of_lt_of_le zX1 hb.size
  have hO2 := za hO1 zO1 hb
  have zO2 := Nat.lt_of_lt_of_le zO1 hb.size
  have hA2 := za hA1 zA1 hb
  have zA2 := Nat.lt_of_lt_of_le zA1 hb.size
  have hB2 := hB1.trans (hb.mono hB1.size)
  clear hb hX1 zX1 hO1 zO1 hA1 zA1 hB1
  by_cases hoz : (b.sz : Int) <= 1048576 - (l.sz : Int)
  rotate_left
  · rw [zw (by omega)]
    go_wp2_with fail
    go_ret
    exact ⟨rfl, hB2⟩
  have HG : Hid b.Few := Bk.few (by omega)
  have HZ : Hid (yV b.os <= 1048576) := by unfold Bk.sz at hoz; show _ <= _; omega
  have hneg2 : decide (1048576 - (l.sz : Int) - (b.sz : Int) < 0) = false := by simp; omega
  rw [zI hoz]
  go_wp2_with fail
  refine (ziw x _ _ HX.out (by omega) (by omega)).mono ?_
  rintro e w2b ⟨rfl, hb⟩
  have hX3 := za hX2 zX2 hb
  have zX3 := Nat.lt_of_lt_of_le zX2 hb.size
  have hO3 := za hO2 zO2 hb
  have zO3 := Nat.lt_of_lt_of_le zO2 hb.size
  have hA3 := za hA2 zA2 hb
  have zA3 := Nat.lt_of_lt_of_le zA2 hb.size
  have hB3 := hB2.trans (hb.mono hB2.size)
  clear hb hX2 zX2 hO2 zO2 hA2 zA2 hB2
  by_cases haz : (x.sz : Int) <= 1048576 - (l.sz : Int) - (b.sz : Int)
  rotate_left
  · rw [zw (by omega)]
    go_wp2_with fail
    go_ret
    exact ⟨rfl, hB3⟩
  have hneg3 : decide (1048576 - (l.sz : Int) - (b.sz : Int) - (x.sz : Int) < 0) = false := by simp; omega
  rw [zI haz]
  go_wp2_with fail
  have hX := za hX3 zX3 (Below.refl w2b.heap.size w2b).drew
  have zX : w.heap.size < w2b.drew.heap.size := zX3
  have hO := za hO3 zO3 (Below.refl w2b.heap.size w2b).drew
  have zO : w.heap.size + 1 < w2b.drew.heap.size := zO3
  have hA := za hA3 zA3 (Below.refl w2b.heap.size w2b).drew
  have zA : w.heap.size + 1 + 1 < w2b.drew.heap.size := zA3
  have hB := hB3.drew
  clear hX3 zX3 hO3 zO3 hA3 zA3 hB3
  go_region_held3 (fun w' => (∀ j, w'.cell? ⟨w.heap.size, j, none⟩ = (#[.slice la l.ss.length lca, .slice lb l.ms.length lcb, .slice lc l.ts.length lcc] : Array Value)[j]?) /\ (∀ j, w'.cell? ⟨w.heap.size + 1, j, none⟩ = (#[.int .i64 b.now, .int .i64 b.tick, .int .i64 b.given, .slice a0 b.os.length c0, .slice a1 b.gs.length c1, .slice a2 b.ls.length c2, .slice a3 b.ps.length c3] : Array Value)[j]?) /\ (∀ j, w'.cell? ⟨w.heap.size + 1 + 1, j, none⟩ = (#[.int .i64 x.vb, .string x.kd, .string x.tm, .string x.nm] : Array Value)[j]?)) (exact ⟨hX, hO, hA⟩) (first
    | (go_at_call 8; refine (zcp l _ _ _ _ _ _ _ (by exact HL.out.mono hB) HF.out).mono ?_; rintro e w3 ⟨pa, pb, pc, rfl, hl30, hb⟩; unfold Lw.cells; have hl3 := hl30; have hX := za hX zX hb; have hO := za hO zO hb; have hA := za hA zA hb; have hB := hB.trans (hb.mono hB.size); have zX := Nat.lt_of_lt_of_le zX hb.size; have zO := Nat.lt_of_lt_of_le zO hb.size; have zA := Nat.lt_of_lt_of_le zA hb.size; clear hb)
    | (go_at_call 9; refine (zie b _ _ _ _ _ _ _ _ _ (by exact HO.out.mono hB) HG.out).mono ?_; rintro e w3 ⟨pd, pe, pf, pg, rfl, ho30, ho3h0, hb⟩; unfold Bk.cells; have ho3 := ho30; have ho3h := ho3h0; have hX := za hX zX hb; have hO := za hO zO hb; have hA := za hA zA hb; have hl3 := hl3.mono hb; have hB := hB.trans (hb.mono hB.size); have zX := Nat.lt_of_lt_of_le zX hb.size; have zO := Nat.lt_of_lt_of_le zO hb.size; have zA := Nat.lt_of_lt_of_le zA hb.size; clear hb)
    | (go_at_call 10; refine (zeh x _).mono ?_; rintro e w3 ⟨rfl, hb⟩; unfold Ac.cells; have hX := za hX zX hb; have hO := za hO zO hb; have hA := za hA zA hb; have hl3 := hl3.mono hb; have ho3 := ho3.mono hb; have ho3h := ho3h.mono hb; have hB := hB.trans (hb.mono hB.size); have zX := Nat.lt_of_lt_of_le zX hb.size; have zO := Nat.lt_of_lt_of_le zO hb.size; have zA := Nat.lt_of_lt_of_le zA hb.size; clear hb)
    | (go_at_call 7; refine (zli l _ _ _ _ _ _ b _ _ _ _ _ _ _ _ who x _ (by exact hl3) (by exact ho3) HX.out (by exact ho3h) HG.out HZ.out).mono ?_; rintro e w3 ⟨rfl, hb⟩; clear hl3; clear ho3; clear ho3h; have hX := za hX zX hb; have hO := za hO zO hb; have hA := za hA zA hb; have hB := hB.trans (hb.mono hB.size); have zX := Nat.lt_of_lt_of_le zX hb.size; have zO := Nat.lt_of_lt_of_le zO hb.size; have zA := Nat.lt_of_lt_of_le zA hb.size; clear hb))
  have hX4 := hX
  have zX4 := zX
  have hO4 := hO
  have zO4 := zO
  have hA4 := hA
  have zA4 := zA
  have hB4 := hB
  clear hX zX hO zO hA zA hB
  go_wp2_with fail
  refine (zcp l _ _ _ _ _ _ _ (HL.out.mono hB4) HF.out).mono ?_
  rintro e w4 ⟨l4a, l4b, l4c, rfl, hl, hb⟩
  have kl5 := hl
  have hX5 := za hX4 zX4 hb
  have zX5 := Nat.lt_of_lt_of_le zX4 hb.size
  have hO5 := za hO4 zO4 hb
  have zO5 := Nat.lt_of_lt_of_le zO4 hb.size
  have hA5 := za hA4 zA4 hb
  have zA5 := Nat.lt_of_lt_of_le zA4 hb.size
  have hB5 := hB4.trans (hb.mono hB4.size)
  clear hb hX4 zX4 hO4 zO4 hA4 zA4 hB4 hl
  unfold Lw.cells
  go_wp2_with fail
  have hb : Below w4.heap.size w4 (w4.alloc (.cells #[.slice l4a l.ss.length l.ss.length, .slice l4b l.ms.length l.ms.length, .slice l4c l.ts.length l.ts.length] 43)) := (Below.refl _ _).alloc (Nat.le_refl _) _
  have hN := zG w4 #[.slice l4a l.ss.length l.ss.length, .slice l4b l.ms.length l.ms.length, .slice l4c l.ts.length l.ts.length] 43
  obtain ⟨w5, hN0⟩ : ∃ w5, w5 = w4.alloc (.cells #[.slice l4a l.ss.length l.ss.length, .slice l4b l.ms.length l.ms.length, .slice l4c l.ts.length l.ts.length] 43) := ⟨_, rfl⟩
  have hNz : w4.heap.size < w5.heap.size := by rw [hN0]; simp
  rw [<- hN0] at hb hN ⊢
  clear hN0
  have hX6 := za hX5 zX5 hb
  have zX6 := Nat.lt_of_lt_of_le zX5 hb.size
  have hO6 := za hO5 zO5 hb
  have zO6 := Nat.lt_of_lt_of_le zO5 hb.size
  have hA6 := za hA5 zA5 hb
  have zA6 := Nat.lt_of_lt_of_le zA5 hb.size
  have kl6 := kl5.mono hb
  have hB6 := hB5.trans (hb.mono hB5.size)
  clear hb hX5 zX5 hO5 zO5 hA5 zA5 kl5 hB5
  have hV6 := hN
  have zV6 := hNz
  clear hN hNz
  refine (zdv b _ _ _ _ _ _ _ _ _ (HO.out.mono hB6) HG.out).mono ?_
  rintro e w6 ⟨b0, b1, b2, b3, rfl, hl, hb⟩
  have ko7 := hl
  have hX7 := za hX6 zX6 hb
  have zX7 := Nat.lt_of_lt_of_le zX6 hb.size
  have hO7 := za hO6 zO6 hb
  have zO7 := Nat.lt_of_lt_of_le zO6 hb.size
  have hA7 := za hA6 zA6 hb
  have zA7 := Nat.lt_of_lt_of_le zA6 hb.size
  have hV7 := za hV6 zV6 hb
  have zV7 := Nat.lt_of_lt_of_le zV6 hb.size
  have kl7 := kl6.mono hb
  have hB7 := hB6.trans (hb.mono hB6.size)
  clear hb hX6 zX6 hO6 zO6 hA6 zA6 hV6 zV6 kl6 hB6 hl
  unfold Bk.cells
  go_wp2_with fail
  have hb : Below w6.heap.size w6 (w6.alloc (.cells #[.int .i64 b.now, .int .i64 b.tick, .int .i64 b.given, .slice b0 b.os.length b.os.length, .slice b1 b.gs.length b.gs.length, .slice b2 b.ls.length b.ls.length, .slice b3 b.ps.length b.ps.length] 50)) := (Below.refl _ _).alloc (Nat.le_refl _) _
  have hN := zG w6 #[.int .i64 b.now, .int .i64 b.tick, .int .i64 b.given, .slice b0 b.os.length b.os.length, .slice b1 b.gs.length b.gs.length, .slice b2 b.ls.length b.ls.length, .slice b3 b.ps.length b.ps.length] 50
  obtain ⟨w7, hN0⟩ : ∃ w7, w7 = w6.alloc (.cells #[.int .i64 b.now, .int .i64 b.tick, .int .i64 b.given, .slice b0 b.os.length b.os.length, .slice b1 b.gs.length b.gs.length, .slice b2 b.ls.length b.ls.length, .slice b3 b.ps.length b.ps.length] 50) := ⟨_, rfl⟩
  have hNz : w6.heap.size < w7.heap.size := by rw [hN0]; simp
  rw [<- hN0] at hb hN ⊢
  clear hN0
  have hX8 := za hX7 zX7 hb
  have zX8 := Nat.lt_of_lt_of_le zX7 hb.size
  have hO8 := za hO7 zO7 hb
  have zO8 := Nat.lt_of_lt_of_le zO7 hb.size
  have hA8 := za hA7 zA7 hb
  have zA8 := Nat.lt_of_lt_of_le zA7 hb.size
  have hV8 := za hV7 zV7 hb
  have zV8 := Nat.lt_of_lt_of_le zV7 hb.size
  have kl8 := kl7.mono hb
  have ko8 := ko7.mono hb
  have hB8 := hB7.trans (hb.mono hB7.size)
  clear hb hX7 zX7 hO7 zO7 hA7 zA7 hV7 zV7 kl7 ko7 hB7
  have hU8 := hN
  have zU8 := hNz
  clear hN hNz
  have hX := za hX8 zX8 (Below.refl w7.heap.size w7).drew
  have zX : w.heap.size < w7.drew.heap.size := zX8
  have hO := za hO8 zO8 (Below.refl w7.heap.size w7).drew
  have zO : w.heap.size + 1 < w7.drew.heap.size := zO8
  have hA := za hA8 zA8 (Below.refl w7.heap.size w7).drew
  have zA : w.heap.size + 1 + 1 < w7.drew.heap.size := zA8
  have hV := za hV8 zV8 (Below.refl w7.heap.size w7).drew
  have zV : w4.heap.size < w7.drew.heap.size := zV8
  have hU := za hU8 zU8 (Below.refl w7.heap.size w7).drew
  have zU : w6.heap.size < w7.drew.heap.size := zU8
  have kl := kl8.mono (Below.refl w7.heap.size w7).drew
  have ko := ko8.mono (Below.refl w7.heap.size w7).drew
  have hB := hB8.drew
  clear hX8 zX8 hO8 zO8 hA8 zA8 hV8 zV8 hU8 zU8 kl8 ko8 hB8
  go_region_held3 (fun w' => (∀ j, w'.cell? ⟨w.heap.size, j, none⟩ = (#[.slice la l.ss.length lca, .slice lb l.ms.length lcb, .slice lc l.ts.length lcc] : Array Value)[j]?) /\ (∀ j, w'.cell? ⟨w.heap.size + 1, j, none⟩ = (#[.int .i64 b.now, .int .i64 b.tick, .int .i64 b.given, .slice a0 b.os.length c0, .slice a1 b.gs.length c1, .slice a2 b.ls.length c2, .slice a3 b.ps.length c3] : Array Value)[j]?) /\ (∀ j, w'.cell? ⟨w.heap.size + 1 + 1, j, none⟩ = (#[.int .i64 x.vb, .string x.kd, .string x.tm, .string x.nm] : Array Value)[j]?) /\ (∀ j, w'.cell? ⟨w4.heap.size, j, none⟩ = (#[.slice l4a l.ss.length l.ss.length, .slice l4b l.ms.length l.ms.length, .slice l4c l.ts.length l.ts.length] : Array Value)[j]?) /\ (∀ j, w'.cell? ⟨w6.heap.size, j, none⟩ = (#[.int .i64 b.now, .int .i64 b.tick, .int .i64 b.given, .slice b0 b.os.length b.os.length, .slice b1 b.gs.length b.gs.length, .slice b2 b.ls.length b.ls.length, .slice b3 b.ps.length b.ps.length] : Array Value)[j]?)) (exact ⟨hX, hO, hA, hV, hU⟩) (first
    | (go_at_call 10; refine (zeh x _).mono ?_; rintro e w8 ⟨rfl, hb⟩; unfold Ac.cells; have hX := za hX zX hb; have hO := za hO zO hb; have hA := za hA zA hb; have hV := za hV zV hb; have hU := za hU zU hb; have kl := kl.mono hb; have ko := ko.mono hb; have hB := hB.trans (hb.mono hB.size); have zX := Nat.lt_of_lt_of_le zX hb.size; have zO := Nat.lt_of_lt_of_le zO hb.size; have zA := Nat.lt_of_lt_of_le zA hb.size; have zV := Nat.lt_of_lt_of_le zV hb.size; have zU := Nat.lt_of_lt_of_le zU hb.size; clear hb)
    | (go_at_call 11; refine (zlT l _ _ _ _ _ _ b _ _ _ _ _ _ _ _ who x _ (by exact kl) (by exact ko) HX.out HF.out HG.out HZ.out).mono ?_; rintro e w8 ⟨rfl, hb⟩; have hX := za hX zX hb; have hO := za hO zO hb; have hA := za hA zA hb; have hV := za hV zV hb; have hU := za hU zU hb; have kl := kl.mono hb; have ko := ko.mono hb; have hB := hB.trans (hb.mono hB.size); have zX := Nat.lt_of_lt_of_le zX hb.size; have zO := Nat.lt_of_lt_of_le zO hb.size; have zA := Nat.lt_of_lt_of_le zA hb.size; have zV := Nat.lt_of_lt_of_le zV hb.size; have zU := Nat.lt_of_lt_of_le zU hb.size; clear hb))
  have hX9 := hX
  have zX9 := zX
  have hO9 := hO
  have zO9 := zO
  have hA9 := hA
  have zA9 := zA
  have hV9 := hV
  have zV9 := zV
  have hU9 := hU
  have zU9 := zU
  have kl9 := kl
  have ko9 := ko
  have hB9 := hB
  clear hX zX hO zO hA zA hV zV hU zU kl ko hB
  have hnn : (Gate.may l b who x != Gate.may l b who x) = false := by simp
  go_wp2_with fail
  have hX := za hX9 zX9 (Below.refl w8.heap.size w8).drew
  have zX : w.heap.size < w8.drew.heap.size := zX9
  have hO := za hO9 zO9 (Below.refl w8.heap.size w8).drew
  have zO : w.heap.size + 1 < w8.drew.heap.size := zO9
  have hA := za hA9 zA9 (Below.refl w8.heap.size w8).drew
  have zA : w.heap.size + 1 + 1 < w8.drew.heap.size := zA9
  have hV := za hV9 zV9 (Below.refl w8.heap.size w8).drew
  have zV : w4.heap.size < w8.drew.heap.size := zV9
  have hU := za hU9 zU9 (Below.refl w8.heap.size w8).drew
  have zU : w6.heap.size < w8.drew.heap.size := zU9
  have kl := kl9.mono (Below.refl w8.heap.size w8).drew
  have ko := ko9.mono (Below.refl w8.heap.size w8).drew
  have hB := hB9.drew
  clear hX9 zX9 hO9 zO9 hA9 zA9 hV9 zV9 hU9 zU9 kl9 ko9 hB9
  go_region_held3 (fun w' => (∀ j, w'.cell? ⟨w.heap.size, j, none⟩ = (#[.slice la l.ss.length lca, .slice lb l.ms.length lcb, .slice lc l.ts.length lcc] : Array Value)[j]?) /\ (∀ j, w'.cell? ⟨w.heap.size + 1, j, none⟩ = (#[.int .i64 b.now, .int .i64 b.tick, .int .i64 b.given, .slice a0 b.os.length c0, .slice a1 b.gs.length c1, .slice a2 b.ls.length c2, .slice a3 b.ps.length c3] : Array Value)[j]?) /\ (∀ j, w'.cell? ⟨w.heap.size + 1 + 1, j, none⟩ = (#[.int .i64 x.vb, .string x.kd, .string x.tm, .string x.nm] : Array Value)[j]?) /\ (∀ j, w'.cell? ⟨w4.heap.size, j, none⟩ = (#[.slice l4a l.ss.length l.ss.length, .slice l4b l.ms.length l.ms.length, .slice l4c l.ts.length l.ts.length] : Array Value)[j]?) /\ (∀ j, w'.cell? ⟨w6.heap.size, j, none⟩ = (#[.int .i64 b.now, .int .i64 b.tick, .int .i64 b.given, .slice b0 b.os.length b.os.length, .slice b1 b.gs.length b.gs.length, .slice b2 b.ls.length b.ls.length, .slice b3 b.ps.length b.ps.length] : Array Value)[j]?)) (exact ⟨hX, hO, hA, hV, hU⟩) (first
    | (go_at_call 8; refine (zcp l _ _ _ _ _ _ _ (by exact HL.out.mono hB) HF.out).mono ?_; rintro e w9 ⟨qa, qb, qc, rfl, hl90, hb⟩; unfold Lw.cells; have hl9 := hl90; have hX := za hX zX hb; have hO := za hO zO hb; have hA := za hA zA hb; have hV := za hV zV hb; have hU := za hU zU hb; have kl := kl.mono hb; have ko := ko.mono hb; have hB := hB.trans (hb.mono hB.size); have zX := Nat.lt_of_lt_of_le zX hb.size; have zO := Nat.lt_of_lt_of_le zO hb.size; have zA := Nat.lt_of_lt_of_le zA hb.size; have zV := Nat.lt_of_lt_of_le zV hb.size; have zU := Nat.lt_of_lt_of_le zU hb.size; clear hb)
    | (go_at_call 12; refine (zi0 l _ _ _ _ _ _ _ _ _ _ _ _ _ (by exact kl) (by exact hl9)).mono ?_; rintro e w9 ⟨rfl, hb⟩; clear hl9; have hX := za hX zX hb; have hO := za hO zO hb; have hA := za hA zA hb; have hV := za hV zV hb; have hU := za hU zU hb; have kl := kl.mono hb; have ko := ko.mono hb; have hB := hB.trans (hb.mono hB.size); have zX := Nat.lt_of_lt_of_le zX hb.size; have zO := Nat.lt_of_lt_of_le zO hb.size; have zA := Nat.lt_of_lt_of_le zA hb.size; have zV := Nat.lt_of_lt_of_le zV hb.size; have zU := Nat.lt_of_lt_of_le zU hb.size; clear hb))
  have hX10 := hX
  have zX10 := zX
  have hO10 := hO
  have zO10 := zO
  have hA10 := hA
  have zA10 := zA
  have hV10 := hV
  have zV10 := zV
  have hU10 := hU
  have zU10 := zU
  have kl10 := kl
  have ko10 := ko
  have hB10 := hB
  clear hX zX hO zO hA zA hV zV hU zU kl ko hB
  go_wp2_with fail
  have hX := za hX10 zX10 (Below.refl w9.heap.size w9).drew
  have zX : w.heap.size < w9.drew.heap.size := zX10
  have hO := za hO10 zO10 (Below.refl w9.heap.size w9).drew
  have zO : w.heap.size + 1 < w9.drew.heap.size := zO10
  have hA := za hA10 zA10 (Below.refl w9.heap.size w9).drew
  have zA : w.heap.size + 1 + 1 < w9.drew.heap.size := zA10
  have hV := za hV10 zV10 (Below.refl w9.heap.size w9).drew
  have zV : w4.heap.size < w9.drew.heap.size := zV10
  have hU := za hU10 zU10 (Below.refl w9.heap.size w9).drew
  have zU : w6.heap.size < w9.drew.heap.size := zU10
  have kl := kl10.mono (Below.refl w9.heap.size w9).drew
  have ko := ko10.mono (Below.refl w9.heap.size w9).drew
  have hB := hB10.drew
  clear hX10 zX10 hO10 zO10 hA10 zA10 hV10 zV10 hU10 zU10 kl10 ko10 hB10
  go_region_held3 (fun w' => (∀ j, w'.cell? ⟨w.heap.size, j, none⟩ = (#[.slice la l.ss.length lca, .slice lb l.ms.length lcb, .slice lc l.ts.length lcc] : Array Value)[j]?) /\ (∀ j, w'.cell? ⟨w.heap.size + 1, j, none⟩ = (#[.int .i64 b.now, .int .i64 b.tick, .int .i64 b.given, .slice a0 b.os.length c0, .slice a1 b.gs.length c1, .slice a2 b.ls.length c2, .slice a3 b.ps.length c3] : Array Value)[j]?) /\ (∀ j, w'.cell? ⟨w.heap.size + 1 + 1, j, none⟩ = (#[.int .i64 x.vb, .string x.kd, .string x.tm, .string x.nm] : Array Value)[j]?) /\ (∀ j, w'.cell? ⟨w4.heap.size, j, none⟩ = (#[.slice l4a l.ss.length l.ss.length, .slice l4b l.ms.length l.ms.length, .slice l4c l.ts.length l.ts.length] : Array Value)[j]?) /\ (∀ j, w'.cell? ⟨w6.heap.size, j, none⟩ = (#[.int .i64 b.now, .int .i64 b.tick, .int .i64 b.given, .slice b0 b.os.length b.os.length, .slice b1 b.gs.length b.gs.length, .slice b2 b.ls.length b.ls.length, .slice b3 b.ps.length b.ps.length] : Array Value)[j]?)) (exact ⟨hX, hO, hA, hV, hU⟩) (first
    | (go_at_call 9; refine (zdv b _ _ _ _ _ _ _ _ _ (by exact HO.out.mono hB) HG.out).mono ?_; rintro e wA ⟨qd, qe, qf, qg, rfl, hoA0, hb⟩; unfold Bk.cells; have hoA := hoA0; have hX := za hX zX hb; have hO := za hO zO hb; have hA := za hA zA hb; have hV := za hV zV hb; have hU := za hU zU hb; have kl := kl.mono hb; have ko := ko.mono hb; have hB := hB.trans (hb.mono hB.size); have zX := Nat.lt_of_lt_of_le zX hb.size; have zO := Nat.lt_of_lt_of_le zO hb.size; have zA := Nat.lt_of_lt_of_le zA hb.size; have zV := Nat.lt_of_lt_of_le zV hb.size; have zU := Nat.lt_of_lt_of_le zU hb.size; clear hb)
    | (go_at_call 13; refine (zhH b _ _ _ _ _ _ _ _ _ _ _ _ _ _ _ _ _ (by exact ko) (by exact hoA)).mono ?_; rintro e wA ⟨rfl, hb⟩; clear hoA; have hX := za hX zX hb; have hO := za hO zO hb; have hA := za hA zA hb; have hV := za hV zV hb; have hU := za hU zU hb; have kl := kl.mono hb; have ko := ko.mono hb; have hB := hB.trans (hb.mono hB.size); have zX := Nat.lt_of_lt_of_le zX hb.size; have zO := Nat.lt_of_lt_of_le zO hb.size; have zA := Nat.lt_of_lt_of_le zA hb.size; have zV := Nat.lt_of_lt_of_le zV hb.size; have zU := Nat.lt_of_lt_of_le zU hb.size; clear hb))
  have hX11 := hX
  have zX11 := zX
  have hO11 := hO
  have zO11 := zO
  have hA11 := hA
  have zA11 := zA
  have hV11 := hV
  have zV11 := zV
  have hU11 := hU
  have zU11 := zU
  have kl11 := kl
  have ko11 := ko
  have hB11 := hB
  clear hX zX hO zO hA zA hV zV hU zU kl ko hB
  go_wp2_with fail
  go_ret
  exact ⟨rfl, hB11⟩
end Go.Proofs.YtfapkhgallmkdaaGreat
