import Derived.Test.YtfcdmlnpfoikhaaGreatM49
import Derived.Test.YtfcdmlnpfoikhaaGreatM53
import Derived.Test.YtfcdmlnpfoikhaaGreatM40
import Derived.Test.YtfcdmlnpfoikhaaGreatM52
import Derived.Test.YtfcdmlnpfoikhaaGreatM36
import Derived.Test.YtfcdmlnpfoikhaaGreatM31
namespace Go.Proofs.YtfcdmlnpfoikhaaGreat
open Go.RowKit
theorem zaO (l : Lw) (b : Bk) : Gate.jy l b = (Gate.zbA l && ((Gate.within b.now 0 1000000 && (Gate.within b.tick 0 1000000 && Gate.within b.given 0 b.now)) && (Gate.zJ l b && (Gate.yA b && Gate.jc l b)))) := rfl
theorem zdU (n lo hi : Int) (w : World) : Calls Tryz.prog 57 #[.int .i64 n, .int .i64 lo, .int .i64 hi] w fun e w' => e = .returned (.bool (Gate.within n lo hi)) /\ w' = w := jH n lo hi w
theorem znB {n lo hi : Int} (h : Gate.within n lo hi = true) : lo <= n /\ n <= hi := by unfold Gate.within at h; simpa using h
set_option maxRecDepth 20000 in
set_option maxHeartbeats 4000000 in
theorem ziu (l : Lw) (la lb lc : Option Addr) (lca lcb lcc : Nat) (b : Bk) (a0 a1 a2 a3 : Option Addr) (c0 c1 c2 c3 : Nat) (w : World) (hl : qA w l la lb lc) (hb : qD w b a0 a1 a2 a3) (hh : zbg w a0 b.os) (hbf : b.Few) (hz : yX b.os <= 1048576) :
    Calls Tryz.prog 24 #[.agg (l.cells la lb lc lca lcb lcc), .agg (b.cells a0 a1 a2 a3 c0 c1 c2 c3)] w fun e w' => e = .returned (.bool (Gate.jy l b)) /\ Below w.heap.size w w' := by
  have HK := hid hb
  have HL := hid hl
  have HH := hid hh
  have HF : Hid (b.Few /\ yX b.os <= 1048576) := ⟨hbf, hz⟩
  clear hb hl hh hbf hz
  unfold Lw.cells Bk.cells
  go_enter Tryz.func24, Tryz.ntmps24
  go_wp2_with fail
  obtain ⟨hL0, hX0⟩ := yR w (lC l la lb lc lca lcb lcc) (bC b a0 a1 a2 a3 c0 c1 c2 c3) 41 48
  have HBi : Hid (Below w.heap.size w ((w.alloc (.cells (lC l la lb lc lca lcb lcc) 41)).alloc (.cells (bC b a0 a1 a2 a3 c0 c1 c2 c3) 48))) := zq w _ _
  obtain ⟨W0, hW0⟩ : ∃ W0, W0 = (w.alloc (.cells (lC l la lb lc lca lcb lcc) 41)).alloc (.cells (bC b a0 a1 a2 a3 c0 c1 c2 c3) 48) := ⟨_, rfl⟩
  have hz0 : w.heap.size + 1 < W0.heap.size := by rw [hW0]; simp
  rw [<- hW0] at HBi hX0 hL0 ⊢
  clear hW0
  refine (ziU l la lb lc lca lcb lcc _ (HL.out.mono HBi.out)).mono ?_
  rintro e w1 ⟨rfl, hb0⟩
  have hX1 := za hX0 hz0 hb0
  have hL1 := za hL0 (Nat.lt_of_succ_lt hz0) hb0
  have hz1 := Nat.lt_of_lt_of_le hz0 hb0.size
  have HBi := hid (HBi.out.trans (hb0.mono HBi.out.size))
  clear hb0 hX0 hL0 hz0
  have hy1 := Nat.lt_of_succ_lt hz1
  by_cases t : Gate.zbA l = true
  rotate_left
  · have HN : Hid (Gate.jy l b = false) := by rw [Hid, zaO, Bool.eq_false_iff.2 t]; simp
    rw [Bool.eq_false_iff.2 t]
    clear t
    go_wp2_with fail
    go_ret
    exact ⟨ze HN.out.symm, HBi.out⟩
  have HT0 := hid t
  rw [t]
  clear t
  go_wp2_with fail
  have HM : Hid (Gate.zW l.ss l.ms = true) := by have t := HT0.out; unfold Gate.zbA at t; simp only [Bool.and_eq_true] at t; exact t.1
  refine (zdU b.now (0) (1000000) _).mono ?_
  rintro e w2 ⟨rfl, rfl⟩
  have hX2 := hX1
  have hL2 := hL1
  have hz2 := hz1
  clear hX1 hL1 hz1
  have hy2 := Nat.lt_of_succ_lt hz2
  have hcv : Gate.within b.now 0 1000000 = Gate.within b.now 0 1000000 := rfl
  clear hcv
  by_cases t : Gate.within b.now 0 1000000 = true
  rotate_left
  · have HN : Hid (Gate.jy l b = false) := by rw [Hid, zaO, HT0.out, Bool.eq_false_iff.2 t]; simp
    rw [Bool.eq_false_iff.2 t]
    clear t
    go_wp2_with fail
    go_ret
    exact ⟨ze HN.out.symm, HBi.out⟩
  have HT1 := hid t
  rw [t]
  clear t
  go_wp2_with fail
  refine (zdU b.tick (0) (1000000) _).mono ?_
  rintro e w3 ⟨rfl, rfl⟩
  have hX3 := hX2
  have hL3 := hL2
  have hz3 := hz2
  clear hX2 hL2 hz2
  have hy3 := Nat.lt_of_succ_lt hz3
  have hcv : Gate.within b.tick 0 1000000 = Gate.within b.tick 0 1000000 := rfl
  clear hcv
  by_cases t : Gate.within b.tick 0 1000000 = true
  rotate_left
  · have HN : Hid (Gate.jy l b = false) := by rw [Hid, zaO, HT0.out, HT1.out, Bool.eq_false_iff.2 t]; simp
    rw [Bool.eq_false_iff.2 t]
    clear t
    go_wp2_with fail
    go_ret
    exact ⟨ze HN.out.symm, HBi.out⟩
  have HT2 := hid t
  rw [t]
  clear t
  go_wp2_with fail
  refine (zdU b.given (0) (b.now) _).mono ?_
  rintro e w4 ⟨rfl, rfl⟩
  have hX4 := hX3
  have hL4 := hL3
  have hz4 := hz3
  clear hX3 hL3 hz3
  have hy4 := Nat.lt_of_succ_lt hz4
  have hcv : Gate.within b.given 0 b.now = Gate.within b.given 0 b.now := rfl
  clear hcv
  by_cases t : Gate.within b.given 0 b.now = true
  rotate_left
  · have HN : Hid (Gate.jy l b = false) := by rw [Hid, zaO, HT0.out, HT1.out, HT2.out, Bool.eq_false_iff.2 t]; simp
    rw [Bool.eq_false_iff.2 t]
    clear t
    go_wp2_with fail
    go_ret
    exact ⟨ze HN.out.symm, HBi.out⟩
  have HT3 := hid t
  rw [t]
  clear t
  go_wp2_with fail
  refine (zgM l la lb lc lca lcb lcc b a0 a1 a2 a3 c0 c1 c2 c3 _ (HL.out.mono HBi.out) (HK.out.mono HBi.out) (HH.out.mono HBi.out) HM.out HF.out.1.os.2).mono ?_
  rintro e w5 ⟨rfl, hb4⟩
  have hX5 := za hX4 hz4 hb4
  have hL5 := za hL4 (Nat.lt_of_succ_lt hz4) hb4
  have hz5 := Nat.lt_of_lt_of_le hz4 hb4.size
  have HBi := hid (HBi.out.trans (hb4.mono HBi.out.size))
  clear hb4 hX4 hL4 hz4
  have hy5 := Nat.lt_of_succ_lt hz5
  by_cases t : Gate.zJ l b = true
  rotate_left
  · have HN : Hid (Gate.jy l b = false) := by rw [Hid, zaO, HT0.out, HT1.out, HT2.out, HT3.out, Bool.eq_false_iff.2 t]; simp
    rw [Bool.eq_false_iff.2 t]
    clear t
    go_wp2_with fail
    go_ret
    exact ⟨ze HN.out.symm, HBi.out⟩
  have HT4 := hid t
  rw [t]
  clear t
  go_wp2_with fail
  refine (zix b a0 a1 a2 a3 c0 c1 c2 c3 _ (HK.out.mono HBi.out)).mono ?_
  rintro e w6 ⟨rfl, hb5⟩
  have hX6 := za hX5 hz5 hb5
  have hL6 := za hL5 (Nat.lt_of_succ_lt hz5) hb5
  have hz6 := Nat.lt_of_lt_of_le hz5 hb5.size
  have HBi := hid (HBi.out.trans (hb5.mono HBi.out.size))
  clear hb5 hX5 hL5 hz5
  have hy6 := Nat.lt_of_succ_lt hz6
  by_cases t : Gate.yA b = true
  rotate_left
  · have HN : Hid (Gate.jy l b = false) := by rw [Hid, zaO, HT0.out, HT1.out, HT2.out, HT3.out, HT4.out, Bool.eq_false_iff.2 t]; simp
    rw [Bool.eq_false_iff.2 t]
    clear t
    go_wp2_with fail
    go_ret
    exact ⟨ze HN.out.symm, HBi.out⟩
  have HT5 := hid t
  rw [t]
  clear t
  go_wp2_with fail
  refine (zkv l la lb lc lca lcb lcc b a0 a1 a2 a3 c0 c1 c2 c3 _ (HL.out.mono HBi.out) (HK.out.mono HBi.out) (znB HT2.out) HF.out.2).mono ?_
  rintro e w7 ⟨rfl, hb6⟩
  have hX7 := za hX6 hz6 hb6
  have hL7 := za hL6 (Nat.lt_of_succ_lt hz6) hb6
  have hz7 := Nat.lt_of_lt_of_le hz6 hb6.size
  have HBi := hid (HBi.out.trans (hb6.mono HBi.out.size))
  clear hb6 hX6 hL6 hz6
  have hy7 := Nat.lt_of_succ_lt hz7
  have HN : Hid (Gate.jc l b = Gate.jy l b) := by rw [Hid, zaO, HT0.out, HT1.out, HT2.out, HT3.out, HT4.out, HT5.out]; rfl
  rw [HN.out]
  go_wp2_with fail
  go_ret
  exact ⟨rfl, HBi.out⟩
end Go.Proofs.YtfcdmlnpfoikhaaGreat

namespace Go.Proofs.YtfcdmlnpfoikhaaGreat
open Go.RowKit
namespace Gate
theorem zkV (l : Lw) (os : List Ob) (o : Ob) : (os.any fun p => p.en && names l o p 3) = zbp l os o := by
  rw [Bool.eq_iff_iff]
  unfold names zas zbp
  simp only [List.any_eq_true, Bool.and_eq_true, decide_eq_true_eq]
  constructor
  · rintro ⟨p, hp, he, x, hx, hr, ho⟩; exact ⟨x, hx, hr, p, hp, he, ho⟩
  · rintro ⟨x, hx, hr, p, hp, he, ho⟩; exact ⟨p, hp, he, x, hx, hr, ho⟩
end Gate
set_option maxRecDepth 20000 in
set_option maxHeartbeats 8000000 in
theorem zmV (l : Lw) (la lb lc : Option Addr) (lca lcb lcc : Nat) (b : Bk) (a0 a1 a2 a3 : Option Addr) (c0 c1 c2 c3 : Nat) (w : World) (hl : qA w l la lb lc) (hb : qD w b a0 a1 a2 a3) (hok : Gate.zW l.ss l.ms = true) (hob : Gate.zJ l b = true) (hfw : ∀ i (h : i < b.os.length), b.os[i].vs.length <= 1048576) :
    Calls Tryz.prog 25 #[.agg (lC l la lb lc lca lcb lcc), .agg (bC b a0 a1 a2 a3 c0 c1 c2 c3)] w fun e w' => ∃ v, e = .returned v /\ w'.ownsRow w.heap.size 3 1 v (Gate.marks l b.os).length (ints (Gate.marks l b.os)) /\ Below w.heap.size w w' := by
  obtain ⟨i0, hi, hzi0, hz1', hz2⟩ := info_parts Tryz.zeO
  have HK : Hid (qD w b a0 a1 a2 a3) := hb
  have HL : Hid (qA w l la lb lc) := hl
  have HO : Hid (b.os.length <= 40 /\ ∀ k (h : k < b.os.length), Gate.zu l.ss b.os[k] = true) := Gate.zi4 hok hob
  have HW : Hid (∀ i (h : i < b.os.length), b.os[i].vs.length <= 1048576) := hfw
  clear hb hl hok hob hfw
  go_enter Tryz.func25, Tryz.ntmps25
  go_wp2_with fail
  obtain ⟨hA, hB, hC⟩ := zoK w (.cells (lC l la lb lc lca lcb lcc) 41) (.cells (bC b a0 a1 a2 a3 c0 c1 c2 c3) 48) (.cells #[] 3)
  have HB0 : Hid (Below w.heap.size w (((w.alloc (.cells (lC l la lb lc lca lcb lcc) 41)).alloc (.cells (bC b a0 a1 a2 a3 c0 c1 c2 c3) 48)).alloc (.cells #[] 3))) := below3' w _ _ _
  obtain ⟨W0, hW0⟩ : ∃ W0, W0 = ((w.alloc (.cells (lC l la lb lc lca lcb lcc) 41)).alloc (.cells (bC b a0 a1 a2 a3 c0 c1 c2 c3) 48)).alloc (.cells #[] 3) := ⟨_, rfl⟩
  have hz0 : w.heap.size + 1 + 1 < W0.heap.size := by rw [hW0]; simp
  rw [<- hW0] at HB0 hA hB hC ⊢
  clear hW0
  have hL0 := zbi hA
  have hX0 := zbi hB
  have HR0 : Hid (W0.ownsRow (w.heap.size + 1 + 1) 3 1 (.slice (some ⟨w.heap.size + 1 + 1, 0, none⟩) 0 0) 0 (ints [])) := ⟨rfl, .inr ⟨w.heap.size + 1 + 1, 0, #[], rfl, Nat.le_refl _, hC, Nat.le_refl _, by simp [maxLen], rfl, rfl⟩⟩
  clear hA hB hC
  go_loopw [5, 6] (fun v0 iv wr => ∃ (k : Nat) (v : Value), v = v0 /\ k <= b.os.length /\ iv = .int .i64 k /\ Hid (wr.ownsRow (w.heap.size + 1 + 1) 3 1 v (Gate.yF l b.os k).length (ints (Gate.yF l b.os k)) /\ Below (w.heap.size + 1 + 1) W0 wr)) (fun _ iv _ => b.os.length - (intOf iv).toNat)
  case atStart => exact ⟨0, _, rfl, Nat.zero_le _, rfl, HR0.out, Below.refl _ _⟩
  case round =>
    obtain ⟨k, v, hv, hk, rfl, HQ⟩ := hrel
    subst hv
    have hkn : k <= 40 := by have := HO.out.1; omega
    have hX1 : ∀ j, wr.cell? ⟨w.heap.size + 1, j, none⟩ = (bC b a0 a1 a2 a3 c0 c1 c2 c3)[j]? := fun j => (HQ.out.2.cell (p := ⟨w.heap.size + 1, j, none⟩) (Nat.lt_succ_self _)).trans (hX0 j)
    have hL1 : ∀ j, wr.cell? ⟨w.heap.size, j, none⟩ = (lC l la lb lc lca lcb lcc)[j]? := fun j => (HQ.out.2.cell (p := ⟨w.heap.size, j, none⟩) (by show w.heap.size < _; omega)).trans (hL0 j)
    have hz1 : w.heap.size + 1 + 1 < wr.heap.size := Nat.lt_of_lt_of_le hz0 HQ.out.2.size
    have hy1 := Nat.lt_of_succ_lt hz1
    have hq1 := Nat.lt_of_succ_lt hy1
    have HBr : Hid (Below w.heap.size w wr) := HB0.out.trans (HQ.out.2.mono (by omega))
    obtain ⟨W1, hW1⟩ : ∃ W1, W1 = wr := ⟨_, rfl⟩
    rw [<- hW1] at HQ hX1 hL1 hz1 hy1 hq1 HBr ⊢
    clear hW1
    by_cases hlt : k < b.os.length
    · have hltI : (k : Int) < (b.os.length : Int) := by omega
      go_wp2_with fail
      go_loopw [7, 8] (fun f0 jv wi => ∃ m : Nat, m <= b.os.length /\ jv = .int .i64 m /\ f0 = .bool ((b.os.take m).any fun p => p.en && Gate.names l b.os[k] p 3) /\ Below W1.heap.size W1 wi) (fun _ jv _ => b.os.length - (intOf jv).toNat)
      case atStart => exact ⟨0, Nat.zero_le _, rfl, rfl, Below.refl _ _⟩
      case round =>
        obtain ⟨m, hm, rfl, rfl, hBm⟩ := hrel
        have hmn : m <= 40 := by have := HO.out.1; omega
        have hX2 := za hX1 hy1 hBm
        have hL2 := za hL1 hq1 hBm
        have hy2 := Nat.lt_of_lt_of_le hy1 hBm.size
        have hq2 := Nat.lt_of_lt_of_le hq1 hBm.size
        have HBm : Hid (Below W1.heap.size W1 wr) := hBm
        have HBw : Hid (Below w.heap.size w wr) := HBr.out.trans (hBm.mono HBr.out.size)
        clear hBm
        by_cases hml : m < b.os.length
        · have hmI : (m : Int) < (b.os.length : Int) := by omega
          have HSn : Hid (((b.os.take (m + 1)).any fun p => p.en && Gate.names l b.os[k] p 3) = (((b.os.take m).any fun p => p.en && Gate.names l b.os[k] p 3) || (b.os[m].en && Gate.names l b.os[k] b.os[m] 3))) := zcs _ b.os m hml
          have hcall := zlL l la lb lc lca lcb lcc b a0 a1 a2 a3 c0 c1 c2 c3 k m 3 wr (HL.out.mono HBw.out) (HK.out.mono HBw.out) hlt hml (HO.out.2 k hlt) (HW.out k hlt)
          obtain ⟨ob, off, v0, v1, q0, q1, rfl, hob, _, _, _, d0, d1, d2, d3, d4, d5, d6⟩ := HK.out.os.load HBw.out m hml
          have hob' : ob < wr.heap.size := Nat.lt_of_lt_of_le hob HBw.out.size
          clear d0 d1 d2 d3 d5 d6 hX1 hL1
          obtain ⟨fl, hfl⟩ : ∃ fl, fl = ((b.os.take m).any fun p => p.en && Gate.names l b.os[k] p 3) := ⟨_, rfl⟩
          rw [<- hfl] at HSn ⊢
          clear hfl
          cases he : b.os[m].en with
          | false =>
            rw [he] at d4
            have HS : Hid (((b.os.take (m + 1)).any fun p => p.en && Gate.names l b.os[k] p 3) = fl) := by rw [Hid, HSn.out, he]; simp
            clear hcall
            go_wp2_with fail
            exact ⟨⟨m + 1, by omega, by go_num, by rw [HS.out], HBm.out⟩, by simp [intOf]; omega⟩
          | true =>
            rw [he] at d4
            go_wp2_with fail
            refine hcall.mono ?_
            rintro e w3 ⟨rfl, hb3⟩
            have HB3 : Hid (Below W1.heap.size W1 w3) := HBm.out.trans (hb3.mono HBm.out.size)
            clear hb3 hcall d4 hob'
            cases hnm : Gate.names l b.os[k] b.os[m] 3 with
            | false =>
              have HS : Hid (((b.os.take (m + 1)).any fun p => p.en && Gate.names l b.os[k] p 3) = fl) := by rw [Hid, HSn.out, hnm]; simp
              go_wp2_with fail
              exact ⟨⟨m + 1, by omega, by go_num, by rw [HS.out], HB3.out⟩, by simp [intOf]; omega⟩
            | true =>
              have HS : Hid (((b.os.take (m + 1)).any fun p => p.en && Gate.names l b.os[k] p 3) = true) := by rw [Hid, HSn.out, hnm, he]; simp
              go_wp2_with fail
              exact ⟨⟨m + 1, by omega, by go_num, by rw [HS.out], HB3.out⟩, by simp [intOf]; omega⟩
        · have e : m = b.os.length := by omega
          subst e
          have HOw : Hid (((b.os.take b.os.length).any fun p => p.en && Gate.names l b.os[k] p 3) = Gate.zbp l b.os b.os[k]) := by rw [Hid, List.take_of_length_le (Nat.le_refl _)]; exact Gate.zkV l b.os b.os[k]
          rw [HOw.out]
          obtain ⟨ob, off, v0, v1, q0, q1, rfl, hob, _, _, _, d0, d1, d2, d3, d4, d5, d6⟩ := HK.out.os.load HBw.out k hlt
          have hob' : ob < wr.heap.size := Nat.lt_of_lt_of_le hob HBw.out.size
          have HQ3 : Hid (wr.ownsRow (w.heap.size + 1 + 1) 3 1 v (Gate.yF l b.os k).length (ints (Gate.yF l b.os k)) /\ Below (w.heap.size + 1 + 1) W0 wr) := ⟨yJ HQ.out.1 HBm.out, HQ.out.2.trans (HBm.out.mono (by omega))⟩
          have HLL : Hid ((Gate.yF l b.os k).length <= 40) := by have := Gate.zd7 l b.os k; have := HO.out.1; show _ <= _; omega
          clear d0 d1 d2 d3 d5 d6 hX1 hL1
          cases he : b.os[k].en with
          | true =>
            rw [he] at d4
            have HS : Hid (Gate.yF l b.os (k + 1) = Gate.yF l b.os k) := Gate.zil hlt he
            go_wp2_with fail
            exact ⟨⟨k + 1, _, rfl, by omega, by go_num, by rw [HS.out]; exact HQ3.out.1, HQ3.out.2⟩, zk hlt⟩
          | false =>
            rw [he] at d4
            by_cases how : Gate.zbp l b.os b.os[k] = true
            rotate_left
            · have HS : Hid (Gate.yF l b.os (k + 1) = Gate.yF l b.os k) := Gate.zjS hlt (by simpa using how)
              rw [Bool.eq_false_iff.2 how]
              go_wp2_with fail
              exact ⟨⟨k + 1, _, rfl, by omega, by go_num, by rw [HS.out]; exact HQ3.out.1, HQ3.out.2⟩, zk hlt⟩
            · have HS : Hid (Gate.yF l b.os (k + 1) = Gate.yF l b.os k ++ [(k : Int)]) := Gate.zif hlt he how
              rw [how]
              go_wp2_with (at_builtin; refine wpList_append_own _ rfl (.tmp 47) (.tmp 49) 35 rfl (w.heap.size + 1 + 1) 3 i0 (.int .i64 0) 1 8 Tryz.underlying35 hi hzi0 hz1' hz2 rfl (by decide) _ _ _ rfl (HQ3.out.1.alloc _) ⟨wr.heap.size, 0, none⟩ 1 1 [.int .i64 (k : Int)] rfl rfl (zbR _ _ _) (by intro u hu; simp at hu; subst hu; rfl) (by have := HLL.out; unfold maxLen; omega) (by have := HLL.out; omega) (by have := HQ3.out.2.size; simp; omega) ?_; intro v' w4 hown' hgr _)
              have hgb : ∀ g', v.ownBlock = some g' -> w.heap.size + 1 + 1 <= g' := fun g' hg' => (HQ3.out.1.lt g' hg').1
              refine ⟨⟨k + 1, _, rfl, by omega, by go_num, ?_, zaR HQ3.out.2 (by omega) hgr hgb⟩, zk hlt⟩
              rw [HS.out, List.length_append]
              have e1 : ints (Gate.yF l b.os k ++ [(k : Int)]) = ints (Gate.yF l b.os k) ++ [.int .i64 (k : Int)] := by simp [ints]
              rw [e1]
              exact hown'
    · have e : k = b.os.length := by omega
      subst e
      have HV : Hid (W1.ownsRow w.heap.size 3 1 v (Gate.marks l b.os).length (ints (Gate.marks l b.os)) /\ Below w.heap.size w W1) := ⟨jN HQ.out.1 (by omega), HBr.out⟩
      clear HQ hlt hk
      go_wp2_with fail
      go_ret
      exact ⟨v, rfl, HV.out⟩
end Go.Proofs.YtfcdmlnpfoikhaaGreat

namespace Go.Proofs.YtfcdmlnpfoikhaaGreat
open Go.RowKit
set_option maxRecDepth 20000 in
set_option maxHeartbeats 4000000 in
theorem zj8 (l : Lw) (la lb lc : Option Addr) (lca lcb lcc : Nat) (b : Bk) (a0 a1 a2 a3 : Option Addr) (c0 c1 c2 c3 : Nat) (w : World) (hl : qA w l la lb lc) (hb : qD w b a0 a1 a2 a3) (hh : zbg w a0 b.os) (hbf : b.Few) (hz : yX b.os <= 1048576) :
    Calls Tryz.prog 6 #[.agg (l.cells la lb lc lca lcb lcc), .agg (b.cells a0 a1 a2 a3 c0 c1 c2 c3)] w fun e w' => ∃ v, e = .returned v /\ w'.ownsRow w.heap.size 3 1 v (Gate.qB l b).length (ints (Gate.qB l b)) /\ Below w.heap.size w w' := by
  have HK : Hid (qD w b a0 a1 a2 a3) := hb
  have HL : Hid (qA w l la lb lc) := hl
  have HF : Hid (zbg w a0 b.os /\ b.Few /\ yX b.os <= 1048576) := ⟨hh, hbf, hz⟩
  clear hb hl hh hbf hz
  unfold Lw.cells Bk.cells
  go_enter Tryz.func6, Tryz.ntmps6
  go_wp2_with fail
  obtain ⟨hL0, hX0⟩ := yR w #[.slice la l.ss.length lca, .slice lb l.ms.length lcb, .slice lc l.ts.length lcc] #[.int .i64 b.now, .int .i64 b.tick, .int .i64 b.given, .slice a0 b.os.length c0, .slice a1 b.gs.length c1, .slice a2 b.ls.length c2, .slice a3 b.ps.length c3] 41 48
  have HBi : Hid (Below w.heap.size w ((w.alloc (.cells #[.slice la l.ss.length lca, .slice lb l.ms.length lcb, .slice lc l.ts.length lcc] 41)).alloc (.cells #[.int .i64 b.now, .int .i64 b.tick, .int .i64 b.given, .slice a0 b.os.length c0, .slice a1 b.gs.length c1, .slice a2 b.ls.length c2, .slice a3 b.ps.length c3] 48))) := zq w _ _
  obtain ⟨W0, hW0⟩ : ∃ W0, W0 = (w.alloc (.cells #[.slice la l.ss.length lca, .slice lb l.ms.length lcb, .slice lc l.ts.length lcc] 41)).alloc (.cells #[.int .i64 b.now, .int .i64 b.tick, .int .i64 b.given, .slice a0 b.os.length c0, .slice a1 b.gs.length c1, .slice a2 b.ls.length c2, .slice a3 b.ps.length c3] 48) := ⟨_, rfl⟩
  have hz0 : w.heap.size + 1 < W0.heap.size := by rw [hW0]; simp
  rw [<- hW0] at HBi hX0 hL0 ⊢
  clear hW0
  refine (ziu l la lb lc lca lcb lcc b a0 a1 a2 a3 c0 c1 c2 c3 _ (HL.out.mono HBi.out) (HK.out.mono HBi.out) (HF.out.1.mono HBi.out) HF.out.2.1 HF.out.2.2).mono ?_
  rintro e w1 ⟨rfl, hb0⟩
  have hX1 := za hX0 hz0 hb0
  have hL1 := za hL0 (Nat.lt_of_succ_lt hz0) hb0
  have hz1 := Nat.lt_of_lt_of_le hz0 hb0.size
  have hy1 := Nat.lt_of_succ_lt hz1
  have HBi : Hid (Below w.heap.size w w1) := HBi.out.trans (hb0.mono HBi.out.size)
  clear hb0 hX0 hL0 hz0
  by_cases t : Gate.jy l b = true
  rotate_left
  · have HN : Hid (Gate.qB l b = []) := by unfold Hid Gate.qB; rw [if_neg t]
    have HR0 : Hid ((w1.alloc (.cells #[] 3)).ownsRow w.heap.size 3 1 (.slice (some ⟨w1.heap.size, 0, none⟩) 0 0) 0 (ints [])) := ⟨rfl, .inr ⟨w1.heap.size, 0, #[], rfl, HBi.out.size, World.alloc_heap_new _ _, Nat.le_refl _, by simp [maxLen], rfl, rfl⟩⟩
    rw [Bool.eq_false_iff.2 t]
    clear t
    go_wp2_with fail
    go_ret
    exact ⟨_, rfl, by rw [HN.out]; exact HR0.out, HBi.out.alloc HBi.out.size _⟩
  have HM : Hid (Gate.qB l b = Gate.marks l b.os) := by unfold Hid Gate.qB; rw [if_pos t]
  have HT : Hid (Gate.jy l b = true) := t
  rw [t]
  clear t
  go_wp2_with fail
  refine (zmV l la lb lc lca lcb lcc b a0 a1 a2 a3 c0 c1 c2 c3 _ (HL.out.mono HBi.out) (HK.out.mono HBi.out) (book_facts HT.out).1 (book_facts HT.out).2 (fun i h => (HF.out.2.1.os.2 i h).1)).mono ?_
  rintro e w2 ⟨v, rfl, hv, hb1⟩
  have HV : Hid (w2.ownsRow w.heap.size 3 1 v (Gate.qB l b).length (ints (Gate.qB l b)) /\ Below w.heap.size w w2) := by rw [HM.out]; exact ⟨jN hv HBi.out.size, HBi.out.trans (hb1.mono HBi.out.size)⟩
  clear hv hb1
  go_wp2_with fail
  go_ret
  exact ⟨v, rfl, HV.out⟩
end Go.Proofs.YtfcdmlnpfoikhaaGreat

namespace Go.Proofs.YtfcdmlnpfoikhaaGreat
open Go.RowKit
set_option maxRecDepth 20000 in
set_option maxHeartbeats 8000000 in
theorem zk1 (l : Lw) (la lb lc : Option Addr) (lca lcb lcc : Nat) (b : Bk) (a0 a1 a2 a3 : Option Addr) (c0 c1 c2 c3 : Nat) (w : World) (hl : qA w l la lb lc) (ho : qD w b a0 a1 a2 a3) :
    Calls Tryz.prog 3 #[.agg (l.cells la lb lc lca lcb lcc), .agg (b.cells a0 a1 a2 a3 c0 c1 c2 c3)] w fun e w' => e = .returned (.bool true) /\ Below w.heap.size w w' := by
  have HL : Hid (qA w l la lb lc) := hl
  have HO : Hid (qD w b a0 a1 a2 a3) := ho
  have HSm : Hid (l.Small /\ b.Small) := ⟨hl.small, ho.small⟩
  clear hl ho
  unfold Lw.cells Bk.cells
  go_enter Tryz.func3, Tryz.ntmps3
  go_wp2_with fail
  obtain ⟨hX0, hO0⟩ := yR w #[.slice la l.ss.length lca, .slice lb l.ms.length lcb, .slice lc l.ts.length lcc] #[.int .i64 b.now, .int .i64 b.tick, .int .i64 b.given, .slice a0 b.os.length c0, .slice a1 b.gs.length c1, .slice a2 b.ls.length c2, .slice a3 b.ps.length c3] 26 32
  have hB0 := zq w (.cells #[.slice la l.ss.length lca, .slice lb l.ms.length lcb, .slice lc l.ts.length lcc] 26) (.cells #[.int .i64 b.now, .int .i64 b.tick, .int .i64 b.given, .slice a0 b.os.length c0, .slice a1 b.gs.length c1, .slice a2 b.ls.length c2, .slice a3 b.ps.length c3] 32)
  obtain ⟨W0, hW0⟩ : ∃ W0, W0 = (w.alloc (.cells #[.slice la l.ss.length lca, .slice lb l.ms.length lcb, .slice lc l.ts.length lcc] 26)).alloc (.cells #[.int .i64 b.now, .int .i64 b.tick, .int .i64 b.given, .slice a0 b.os.length c0, .slice a1 b.gs.length c1, .slice a2 b.ls.length c2, .slice a3 b.ps.length c3] 32) := ⟨_, rfl⟩
  have zX0 : w.heap.size < W0.heap.size := by rw [hW0]; simp; omega
  have zO0 : w.heap.size + 1 < W0.heap.size := by rw [hW0]; simp
  rw [<- hW0] at hB0 hX0 hO0 ⊢
  clear hW0
  refine (ziZ l _ _ _ _ _ _ _ _ (HL.out.mono hB0) (by omega) (by omega)).mono ?_
  rintro e w1 ⟨rfl, hb⟩
  have hX1 := za hX0 zX0 hb
  have zX1 := Nat.lt_of_lt_of_le zX0 hb.size
  have hO1 := za hO0 zO0 hb
  have zO1 := Nat.lt_of_lt_of_le zO0 hb.size
  have hB1 := hB0.trans (hb.mono hB0.size)
  clear hb hX0 zX0 hO0 zO0 hB0
  by_cases hsz : (l.sz : Int) <= 1048576
  rotate_left
  · rw [zx (by omega)]
    go_wp2_with fail
    go_ret
    exact ⟨rfl, hB1⟩
  have HF : Hid l.Few := Lw.few hsz
  have hneg : decide (1048576 - (l.sz : Int) < 0) = false := by simp; omega
  rw [zG hsz]
  go_wp2_with fail
  refine (zhL b _ _ _ _ _ _ _ _ _ _ (HO.out.mono hB1) (by omega) (by omega)).mono ?_
  rintro e w2 ⟨rfl, hb⟩
  have hX2 := za hX1 zX1 hb
  have zX2 := Nat.lt_of_lt_of_le zX1 hb.size
  have hO2 := za hO1 zO1 hb
  have zO2 := Nat.lt_of_lt_of_le zO1 hb.size
  have hB2 := hB1.trans (hb.mono hB1.size)
  clear hb hX1 zX1 hO1 zO1 hB1
  by_cases hoz : (b.sz : Int) <= 1048576 - (l.sz : Int)
  rotate_left
  · rw [zx (by omega)]
    go_wp2_with fail
    go_ret
    exact ⟨rfl, hB2⟩
  have HG : Hid b.Few := Bk.few (by omega)
  have HZ : Hid (yX b.os <= 1048576) := by unfold Bk.sz at hoz; show _ <= _; omega
  have hneg2 : decide (1048576 - (l.sz : Int) - (b.sz : Int) < 0) = false := by simp; omega
  rw [zG hoz]
  have HN : Hid ((Gate.qB l b).length <= 1048576) := (Gate.zmX l b HG.out)
  have HNm : Hid ((Gate.qB l b).length <= maxLen) := by have := HN.out; unfold maxLen; show _ <= _; omega
  obtain ⟨xs, hxs⟩ : ∃ xs, xs = Gate.qB l b := ⟨_, rfl⟩
  have HXS : Hid (xs = Gate.qB l b) := hxs
  rw [<- hxs] at HN HNm
  clear hxs
  go_wp2_with fail
  have hX := za hX2 zX2 (Below.refl w2.heap.size w2).drew
  have zX : w.heap.size < w2.drew.heap.size := zX2
  have hO := za hO2 zO2 (Below.refl w2.heap.size w2).drew
  have zO : w.heap.size + 1 < w2.drew.heap.size := zO2
  have hB := hB2.drew
  clear hX2 zX2 hO2 zO2 hB2
  go_region_held3 (fun w' => (∀ j, w'.cell? ⟨w.heap.size, j, none⟩ = (#[.slice la l.ss.length lca, .slice lb l.ms.length lcb, .slice lc l.ts.length lcc] : Array Value)[j]?) /\ (∀ j, w'.cell? ⟨w.heap.size + 1, j, none⟩ = (#[.int .i64 b.now, .int .i64 b.tick, .int .i64 b.given, .slice a0 b.os.length c0, .slice a1 b.gs.length c1, .slice a2 b.ls.length c2, .slice a3 b.ps.length c3] : Array Value)[j]?)) (exact ⟨hX, hO⟩) (first
    | (go_at_call 7; refine (zcv l _ _ _ _ _ _ _ (by exact HL.out.mono hB) HF.out).mono ?_; rintro e w3 ⟨pa, pb, pc, rfl, hl30, hb⟩; unfold Lw.cells; have hl3 := hl30; have hX := za hX zX hb; have hO := za hO zO hb; have hB := hB.trans (hb.mono hB.size); have zX := Nat.lt_of_lt_of_le zX hb.size; have zO := Nat.lt_of_lt_of_le zO hb.size; clear hb)
    | (go_at_call 8; refine (ziD b _ _ _ _ _ _ _ _ _ (by exact HO.out.mono hB) HG.out).mono ?_; rintro e w3 ⟨pd, pe, pf, pg, rfl, ho30, ho3h0, hb⟩; unfold Bk.cells; have ho3 := ho30; have ho3h := ho3h0; have hX := za hX zX hb; have hO := za hO zO hb; have hl3 := hl3.mono hb; have hB := hB.trans (hb.mono hB.size); have zX := Nat.lt_of_lt_of_le zX hb.size; have zO := Nat.lt_of_lt_of_le zO hb.size; clear hb)
    | (go_at_call 6; refine (zj8 l _ _ _ _ _ _ b _ _ _ _ _ _ _ _ _ (by exact hl3) (by exact ho3) (by exact ho3h) HG.out HZ.out).mono ?_; rintro e w3 ⟨vw, rfl, hvw, hb⟩; rw [<- HXS.out] at hvw; obtain ⟨aw, cw, rfl, hiw⟩ := zbJ hvw HNm.out; clear hvw; have kw := hiw; clear hl3; clear ho3; clear ho3h; have hX := za hX zX hb; have hO := za hO zO hb; have hB := hB.trans (hb.mono hB.size); have zX := Nat.lt_of_lt_of_le zX hb.size; have zO := Nat.lt_of_lt_of_le zO hb.size; clear hb))
  have hX3 := hX
  have zX3 := zX
  have hO3 := hO
  have zO3 := zO
  have kw3 := kw
  have hB3 := hB
  clear hX zX hO zO kw hB
  have sc3 : Since w3 w3 := ⟨Below.refl _ _⟩
  have HA : Hid (Below w.heap.size w w3 /\ w.heap.size + 1 < w3.heap.size) := ⟨hB3, zO3⟩
  have HKW : Hid (yL w3 aw xs) := kw3
  go_wp2_with fail
  refine (zet l _ _ _ _ _ _ _ (HL.out.mono hB3) HF.out).mono ?_
  rintro e w4 ⟨lo1, x0, x1, x2, rfl, hlo1, hown, hb⟩
  have kl4 := hown.at HSm.out.1
  have fl4 := hown.form
  have hX4 := za hX3 zX3 hb
  have zX4 := Nat.lt_of_lt_of_le zX3 hb.size
  have hO4 := za hO3 zO3 hb
  have zO4 := Nat.lt_of_lt_of_le zO3 hb.size
  have kw4 := kw3.mono hb
  have sc4 := sc3.mono hb
  have hB4 := hB3.trans (hb.mono hB3.size)
  clear hb hX3 zX3 hO3 zO3 kw3 sc3 hB3 hown
  have HLo1 : Hid (w3.heap.size <= lo1) := hlo1
  clear hlo1
  unfold Lw.cells
  have HS34 : Hid (w3.heap.size <= w4.heap.size) := sc4.below.size
  go_wp2_with fail
  have hb : Below w4.heap.size w4 (w4.alloc (.cells #[.slice (some ⟨x0, 0, none⟩) l.ss.length l.ss.length, .slice (some ⟨x1, 0, none⟩) l.ms.length l.ms.length, .slice (some ⟨x2, 0, none⟩) l.ts.length l.ts.length] 41)) := (Below.refl _ _).alloc (Nat.le_refl _) _
  have hN := zH w4 #[.slice (some ⟨x0, 0, none⟩) l.ss.length l.ss.length, .slice (some ⟨x1, 0, none⟩) l.ms.length l.ms.length, .slice (some ⟨x2, 0, none⟩) l.ts.length l.ts.length] 41
  obtain ⟨w5, hN0⟩ : ∃ w5, w5 = w4.alloc (.cells #[.slice (some ⟨x0, 0, none⟩) l.ss.length l.ss.length, .slice (some ⟨x1, 0, none⟩) l.ms.length l.ms.length, .slice (some ⟨x2, 0, none⟩) l.ts.length l.ts.length] 41) := ⟨_, rfl⟩
  have hNz : w4.heap.size < w5.heap.size := by rw [hN0]; simp
  rw [<- hN0] at hb hN ⊢
  clear hN0
  have hX5 := za hX4 zX4 hb
  have zX5 := Nat.lt_of_lt_of_le zX4 hb.size
  have hO5 := za hO4 zO4 hb
  have zO5 := Nat.lt_of_lt_of_le zO4 hb.size
  have kw5 := kw4.mono hb
  have sc5 := sc4.mono hb
  have kl5 := kl4.mono hb
  have fl5 := fl4.mono hb
  have hB5 := hB4.trans (hb.mono hB4.size)
  clear hb hX4 zX4 hO4 zO4 kw4 sc4 kl4 fl4 hB4
  have hV5 := hN
  have zV5 := hNz
  clear hN hNz
  have ord45 : w4.heap.size < w5.heap.size := zV5
  have s55 : Since w5 w5 := ⟨Below.refl _ _⟩
  refine (zb2 b _ _ _ _ _ _ _ _ _ (HO.out.mono hB5) HG.out).mono ?_
  rintro e w6 ⟨lo2, y0, y1, y2, y3, rfl, hlo2, hown, hb⟩
  have ko6 := hown.at HSm.out.2
  have fb6 := hown.form
  have hX6 := za hX5 zX5 hb
  have zX6 := Nat.lt_of_lt_of_le zX5 hb.size
  have hO6 := za hO5 zO5 hb
  have zO6 := Nat.lt_of_lt_of_le zO5 hb.size
  have hV6 := za hV5 zV5 hb
  have zV6 := Nat.lt_of_lt_of_le zV5 hb.size
  have kw6 := kw5.mono hb
  have sc6 := sc5.mono hb
  have kl6 := kl5.mono hb
  have fl6 := fl5.mono hb
  have s56 := s55.mono hb
  have hB6 := hB5.trans (hb.mono hB5.size)
  clear hb hX5 zX5 hO5 zO5 hV5 zV5 kw5 sc5 kl5 fl5 s55 hB5 hown
  have ord56 : w5.heap.size <= w6.heap.size := s56.below.size
  clear s56
  have HLo2 : Hid (w5.heap.size <= lo2) := hlo2
  clear hlo2
  unfold Bk.cells
  go_wp2_with fail
  have hb : Below w6.heap.size w6 (w6.alloc (.cells #[.int .i64 b.now, .int .i64 b.tick, .int .i64 b.given, .slice (some ⟨y0, 0, none⟩) b.os.length b.os.length, .slice (some ⟨y1, 0, none⟩) b.gs.length b.gs.length, .slice (some ⟨y2, 0, none⟩) b.ls.length b.ls.length, .slice (some ⟨y3, 0, none⟩) b.ps.length b.ps.length] 48)) := (Below.refl _ _).alloc (Nat.le_refl _) _
  have hN := zH w6 #[.int .i64 b.now, .int .i64 b.tick, .int .i64 b.given, .slice (some ⟨y0, 0, none⟩) b.os.length b.os.length, .slice (some ⟨y1, 0, none⟩) b.gs.length b.gs.length, .slice (some ⟨y2, 0, none⟩) b.ls.length b.ls.length, .slice (some ⟨y3, 0, none⟩) b.ps.length b.ps.length] 48
  obtain ⟨w7, hN0⟩ : ∃ w7, w7 = w6.alloc (.cells #[.int .i64 b.now, .int .i64 b.tick, .int .i64 b.given, .slice (some ⟨y0, 0, none⟩) b.os.length b.os.length, .slice (some ⟨y1, 0, none⟩) b.gs.length b.gs.length, .slice (some ⟨y2, 0, none⟩) b.ls.length b.ls.length, .slice (some ⟨y3, 0, none⟩) b.ps.length b.ps.length] 48) := ⟨_, rfl⟩
  have hNz : w6.heap.size < w7.heap.size := by rw [hN0]; simp
  rw [<- hN0] at hb hN ⊢
  clear hN0
  have hX7 := za hX6 zX6 hb
  have zX7 := Nat.lt_of_lt_of_le zX6 hb.size
  have hO7 := za hO6 zO6 hb
  have zO7 := Nat.lt_of_lt_of_le zO6 hb.size
  have hV7 := za hV6 zV6 hb
  have zV7 := Nat.lt_of_lt_of_le zV6 hb.size
  have kw7 := kw6.mono hb
  have sc7 := sc6.mono hb
  have kl7 := kl6.mono hb
  have fl7 := fl6.mono hb
  have ko7 := ko6.mono hb
  have fb7 := fb6.mono hb
  have hB7 := hB6.trans (hb.mono hB6.size)
  clear hb hX6 zX6 hO6 zO6 hV6 zV6 kw6 sc6 kl6 fl6 ko6 fb6 hB6
  have hU7 := hN
  have zU7 := hNz
  clear hN hNz
  have s77 : Grown w7.heap.size w7 := ⟨Nat.le_refl _⟩
  have HOrd : Hid (w.heap.size + 1 < w3.heap.size /\ w4.heap.size < w5.heap.size /\ w5.heap.size <= lo2 /\ w5.heap.size <= w6.heap.size /\ w6.heap.size < w7.heap.size /\ w3.heap.size <= w4.heap.size /\ w3.heap.size <= lo1) := ⟨HA.out.2, ord45, HLo2.out, ord56, zU7, HS34.out, HLo1.out⟩
  clear ord45 ord56
  refine (zfs l _ _ _ _ _ _ b _ _ _ _ _ _ _ _ _ kl7 ko7 HF.out HG.out HZ.out).mono ?_
  rintro e w8 ⟨vg, rfl, hvg, hb⟩
  have hX8 := za hX7 zX7 hb
  have zX8 := Nat.lt_of_lt_of_le zX7 hb.size
  have hO8 := za hO7 zO7 hb
  have zO8 := Nat.lt_of_lt_of_le zO7 hb.size
  have hV8 := za hV7 zV7 hb
  have zV8 := Nat.lt_of_lt_of_le zV7 hb.size
  have hU8 := za hU7 zU7 hb
  have zU8 := Nat.lt_of_lt_of_le zU7 hb.size
  have kw8 := kw7.mono hb
  have sc8 := sc7.mono hb
  have kl8 := kl7.mono hb
  have fl8 := fl7.mono hb
  have ko8 := ko7.mono hb
  have fb8 := fb7.mono hb
  have s78 := s77.mono hb
  have hB8 := hB7.trans (hb.mono hB7.size)
  clear hb hX7 zX7 hO7 zO7 hV7 zV7 hU7 zU7 kw7 sc7 kl7 fl7 ko7 fb7 s77 hB7
  rw [<- HXS.out] at hvg
  obtain ⟨ag, cg, rfl, _⟩ := zbJ hvg HNm.out
  have kg8 : zc9 w7.heap.size w8 (.slice ag xs.length cg) xs := ⟨hvg⟩
  clear hvg
  go_wp2_with fail
  refine (zdb _ _ _ _ xs _ (kg8.ints HNm.out) kw8).mono ?_
  rintro e w8b ⟨rfl, hb⟩
  have hX9 := za hX8 zX8 hb
  have zX9 := Nat.lt_of_lt_of_le zX8 hb.size
  have hO9 := za hO8 zO8 hb
  have zO9 := Nat.lt_of_lt_of_le zO8 hb.size
  have hV9 := za hV8 zV8 hb
  have zV9 := Nat.lt_of_lt_of_le zV8 hb.size
  have hU9 := za hU8 zU8 hb
  have zU9 := Nat.lt_of_lt_of_le zU8 hb.size
  have kw9 := kw8.mono hb
  have sc9 := sc8.mono hb
  have kl9 := kl8.mono hb
  have fl9 := fl8.mono hb
  have ko9 := ko8.mono hb
  have fb9 := fb8.mono hb
  have s79 := s78.mono hb
  have kg9 := kg8.mono hb
  have hB9 := hB8.trans (hb.mono hB8.size)
  clear hb hX8 zX8 hO8 zO8 hV8 zV8 hU8 zU8 kw8 sc8 kl8 fl8 ko8 fb8 s78 kg8 hB8
  go_wp2_with fail
  have hX := za hX9 zX9 (Below.refl w8b.heap.size w8b).drew
  have zX : w.heap.size < w8b.drew.heap.size := zX9
  have hO := za hO9 zO9 (Below.refl w8b.heap.size w8b).drew
  have zO : w.heap.size + 1 < w8b.drew.heap.size := zO9
  have hV := za hV9 zV9 (Below.refl w8b.heap.size w8b).drew
  have zV : w4.heap.size < w8b.drew.heap.size := zV9
  have hU := za hU9 zU9 (Below.refl w8b.heap.size w8b).drew
  have zU : w6.heap.size < w8b.drew.heap.size := zU9
  have kw := kw9.mono (Below.refl w8b.heap.size w8b).drew
  have sc := sc9.mono (Below.refl w8b.heap.size w8b).drew
  have kl := kl9.mono (Below.refl w8b.heap.size w8b).drew
  have fl := fl9.mono (Below.refl w8b.heap.size w8b).drew
  have ko := ko9.mono (Below.refl w8b.heap.size w8b).drew
  have fb := fb9.mono (Below.refl w8b.heap.size w8b).drew
  have s7 := s79.mono (Below.refl w8b.heap.size w8b).drew
  have kg := kg9.mono (Below.refl w8b.heap.size w8b).drew
  have hB := hB9.drew
  clear hX9 zX9 hO9 zO9 hV9 zV9 hU9 zU9 kw9 sc9 kl9 fl9 ko9 fb9 s79 kg9 hB9
  go_region_held3 (fun w' => (∀ j, w'.cell? ⟨w.heap.size, j, none⟩ = (#[.slice la l.ss.length lca, .slice lb l.ms.length lcb, .slice lc l.ts.length lcc] : Array Value)[j]?) /\ (∀ j, w'.cell? ⟨w.heap.size + 1, j, none⟩ = (#[.int .i64 b.now, .int .i64 b.tick, .int .i64 b.given, .slice a0 b.os.length c0, .slice a1 b.gs.length c1, .slice a2 b.ls.length c2, .slice a3 b.ps.length c3] : Array Value)[j]?) /\ (∀ j, w'.cell? ⟨w4.heap.size, j, none⟩ = (#[.slice (some ⟨x0, 0, none⟩) l.ss.length l.ss.length, .slice (some ⟨x1, 0, none⟩) l.ms.length l.ms.length, .slice (some ⟨x2, 0, none⟩) l.ts.length l.ts.length] : Array Value)[j]?) /\ (∀ j, w'.cell? ⟨w6.heap.size, j, none⟩ = (#[.int .i64 b.now, .int .i64 b.tick, .int .i64 b.given, .slice (some ⟨y0, 0, none⟩) b.os.length b.os.length, .slice (some ⟨y1, 0, none⟩) b.gs.length b.gs.length, .slice (some ⟨y2, 0, none⟩) b.ls.length b.ls.length, .slice (some ⟨y3, 0, none⟩) b.ps.length b.ps.length] : Array Value)[j]?)) (exact ⟨hX, hO, hV, hU⟩) (first
    | (go_at_call 7; refine (zcv l _ _ _ _ _ _ _ (by exact HL.out.mono hB) HF.out).mono ?_; rintro e w9 ⟨qa, qb, qc, rfl, hl90, hb⟩; unfold Lw.cells; have hl9 := hl90; have hX := za hX zX hb; have hO := za hO zO hb; have hV := za hV zV hb; have hU := za hU zU hb; have kw := kw.mono hb; have sc := sc.mono hb; have kl := kl.mono hb; have fl := fl.mono hb; have ko := ko.mono hb; have fb := fb.mono hb; have s7 := s7.mono hb; have kg := kg.mono hb; have hB := hB.trans (hb.mono hB.size); have zX := Nat.lt_of_lt_of_le zX hb.size; have zO := Nat.lt_of_lt_of_le zO hb.size; have zV := Nat.lt_of_lt_of_le zV hb.size; have zU := Nat.lt_of_lt_of_le zU hb.size; clear hb)
    | (go_at_call 11; refine (zjs l _ _ _ _ _ _ _ _ _ _ _ _ _ (by exact kl) (by exact hl9)).mono ?_; rintro e w9 ⟨rfl, hb⟩; clear hl9; have hX := za hX zX hb; have hO := za hO zO hb; have hV := za hV zV hb; have hU := za hU zU hb; have kw := kw.mono hb; have sc := sc.mono hb; have kl := kl.mono hb; have fl := fl.mono hb; have ko := ko.mono hb; have fb := fb.mono hb; have s7 := s7.mono hb; have kg := kg.mono hb; have hB := hB.trans (hb.mono hB.size); have zX := Nat.lt_of_lt_of_le zX hb.size; have zO := Nat.lt_of_lt_of_le zO hb.size; have zV := Nat.lt_of_lt_of_le zV hb.size; have zU := Nat.lt_of_lt_of_le zU hb.size; clear hb))
  have hX10 := hX
  have zX10 := zX
  have hO10 := hO
  have zO10 := zO
  have hV10 := hV
  have zV10 := zV
  have hU10 := hU
  have zU10 := zU
  have kw10 := kw
  have sc10 := sc
  have kl10 := kl
  have fl10 := fl
  have ko10 := ko
  have fb10 := fb
  have s710 := s7
  have kg10 := kg
  have hB10 := hB
  clear hX zX hO zO hV zV hU zU kw sc kl fl ko fb s7 kg hB
  go_wp2_with fail
  have hX := za hX10 zX10 (Below.refl w9.heap.size w9).drew
  have zX : w.heap.size < w9.drew.heap.size := zX10
  have hO := za hO10 zO10 (Below.refl w9.heap.size w9).drew
  have zO : w.heap.size + 1 < w9.drew.heap.size := zO10
  have hV := za hV10 zV10 (Below.refl w9.heap.size w9).drew
  have zV : w4.heap.size < w9.drew.heap.size := zV10
  have hU := za hU10 zU10 (Below.refl w9.heap.size w9).drew
  have zU : w6.heap.size < w9.drew.heap.size := zU10
  have kw := kw10.mono (Below.refl w9.heap.size w9).drew
  have sc := sc10.mono (Below.refl w9.heap.size w9).drew
  have kl := kl10.mono (Below.refl w9.heap.size w9).drew
  have fl := fl10.mono (Below.refl w9.heap.size w9).drew
  have ko := ko10.mono (Below.refl w9.heap.size w9).drew
  have fb := fb10.mono (Below.refl w9.heap.size w9).drew
  have s7 := s710.mono (Below.refl w9.heap.size w9).drew
  have kg := kg10.mono (Below.refl w9.heap.size w9).drew
  have hB := hB10.drew
  clear hX10 zX10 hO10 zO10 hV10 zV10 hU10 zU10 kw10 sc10 kl10 fl10 ko10 fb10 s710 kg10 hB10
  go_region_held3 (fun w' => (∀ j, w'.cell? ⟨w.heap.size, j, none⟩ = (#[.slice la l.ss.length lca, .slice lb l.ms.length lcb, .slice lc l.ts.length lcc] : Array Value)[j]?) /\ (∀ j, w'.cell? ⟨w.heap.size + 1, j, none⟩ = (#[.int .i64 b.now, .int .i64 b.tick, .int .i64 b.given, .slice a0 b.os.length c0, .slice a1 b.gs.length c1, .slice a2 b.ls.length c2, .slice a3 b.ps.length c3] : Array Value)[j]?) /\ (∀ j, w'.cell? ⟨w4.heap.size, j, none⟩ = (#[.slice (some ⟨x0, 0, none⟩) l.ss.length l.ss.length, .slice (some ⟨x1, 0, none⟩) l.ms.length l.ms.length, .slice (some ⟨x2, 0, none⟩) l.ts.length l.ts.length] : Array Value)[j]?) /\ (∀ j, w'.cell? ⟨w6.heap.size, j, none⟩ = (#[.int .i64 b.now, .int .i64 b.tick, .int .i64 b.given, .slice (some ⟨y0, 0, none⟩) b.os.length b.os.length, .slice (some ⟨y1, 0, none⟩) b.gs.length b.gs.length, .slice (some ⟨y2, 0, none⟩) b.ls.length b.ls.length, .slice (some ⟨y3, 0, none⟩) b.ps.length b.ps.length] : Array Value)[j]?)) (exact ⟨hX, hO, hV, hU⟩) (first
    | (go_at_call 8; refine (zdG b _ _ _ _ _ _ _ _ _ (by exact HO.out.mono hB) HG.out).mono ?_; rintro e wA ⟨qd, qe, qf, qg, rfl, hoA0, hb⟩; unfold Bk.cells; have hoA := hoA0; have hX := za hX zX hb; have hO := za hO zO hb; have hV := za hV zV hb; have hU := za hU zU hb; have kw := kw.mono hb; have sc := sc.mono hb; have kl := kl.mono hb; have fl := fl.mono hb; have ko := ko.mono hb; have fb := fb.mono hb; have s7 := s7.mono hb; have kg := kg.mono hb; have hB := hB.trans (hb.mono hB.size); have zX := Nat.lt_of_lt_of_le zX hb.size; have zO := Nat.lt_of_lt_of_le zO hb.size; have zV := Nat.lt_of_lt_of_le zV hb.size; have zU := Nat.lt_of_lt_of_le zU hb.size; clear hb)
    | (go_at_call 12; refine (zh4 b _ _ _ _ _ _ _ _ _ _ _ _ _ _ _ _ _ (by exact ko) (by exact hoA)).mono ?_; rintro e wA ⟨rfl, hb⟩; clear hoA; have hX := za hX zX hb; have hO := za hO zO hb; have hV := za hV zV hb; have hU := za hU zU hb; have kw := kw.mono hb; have sc := sc.mono hb; have kl := kl.mono hb; have fl := fl.mono hb; have ko := ko.mono hb; have fb := fb.mono hb; have s7 := s7.mono hb; have kg := kg.mono hb; have hB := hB.trans (hb.mono hB.size); have zX := Nat.lt_of_lt_of_le zX hb.size; have zO := Nat.lt_of_lt_of_le zO hb.size; have zV := Nat.lt_of_lt_of_le zV hb.size; have zU := Nat.lt_of_lt_of_le zU hb.size; clear hb))
  have hX11 := hX
  have zX11 := zX
  have hO11 := hO
  have zO11 := zO
  have hV11 := hV
  have zV11 := zV
  have hU11 := hU
  have zU11 := zU
  have kw11 := kw
  have sc11 := sc
  have kl11 := kl
  have fl11 := fl
  have ko11 := ko
  have fb11 := fb
  have s711 := s7
  have kg11 := kg
  have hB11 := hB
  clear hX zX hO zO hV zV hU zU kw sc kl fl ko fb s7 kg hB
  clear kw11
  clear kl11
  clear ko11
  go_wp2_with fail
  refine (zf2 l _ _ _ _ _ _ lo1 w4.heap.size 1 _ fl11 HF.out (Nat.le_of_lt zV11) (by omega) (by omega)).mono ?_
  rintro e wB ⟨k1, rfl, hk1, hk1b, hM⟩
  have HK1 : Hid (0 < k1 /\ k1 < 3000000000000000000) := ⟨hk1, hk1b⟩
  clear hk1 hk1b
  have hX12 := hM.box hX11 zX11 (Or.inl (by have a := HOrd.out; have b := HLo1.out; omega))
  have zX12 := Nat.lt_of_lt_of_le zX11 hM.size
  have hO12 := hM.box hO11 zO11 (Or.inl (by have a := HOrd.out; have b := HLo1.out; omega))
  have zO12 := Nat.lt_of_lt_of_le zO11 hM.size
  have hV12 := hM.box hV11 zV11 (Or.inr (Nat.le_refl _))
  have zV12 := Nat.lt_of_lt_of_le zV11 hM.size
  have hU12 := hM.box hU11 zU11 (Or.inr (by have a := HOrd.out; omega))
  have zU12 := Nat.lt_of_lt_of_le zU11 hM.size
  have hMb := hM.below (B := w3.heap.size) (by have a := HOrd.out; have b := HLo1.out; omega) (Nat.le_trans (by have a := HOrd.out; omega) (Nat.le_of_lt zU11))
  have sc12 := sc11.low hMb (Nat.le_refl _)
  have kg12 := kg11.marked hM (by have a := HOrd.out; omega)
  have s712 : Grown w7.heap.size wB := ⟨Nat.le_trans s711.size hM.size⟩
  have hB12 := hB11.trans (hMb.mono (by have a := HOrd.out; omega))
  have fb12 := fb11.kept (Kept.apart hM (Or.inl (by have a := HOrd.out; omega)))
  clear hM hMb hX11 zX11 hO11 zO11 hV11 zV11 hU11 zU11 sc11 kg11 hB11 s711 fb11 fl11
  go_wp2_with fail
  refine (zfy b _ _ _ _ _ _ _ _ lo2 w6.heap.size k1 _ fb12 HG.out (Nat.le_of_lt zU12) HK1.out.1 HK1.out.2).mono ?_
  rintro e wC ⟨k2, rfl, hk2, hk2b, hM⟩
  have hk2n : decide (k2 < 0) = false := by simp; omega
  clear hk2 hk2b
  have hX13 := hM.box hX12 zX12 (Or.inl (by have a := HOrd.out; omega))
  have zX13 := Nat.lt_of_lt_of_le zX12 hM.size
  have hO13 := hM.box hO12 zO12 (Or.inl (by have a := HOrd.out; omega))
  have zO13 := Nat.lt_of_lt_of_le zO12 hM.size
  have hV13 := hM.box hV12 zV12 (Or.inl (by have a := HOrd.out; omega))
  have zV13 := Nat.lt_of_lt_of_le zV12 hM.size
  have hU13 := hM.box hU12 zU12 (Or.inr (Nat.le_refl _))
  have zU13 := Nat.lt_of_lt_of_le zU12 hM.size
  have hMb := hM.below (B := w3.heap.size) (by have a := HOrd.out; have b := HLo1.out; omega) (Nat.le_trans (by have a := HOrd.out; omega) (Nat.le_of_lt zU12))
  have sc13 := sc12.low hMb (Nat.le_refl _)
  have kg13 := kg12.marked hM (by have a := HOrd.out; omega)
  have s713 : Grown w7.heap.size wC := ⟨Nat.le_trans s712.size hM.size⟩
  have hB13 := hB12.trans (hMb.mono (by have a := HOrd.out; omega))
  clear hM hMb hX12 zX12 hO12 zO12 hV12 zV12 hU12 zU12 sc12 kg12 hB12 s712 fb12
  go_wp2_with fail
  refine (zdb _ _ _ _ xs _ (kg13.ints HNm.out) (HKW.out.mono sc13.below)).mono ?_
  rintro e wD ⟨rfl, hb⟩
  have hX14 := za hX13 zX13 hb
  have zX14 := Nat.lt_of_lt_of_le zX13 hb.size
  have hO14 := za hO13 zO13 hb
  have zO14 := Nat.lt_of_lt_of_le zO13 hb.size
  have hV14 := za hV13 zV13 hb
  have zV14 := Nat.lt_of_lt_of_le zV13 hb.size
  have hU14 := za hU13 zU13 hb
  have zU14 := Nat.lt_of_lt_of_le zU13 hb.size
  have sc14 := sc13.mono hb
  have s714 := s713.mono hb
  have kg14 := kg13.mono hb
  have hB14 := hB13.trans (hb.mono hB13.size)
  clear hb hX13 zX13 hO13 zO13 hV13 zV13 hU13 zU13 sc13 s713 kg13 hB13
  clear hk2n
  go_wp2_with fail
  refine (zkz w7.heap.size _ ag xs.length (ints xs) 1 _ kg14.row (zkd xs) HN.out (by omega) (by omega) s714.size).mono ?_
  rintro e wE ⟨rfl, hig, hMb⟩
  have hX15 : ∀ o, wE.cell? ⟨w.heap.size, o, none⟩ = (#[.slice la l.ss.length lca, .slice lb l.ms.length lcb, .slice lc l.ts.length lcc] : Array Value)[o]? := fun o => (hMb.cell (p := ⟨w.heap.size, o, none⟩) (by show w.heap.size < _; have a := HOrd.out; have b := HLo1.out; have c := HS34.out; omega)).trans (hX14 o)
  have hO15 : ∀ o, wE.cell? ⟨w.heap.size + 1, o, none⟩ = (#[.int .i64 b.now, .int .i64 b.tick, .int .i64 b.given, .slice a0 b.os.length c0, .slice a1 b.gs.length c1, .slice a2 b.ls.length c2, .slice a3 b.ps.length c3] : Array Value)[o]? := fun o => (hMb.cell (p := ⟨w.heap.size + 1, o, none⟩) (by show w.heap.size + 1 < _; have a := HOrd.out; have b := HLo1.out; have c := HS34.out; omega)).trans (hO14 o)
  have zX15 := Nat.lt_of_lt_of_le zX14 hMb.size
  have zO15 := Nat.lt_of_lt_of_le zO14 hMb.size
  have sc15 := sc14.low hMb (by have a := HOrd.out; have c := HS34.out; omega)
  have hB15 := hB14.trans (hMb.mono (by have a := HOrd.out; have c := HS34.out; omega))
  have km15 := hig
  clear hMb hig hX14 zX14 hO14 zO14 hV14 zV14 hU14 zU14 sc14 kg14 hB14 s714
  have hq0 : decide (((1 + xs.length : Nat) : Int) < 0) = false := by simp; omega
  have hqm : (((1 + xs.length : Nat) : Int) != ((1 + xs.length : Nat) : Int)) = false := by simp
  obtain ⟨mm, hmm⟩ : ∃ mm : Int, mm = ((1 + xs.length : Nat) : Int) := ⟨_, rfl⟩
  rw [<- hmm] at hq0 hqm ⊢
  go_wp2_with fail
  refine (zfl ag _ xs.length 1 _ km15 (by omega) HN.out (by omega)).mono ?_
  rintro e wF ⟨rfl, hwf⟩
  rw [hwf, <- hmm]
  clear hwf wF
  go_wp2_with fail
  have hX := za hX15 zX15 (Below.refl wE.heap.size wE).drew
  have zX : w.heap.size < wE.drew.heap.size := zX15
  have hO := za hO15 zO15 (Below.refl wE.heap.size wE).drew
  have zO : w.heap.size + 1 < wE.drew.heap.size := zO15
  have sc := sc15.mono (Below.refl wE.heap.size wE).drew
  have km := km15.mono (Below.refl wE.heap.size wE).drew
  have hB := hB15.drew
  clear hX15 zX15 hO15 zO15 sc15 km15 hB15
  go_region_held3 (fun w' => (∀ j, w'.cell? ⟨w.heap.size, j, none⟩ = (#[.slice la l.ss.length lca, .slice lb l.ms.length lcb, .slice lc l.ts.length lcc] : Array Value)[j]?) /\ (∀ j, w'.cell? ⟨w.heap.size + 1, j, none⟩ = (#[.int .i64 b.now, .int .i64 b.tick, .int .i64 b.given, .slice a0 b.os.length c0, .slice a1 b.gs.length c1, .slice a2 b.ls.length c2, .slice a3 b.ps.length c3] : Array Value)[j]?)) (exact ⟨hX, hO⟩) (first
    | (go_at_call 7; refine (zcv l _ _ _ _ _ _ _ (by exact HL.out.mono hB) HF.out).mono ?_; rintro e wG ⟨ra, rb, rc, rfl, hl30, hb⟩; unfold Lw.cells; have hl3 := hl30; have hX := za hX zX hb; have hO := za hO zO hb; have sc := sc.mono hb; have km := km.mono hb; have hB := hB.trans (hb.mono hB.size); have zX := Nat.lt_of_lt_of_le zX hb.size; have zO := Nat.lt_of_lt_of_le zO hb.size; clear hb)
    | (go_at_call 8; refine (zdG b _ _ _ _ _ _ _ _ _ (by exact HO.out.mono hB) HG.out).mono ?_; rintro e wG ⟨rd, re, rf, rg, rfl, ho30, hb⟩; unfold Bk.cells; have ho3 := ho30; have hX := za hX zX hb; have hO := za hO zO hb; have sc := sc.mono hb; have km := km.mono hb; have hl3 := hl3.mono hb; have hB := hB.trans (hb.mono hB.size); have zX := Nat.lt_of_lt_of_le zX hb.size; have zO := Nat.lt_of_lt_of_le zO hb.size; clear hb)
    | (go_at_call 9; refine (zfs l _ _ _ _ _ _ b _ _ _ _ _ _ _ _ _ (by exact hl3) (by exact ho3) HF.out HG.out HZ.out).mono ?_; rintro e wG ⟨vh, rfl, hvh, hb⟩; rw [<- HXS.out] at hvh; obtain ⟨ah, ch, rfl, hih⟩ := zbJ hvh HNm.out; clear hvh; have kh := hih; clear hl3; clear ho3; have hX := za hX zX hb; have hO := za hO zO hb; have sc := sc.mono hb; have km := km.mono hb; have hB := hB.trans (hb.mono hB.size); have zX := Nat.lt_of_lt_of_le zX hb.size; have zO := Nat.lt_of_lt_of_le zO hb.size; clear hb))
  have hX16 := hX
  have zX16 := zX
  have hO16 := hO
  have zO16 := zO
  have sc16 := sc
  have km16 := km
  have kh16 := kh
  have hB16 := hB
  clear hX zX hO zO sc km kh hB
  go_wp2_with fail
  refine (zdb _ _ _ _ xs _ kh16 (HKW.out.mono sc16.below)).mono ?_
  rintro e wH ⟨rfl, hb⟩
  have hX17 := za hX16 zX16 hb
  have zX17 := Nat.lt_of_lt_of_le zX16 hb.size
  have hO17 := za hO16 zO16 hb
  have zO17 := Nat.lt_of_lt_of_le zO16 hb.size
  have sc17 := sc16.mono hb
  have km17 := km16.mono hb
  have kh17 := kh16.mono hb
  have hB17 := hB16.trans (hb.mono hB16.size)
  clear hb hX16 zX16 hO16 zO16 sc16 km16 kh16 hB16
  go_wp2_with fail
  refine (zfl ag _ xs.length 1 _ km17 (by omega) HN.out (by omega)).mono ?_
  rintro e wI ⟨rfl, hwf⟩
  rw [hwf, <- hmm]
  clear hwf wI
  go_wp2_with fail
  go_ret
  exact ⟨rfl, hB17⟩
end Go.Proofs.YtfcdmlnpfoikhaaGreat
