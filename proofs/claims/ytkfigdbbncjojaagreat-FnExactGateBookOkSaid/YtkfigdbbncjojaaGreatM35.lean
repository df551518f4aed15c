import Derived.Test.YtkfigdbbncjojaaGreatM34
import Derived.Test.YtkfigdbbncjojaaGreatM18
import Derived.Test.YtkfigdbbncjojaaGreatM31
import Derived.Test.YtkfigdbbncjojaaGreatM33
import Derived.Test.YtkfigdbbncjojaaGreatM15
import Derived.Test.YtkfigdbbncjojaaGreatM28
import Derived.Test.YtkfigdbbncjojaaGreatM09
import Derived.Deep.QuietTactic
import Derived.Deep.RegionHeld3
namespace Go.Proofs.YtkfigdbbncjojaaGreat
open Go.RowKit
namespace Gate
theorem qX (fs : List Fld) (v : ByteArray) : (zQ fs v = -1 /\ fs.find? (fun f => decide (f.nm = v)) = none) \/ ∃ i, ∃ h : i < fs.length, zQ fs v = (i : Int) /\ fs[i].nm = v /\ fs.find? (fun f => decide (f.nm = v)) = some fs[i] := by
  cases hf : fs.findIdx? (fun f => decide (f.nm = v)) with
  | none =>
    left
    refine ⟨by unfold zQ; rw [hf], ?_⟩
    rw [List.findIdx?_eq_none_iff] at hf
    rw [List.find?_eq_none]
    intro x hx
    have := hf x hx
    simpa using this
  | some i =>
    right
    rw [List.findIdx?_eq_some_iff_getElem] at hf
    obtain ⟨hi, h1, h2⟩ := hf
    refine ⟨i, hi, ?_, by simpa using h1, ?_⟩
    · unfold zQ
      have : fs.findIdx? (fun f => decide (f.nm = v)) = some i := by rw [List.findIdx?_eq_some_iff_getElem]; exact ⟨hi, h1, h2⟩
      rw [this]
    · rw [List.find?_eq_some_iff_append]
      refine ⟨h1, fs.take i, fs.drop (i + 1), ?_, ?_⟩
      · conv => lhs; rw [<- List.take_append_drop i fs, List.drop_eq_getElem_cons hi]
      · intro a ha
        obtain ⟨k, hk, rfl⟩ := List.mem_iff_getElem.1 ha
        have hk' : k < i := by simp at hk; omega
        have := h2 k hk'
        simpa using this
def plain (fs : List Fld) (v : ByteArray) : Bool := match fs.find? (fun f => decide (f.nm = v)) with | some f => decide (f.kd ≠ 4) | none => false
def zcs (fs : List Fld) (v : ByteArray) : Fld := (fs.find? fun f => decide (f.nm = v)).getD zaA
theorem zas {fs : List Fld} {v : ByteArray} (h : fs.find? (fun f => decide (f.nm = v)) = none) : plain fs v = false := by unfold plain; rw [h]
theorem zhh {fs : List Fld} {v : ByteArray} {f : Fld} (h : fs.find? (fun f => decide (f.nm = v)) = some f) : plain fs v = decide (f.kd ≠ 4) := by unfold plain; rw [h]
end Gate
theorem znW (k : Int) : Ending.returned (.bool (k != 4)) = Ending.returned (.bool (decide (k ≠ 4))) := by
  by_cases h : k = 4
  · subst h; rfl
  · have h1 : (k != 4) = true := by rw [bne_iff_ne]; exact h
    rw [h1, decide_eq_true h]
set_option maxHeartbeats 1000000 in
theorem zbv (a : Option Addr) (cap : Nat) (fs : List Fld) (v : ByteArray) (w : World) (hw : zW w a fs) :
    Calls Tryz.prog 151 #[.slice a fs.length cap, .string v] w fun e w' => e = .returned (.bool (Gate.plain fs v)) /\ Below w.heap.size w w' := by
  have hl := hw.len
  unfold maxLen at hl
  rcases Gate.qX fs v with ⟨h1, h2⟩ | ⟨i, hi, h1, h2, h3⟩
  · have HP : Hid (Gate.plain fs v = false) := Gate.zas h2
    go_enter Tryz.func151, Tryz.ntmps151
    go_wp2_with fail
    have h := qA a cap fs v w hw
    rw [h1] at h
    refine h.mono ?_
    rintro e w1 ⟨rfl, hb1⟩
    clear h
    go_wp2_with fail
    go_ret
    exact ⟨by rw [HP.out]; rfl, hb1⟩
  · have HP : Hid (Gate.plain fs v = decide (fs[i].kd ≠ 4)) := Gate.zhh h3
    obtain ⟨b, off, rfl, hb, hr⟩ := hw.rows (by rintro rfl; simp at hi)
    obtain ⟨wa, wcap, hf0⟩ := hr i hi
    go_enter Tryz.func151, Tryz.ntmps151
    go_wp2_with fail
    have h := qA (some ⟨b, off, none⟩) cap fs v w hw
    rw [h1] at h
    refine h.mono ?_
    rintro e w1 ⟨rfl, hb1⟩
    obtain ⟨c0, c1, c2, c3, c4, c5, c6, c7, c8, c9, c10⟩ := (hf0.mono hb hb1).load
    have hiI : (i : Int) < (fs.length : Int) := by omega
    have hge : decide ((i : Int) ≥ 0) = true := by simp
    have hb1w : b < w1.heap.size := Nat.lt_of_lt_of_le hb hb1.size
    clear h hw hr hf0 h3 h2 h1
    go_wp2_with fail
    go_ret
    exact ⟨by rw [HP.out]; exact znW fs[i].kd, hb1⟩
end Go.Proofs.YtkfigdbbncjojaaGreat

namespace Go.Proofs.YtkfigdbbncjojaaGreat
open Go.RowKit
theorem zb3 {P : Program} {f : FuncId} {args : Array Value} {w : World} {v v' : Value} {R : World -> Prop} (hb : v = v') (h : Calls P f args w fun e w' => e = .returned v /\ R w') : Calls P f args w fun e w' => e = .returned v' /\ R w' := by
  subst hb; exact h
def stage (ss : List Shp) (o : Ob) : Nat -> Bool
  | 0 => true
  | 1 => Gate.yO o
  | 2 => Gate.yO o && Gate.yV o
  | 3 => Gate.yO o && Gate.yV o && Gate.yH o
  | 4 => Gate.whole ss o
  | _ => Gate.whole ss o && decide ((Gate.qN (Gate.shapeOf ss o.kd).fs o.vs).1 = 0)
def zd3 (ss : List Shp) (o : Ob) : Value := zjj (Gate.yg ss o).1 (Gate.yg ss o).2
theorem zeb {ss : List Shp} {o : Ob} (h : Gate.whole ss o = false) : zd3 ss o = .iface 254 (.agg #[.int .i64 1, .int .i64 0]) := by
  unfold zd3 Gate.yg; rw [h]; rfl
theorem zhD {ss : List Shp} {o : Ob} (h : Gate.whole ss o = true) : zd3 ss o = zjj (Gate.qN (Gate.shapeOf ss o.kd).fs o.vs).1 (Gate.qN (Gate.shapeOf ss o.kd).fs o.vs).2 := by
  unfold zd3 Gate.yg; rw [if_pos h]
theorem zdg {ss : List Shp} {o : Ob} (h : Gate.whole ss o = true) : o.vs.length = (Gate.shapeOf ss o.kd).fs.length := by
  unfold Gate.whole Gate.zw at h
  simp only [Bool.and_eq_true, decide_eq_true_eq] at h
  exact h.2.2
set_option maxHeartbeats 4000000 in
theorem zgq (a0 : Option Addr) (cap0 : Nat) (ss : List Shp) (o : Ob) (a a' : Option Addr) (cap cap' : Nat) (w : World) (hw : yB w a0 ss) (ho : qQ w o a a') :
    Calls Tryz.prog 165 #[.slice a0 ss.length cap0, .agg (oC o a a' cap cap')] w
      fun e w' => e = .returned (zd3 ss o) /\ Below w.heap.size w w' := by
  go_enter Tryz.func165, Tryz.ntmps165
  go_wp2_with fail
  go_loopw [10] (fun i wr => ∃ k : Nat, k <= 5 /\ i = .int .i64 k /\ stage ss o k = true /\ Below (w.heap.size + 1 + 1) ((w.alloc (.cells (oC o a a' cap cap') 104)).alloc (.cells #[.func (.func 182) #[] #[], .func (.func 183) #[] #[], .func (.func 184) #[] #[], .func (.func 185) #[] #[], .func (.func 186) #[] #[]] 245)) wr) (fun i _ => 5 - (intOf i).toNat)
  case atStart => exact ⟨0, Nat.zero_le _, rfl, rfl, Below.refl _ _⟩
  case round =>
    obtain ⟨k, hk, rfl, hstg, hBr⟩ := hrel
    have HStg := hid hstg
    clear hstg
    have hszr : w.heap.size + 1 < wr.heap.size := by have := hBr.size; simp at this; omega
    have hB : Below w.heap.size w wr := (zq _ _ _).trans (hBr.mono (by omega))
    have hX : ∀ j, wr.cell? ⟨w.heap.size, j, none⟩ = (oC o a a' cap cap')[j]? := fun j => (hBr.cell (p := ⟨w.heap.size, j, none⟩) (by simp; omega)).trans (by rw [World.cell?_alloc_lt _ _ ⟨w.heap.size, j, none⟩ (by simp)]; exact zH w _ _ j)
    have hF : ∀ j, wr.cell? ⟨w.heap.size + 1, j, none⟩ = (#[.func (.func 182) #[] #[], .func (.func 183) #[] #[], .func (.func 184) #[] #[], .func (.func 185) #[] #[], .func (.func 186) #[] #[]] : Array Value)[j]? := fun j => (hBr.cell (p := ⟨w.heap.size + 1, j, none⟩) (by simp)).trans (by rw [World.cell?_alloc_at _ _ _ _ (by simp)])
    have hor := ho.mono hB
    have hwr := hw.mono hB
    have hcases : k = 0 \/ k = 1 \/ k = 2 \/ k = 3 \/ k = 4 \/ k = 5 := by omega
    rcases hcases with rfl | rfl | rfl | rfl | rfl | rfl
    · by_cases hc : Gate.yO o = true
      · have HV : Hid (qM (Gate.yO o) = .nilIface) := by unfold Hid; rw [hc]; rfl
        have HS : Hid (stage ss o (0 + 1) = true) := by
          have h0 := HStg.out
          simp only [stage] at h0 ⊢
          simp [hc, Hid]
        clear hc
        go_wp2_with fail
        refine (zb3 HV.out (zdj _ _ _ _ _ _ _ _ _ hor)).mono ?_
        rintro e w1 ⟨rfl, hb1⟩
        go_wp2_with fail
        exact ⟨⟨0 + 1, by omega, by rfl, HS.out, hBr.trans (hb1.mono (by omega))⟩, by simp [intOf]⟩
      · have hc' : (Gate.yO o) = false := by simpa using hc
        have HV : Hid (qM (Gate.yO o) = .iface 254 (.agg #[.int .i64 1, .int .i64 0])) := by unfold Hid; rw [hc']; rfl
        have HW : Hid (zd3 ss o = .iface 254 (.agg #[.int .i64 1, .int .i64 0])) := zeb (by unfold Gate.whole; rw [hc']; simp)
        clear hc hc'
        go_wp2_with fail
        refine (zb3 HV.out (zdj _ _ _ _ _ _ _ _ _ hor)).mono ?_
        rintro e w1 ⟨rfl, hb1⟩
        go_wp2_with fail
        go_ret
        exact ⟨by rw [HW.out]; rfl, hB.trans (hb1.mono (by omega))⟩
    · by_cases hc : Gate.yV o = true
      · have HV : Hid (qM (Gate.yV o) = .nilIface) := by unfold Hid; rw [hc]; rfl
        have HS : Hid (stage ss o (1 + 1) = true) := by
          have h0 := HStg.out
          simp only [stage] at h0 ⊢
          simp [h0, hc, Hid]
        clear hc
        go_wp2_with fail
        refine (zb3 HV.out (zde _ _ _ _ _ _ _ _ _ hor)).mono ?_
        rintro e w1 ⟨rfl, hb1⟩
        go_wp2_with fail
        exact ⟨⟨1 + 1, by omega, by rfl, HS.out, hBr.trans (hb1.mono (by omega))⟩, by simp [intOf]⟩
      · have hc' : (Gate.yV o) = false := by simpa using hc
        have HV : Hid (qM (Gate.yV o) = .iface 254 (.agg #[.int .i64 1, .int .i64 0])) := by unfold Hid; rw [hc']; rfl
        have HW : Hid (zd3 ss o = .iface 254 (.agg #[.int .i64 1, .int .i64 0])) := zeb (by unfold Gate.whole; rw [hc']; simp)
        clear hc hc'
        go_wp2_with fail
        refine (zb3 HV.out (zde _ _ _ _ _ _ _ _ _ hor)).mono ?_
        rintro e w1 ⟨rfl, hb1⟩
        go_wp2_with fail
        go_ret
        exact ⟨by rw [HW.out]; rfl, hB.trans (hb1.mono (by omega))⟩
    · by_cases hc : Gate.yH o = true
      · have HV : Hid (qM (Gate.yH o) = .nilIface) := by unfold Hid; rw [hc]; rfl
        have HS : Hid (stage ss o (2 + 1) = true) := by
          have h0 := HStg.out
          simp only [stage] at h0 ⊢
          simp [h0, hc, Hid]
        clear hc
        go_wp2_with fail
        refine (zb3 HV.out (zch _ _ _ _ _ _ _ _ _)).mono ?_
        rintro e w1 ⟨rfl, hb1⟩
        go_wp2_with fail
        exact ⟨⟨2 + 1, by omega, by rfl, HS.out, hBr.trans (hb1.mono (by omega))⟩, by simp [intOf]⟩
      · have hc' : (Gate.yH o) = false := by simpa using hc
        have HV : Hid (qM (Gate.yH o) = .iface 254 (.agg #[.int .i64 1, .int .i64 0])) := by unfold Hid; rw [hc']; rfl
        have HW : Hid (zd3 ss o = .iface 254 (.agg #[.int .i64 1, .int .i64 0])) := zeb (by unfold Gate.whole; rw [hc']; simp)
        clear hc hc'
        go_wp2_with fail
        refine (zb3 HV.out (zch _ _ _ _ _ _ _ _ _)).mono ?_
        rintro e w1 ⟨rfl, hb1⟩
        go_wp2_with fail
        go_ret
        exact ⟨by rw [HW.out]; rfl, hB.trans (hb1.mono (by omega))⟩
    · by_cases hc : Gate.zw ss o = true
      · have HV : Hid (qM (Gate.zw ss o) = .nilIface) := by unfold Hid; rw [hc]; rfl
        have HS : Hid (stage ss o (3 + 1) = true) := by
          have h0 := HStg.out
          simp only [stage, Gate.whole] at h0 ⊢
          simp [h0, hc, Hid]
        clear hc
        go_wp2_with fail
        refine (zb3 HV.out (zdd _ _ _ _ _ _ _ _ _ hwr hor)).mono ?_
        rintro e w1 ⟨rfl, hb1⟩
        go_wp2_with fail
        exact ⟨⟨3 + 1, by omega, by rfl, HS.out, hBr.trans (hb1.mono (by omega))⟩, by simp [intOf]⟩
      · have hc' : (Gate.zw ss o) = false := by simpa using hc
        have HV : Hid (qM (Gate.zw ss o) = .iface 254 (.agg #[.int .i64 1, .int .i64 0])) := by unfold Hid; rw [hc']; rfl
        have HW : Hid (zd3 ss o = .iface 254 (.agg #[.int .i64 1, .int .i64 0])) := zeb (by unfold Gate.whole; rw [hc']; simp)
        clear hc hc'
        go_wp2_with fail
        refine (zb3 HV.out (zdd _ _ _ _ _ _ _ _ _ hwr hor)).mono ?_
        rintro e w1 ⟨rfl, hb1⟩
        go_wp2_with fail
        go_ret
        exact ⟨by rw [HW.out]; rfl, hB.trans (hb1.mono (by omega))⟩
    · have hwh : Gate.whole ss o = true := HStg.out
      have HW : Hid (zd3 ss o = zjj (Gate.qN (Gate.shapeOf ss o.kd).fs o.vs).1 (Gate.qN (Gate.shapeOf ss o.kd).fs o.vs).2) := zhD hwh
      by_cases hc : (Gate.qN (Gate.shapeOf ss o.kd).fs o.vs).1 = 0
      · have HV : Hid (zjj (Gate.qN (Gate.shapeOf ss o.kd).fs o.vs).1 (Gate.qN (Gate.shapeOf ss o.kd).fs o.vs).2 = .nilIface) := by unfold Hid; rw [hc]; rfl
        have HS : Hid (stage ss o (4 + 1) = true) := by
          simp [stage, hwh, hc, Hid]
        have HCt : Hid (o.vs.length = (Gate.shapeOf ss o.kd).fs.length) := zdg hwh
        clear hc hwh
        go_wp2_with fail
        refine (zb3 HV.out (zcR _ _ _ _ _ _ _ _ _ hwr hor HCt.out)).mono ?_
        rintro e w1 ⟨rfl, hb1⟩
        go_wp2_with fail
        exact ⟨⟨4 + 1, by omega, by rfl, HS.out, hBr.trans (hb1.mono (by omega))⟩, by simp [intOf]⟩
      · have HV : Hid (zjj (Gate.qN (Gate.shapeOf ss o.kd).fs o.vs).1 (Gate.qN (Gate.shapeOf ss o.kd).fs o.vs).2 = .iface 254 (.agg #[.int .i64 (Gate.qN (Gate.shapeOf ss o.kd).fs o.vs).1, .int .i64 (Gate.qN (Gate.shapeOf ss o.kd).fs o.vs).2])) := zjA hc
        have HCt := hid (zdg hwh)
        clear hc hwh
        go_wp2_with fail
        refine (zb3 HV.out (zcR _ _ _ _ _ _ _ _ _ hwr hor HCt.out)).mono ?_
        rintro e w1 ⟨rfl, hb1⟩
        go_wp2_with fail
        go_ret
        exact ⟨by rw [HW.out, HV.out]; rfl, hB.trans (hb1.mono (by omega))⟩
    · have HW : Hid (zd3 ss o = .nilIface) := by
        have h0 := HStg.out
        simp only [stage, Bool.and_eq_true, decide_eq_true_eq] at h0
        unfold Hid; rw [zhD h0.1, h0.2]; rfl
      go_wp2_with fail
      go_ret
      exact ⟨by rw [HW.out]; rfl, hB⟩
end Go.Proofs.YtkfigdbbncjojaaGreat

namespace Go.Proofs.YtkfigdbbncjojaaGreat
open Go.RowKit
set_option maxHeartbeats 4000000 in
theorem zht (l : Lw) (la lb lc : Option Addr) (lca lcb lcc : Nat) (b : Bk) (a0 a1 a2 a3 : Option Addr) (c0 c1 c2 c3 : Nat) (w : World) (hb : qY w b a0 a1 a2 a3) (hl : qO w l la lb lc) :
    Calls Tryz.prog 74 #[.agg (l.cells la lb lc lca lcb lcc), .agg (b.cells a0 a1 a2 a3 c0 c1 c2 c3)] w fun e w' => e = .returned (.bool (Gate.yw l.ts b)) /\ Below w.heap.size w w' := by
  have HK := hid hb
  have HL := hid hl
  clear hb hl
  unfold Lw.cells Bk.cells
  by_cases hln : b.ls.length <= 10
  rotate_left
  · have HF : Hid (Gate.yw l.ts b = false) := by unfold Hid Gate.yw; rw [decide_eq_false hln]; rfl
    have hg : (10 : Int) < (b.ls.length : Int) := by omega
    go_enter Tryz.func74, Tryz.ntmps74
    go_wp2_with fail
    go_ret
    exact ⟨ze HF.out.symm, zq _ _ _⟩
  have hg : decide ((10 : Int) < (b.ls.length : Int)) = false := by simp; omega
  have HLN : Hid (b.ls.length <= 10) := hln
  clear hln
  go_enter Tryz.func74, Tryz.ntmps74
  go_wp2_with fail
  obtain ⟨hL0, hX0⟩ := qw w (lC l la lb lc lca lcb lcc) (bC b a0 a1 a2 a3 c0 c1 c2 c3) 40 47
  have HB0 : Hid (Below w.heap.size w ((w.alloc (.cells (lC l la lb lc lca lcb lcc) 40)).alloc (.cells (bC b a0 a1 a2 a3 c0 c1 c2 c3) 47))) := zq w _ _
  obtain ⟨W0, hW0⟩ : ∃ W0, W0 = (w.alloc (.cells (lC l la lb lc lca lcb lcc) 40)).alloc (.cells (bC b a0 a1 a2 a3 c0 c1 c2 c3) 47) := ⟨_, rfl⟩
  have hz0 : w.heap.size + 1 < W0.heap.size := by rw [hW0]; simp
  rw [<- hW0] at HB0 hX0 hL0 ⊢
  clear hW0
  refine (zgu _ _ b.ls _ (HK.out.ls.mono HB0.out)).mono ?_
  rintro e w1 ⟨rfl, hb1⟩
  have HB1 := hid (HB0.out.trans (hb1.mono HB0.out.size))
  have hX1 := za hX0 hz0 hb1
  have hL1 := za hL0 (Nat.lt_of_succ_lt hz0) hb1
  have hz1 := Nat.lt_of_lt_of_le hz0 hb1.size
  clear hb1 hX0 hL0 hz0 HB0
  by_cases has : Gate.zaP Gate.yL b.ls = true
  rotate_left
  · have has' : Gate.zaP Gate.yL b.ls = false := by simpa using has
    have HF : Hid (Gate.yw l.ts b = false) := by unfold Hid Gate.yw; rw [has']; simp
    rw [has']
    clear has has'
    go_wp2_with fail
    go_ret
    exact ⟨ze HF.out.symm, HB1.out⟩
  have HG : Hid (Gate.yw l.ts b = b.ls.all (Gate.yj l.ts)) := by unfold Hid Gate.yw; rw [has, decide_eq_true HLN.out]; rfl
  rw [has]
  clear has
  go_wp2_with fail
  go_loopw [20] (fun iv wr => ∃ k : Nat, k <= b.ls.length /\ iv = .int .i64 k /\ Hid ((b.ls.take k).all (Gate.yj l.ts) = true /\ Below w1.heap.size w1 wr)) (fun iv _ => b.ls.length - (intOf iv).toNat)
  case atStart => exact ⟨0, Nat.zero_le _, rfl, by simp, Below.refl _ _⟩
  case round =>
    obtain ⟨k, hk, rfl, HQ⟩ := hrel
    have hkn : k <= 10 := by have := HLN.out; omega
    by_cases hlt : k < b.ls.length
    · obtain ⟨ob, off, rfl, hob, d0, d1, d2, d3⟩ := HK.out.ls.load (HB1.out.trans (HQ.out.2.mono HB1.out.size)) k hlt
      have hob' := Nat.lt_of_lt_of_le hob (HB1.out.trans (HQ.out.2.mono HB1.out.size)).size
      have hltI : (k : Int) < (b.ls.length : Int) := by omega
      have hX := za hX1 hz1 HQ.out.2
      have hz : w.heap.size + 1 < wr.heap.size := Nat.lt_of_lt_of_le hz1 HQ.out.2.size
      have HSn : Hid ((b.ls.take (k + 1)).all (Gate.yj l.ts) = ((b.ls.take k).all (Gate.yj l.ts) && (Gate.yj l.ts) b.ls[k])) := Gate.yS _ _ _ hlt
      have HBo : Hid (∀ ob, Below w1.heap.size w1 (wr.alloc ob)) := fun ob => HQ.out.2.alloc HQ.out.2.size _
      have HBw : Hid (∀ W, Below w1.heap.size w1 W -> Below w.heap.size w W) := fun W hW => HB1.out.trans (hW.mono HB1.out.size)
      have HNo : Hid ((Gate.yj l.ts) b.ls[k] = false -> Gate.yw l.ts b = false) := fun h => by rw [HG.out]; exact Gate.jF _ _ _ hlt h
      have HYes : Hid ((Gate.yj l.ts) b.ls[k] = true -> (b.ls.take (k + 1)).all (Gate.yj l.ts) = true) := fun h => by rw [HSn.out, HQ.out.1, h]; rfl
      have hL := za hL1 (Nat.lt_of_succ_lt hz1) HQ.out.2
      have hzL := Nat.lt_of_succ_lt hz
      have HSm : Hid b.ls[k].Small := HK.out.ls.small k hlt
      go_wp2_with fail
      have hbN : Below wr.heap.size wr (wr.alloc (.cells #[.string b.ls[k].tm, .string b.ls[k].rs, .int .i64 b.ls[k].mo, .int .i64 b.ls[k].fr] 124)) := (Below.refl _ _).alloc (Nat.le_refl _) _
      have hN := zH wr #[.string b.ls[k].tm, .string b.ls[k].rs, .int .i64 b.ls[k].mo, .int .i64 b.ls[k].fr] 124
      obtain ⟨w2, hw2⟩ : ∃ w2, w2 = wr.alloc (.cells #[.string b.ls[k].tm, .string b.ls[k].rs, .int .i64 b.ls[k].mo, .int .i64 b.ls[k].fr] 124) := ⟨_, rfl⟩
      have hn2 : wr.heap.size < w2.heap.size := by rw [hw2]; simp
      rw [<- hw2] at hbN hN ⊢
      have HB2 : Hid (Below w1.heap.size w1 w2) := by unfold Hid; rw [hw2]; exact HBo.out _
      clear hw2 d0 d1 d2 d3 hX hL hbN
      refine (zbt _ _ l.ts b.ls[k].tm _ (HL.out.ts.mono (HBw.out _ HB2.out))).mono ?_
      rintro e w3 ⟨rfl, hb3⟩
      have HB3 := hid (HB2.out.trans (hb3.mono HB2.out.size))
      have hN3 := za hN hn2 hb3
      have hn3 := Nat.lt_of_lt_of_le hn2 hb3.size
      clear hb3 hN hn2 HB2
      have HN1 : ∀ v, Gate.zy b.ls[k].rs = v -> Hid (∀ W, Calls Tryz.prog 108 #[.string b.ls[k].rs] W fun e w' => e = .returned (.bool v) /\ w' = W) := fun v h W => zu h (zL _ W HSm.out.rs)
      by_cases t1 : Gate.z8 l.ts b.ls[k].tm = true
      rotate_left
      · have HF : Hid (Gate.yw l.ts b = false) := HNo.out (by unfold Gate.yj; rw [Bool.eq_false_iff.2 t1]; rfl)
        rw [Bool.eq_false_iff.2 t1]
        clear HN1 t1
        go_wp2_with fail
        go_ret
        exact ⟨ze HF.out.symm, HBw.out _ HB3.out⟩
      rw [t1]
      by_cases t2 : Gate.zy b.ls[k].rs = true
      rotate_left
      · have HF : Hid (Gate.yw l.ts b = false) := HNo.out (by unfold Gate.yj; rw [t1, Bool.eq_false_iff.2 t2]; rfl)
        have H2 := HN1 false (Bool.eq_false_iff.2 t2)
        clear HN1 t1 t2
        go_wp2_with fail
        refine (H2.out _).mono ?_
        rintro e w4 ⟨rfl, rfl⟩
        go_wp2_with fail
        go_ret
        exact ⟨ze HF.out.symm, HBw.out _ HB3.out⟩
      have H2 := HN1 true t2
      by_cases t3 : Gate.qV b.ls[k].fr b.ls[k].mo 0 1000000 = true
      · have HY : Hid ((b.ls.take (k + 1)).all (Gate.yj l.ts) = true) := HYes.out (by unfold Gate.yj; rw [t1, t2, t3]; rfl)
        have H3 : Hid (∀ W, Calls Tryz.prog 124 #[.int .i64 b.ls[k].fr, .int .i64 b.ls[k].mo, .int .i64 0, .int .i64 1000000] W fun e w' => e = .returned (.bool true) /\ w' = W) := fun W => zu t3 (zat _ _ _ _ W)
        clear HN1 t1 t2 t3
        go_wp2_with fail
        refine (H2.out _).mono ?_
        rintro e w4 ⟨rfl, rfl⟩
        go_wp2_with fail
        refine (H3.out _).mono ?_
        rintro e w4 ⟨rfl, rfl⟩
        go_wp2_with fail
        exact ⟨⟨k + 1, by omega, by go_num, HY.out, HB3.out⟩, zm hlt⟩
      · have HF : Hid (Gate.yw l.ts b = false) := HNo.out (by unfold Gate.yj; rw [t1, t2, Bool.eq_false_iff.2 t3]; rfl)
        have H3 : Hid (∀ W, Calls Tryz.prog 124 #[.int .i64 b.ls[k].fr, .int .i64 b.ls[k].mo, .int .i64 0, .int .i64 1000000] W fun e w' => e = .returned (.bool false) /\ w' = W) := fun W => zu (Bool.eq_false_iff.2 t3) (zat _ _ _ _ W)
        clear HN1 t1 t2 t3
        go_wp2_with fail
        refine (H2.out _).mono ?_
        rintro e w4 ⟨rfl, rfl⟩
        go_wp2_with fail
        refine (H3.out _).mono ?_
        rintro e w4 ⟨rfl, rfl⟩
        go_wp2_with fail
        go_ret
        exact ⟨ze HF.out.symm, HBw.out _ HB3.out⟩
    · have e : k = b.ls.length := by omega
      subst e
      have HE : Hid (Gate.yw l.ts b = true) := by
        unfold Hid
        rw [HG.out]
        have h := HQ.out.1
        rw [List.take_of_length_le (Nat.le_refl _)] at h
        exact h
      have HBe := hid (HB1.out.trans (HQ.out.2.mono HB1.out.size))
      clear hlt hk HQ
      go_wp2_with fail
      go_ret
      exact ⟨ze HE.out.symm, HBe.out⟩
end Go.Proofs.YtkfigdbbncjojaaGreat

namespace Go.Proofs.YtkfigdbbncjojaaGreat
open Go.RowKit
namespace Gate
theorem zdB {α : Type} {key : α -> α -> Int} {ms : List α} {k : Nat} (h : jZ key ms k) (hk : k < ms.length) (hn : ∀ m (e : k = m + 1), key (ms[m]'(by omega)) ms[k] < 0) : jZ key ms (k + 1) := by
  intro i hi hik
  rcases Nat.lt_or_ge (i + 1) k with hlt | hge
  · exact h i hi hlt
  · have e : k = i + 1 := by omega
    subst e
    exact hn i rfl
theorem zgA {α : Type} {key : α -> α -> Int} {ms : List α} {k : Nat} (hk : k < ms.length) (h : ∀ h0 : 0 < k, key (ms[k - 1]'(by omega)) ms[k] < 0) : ∀ m (e : k = m + 1), key (ms[m]'(by omega)) ms[k] < 0 := by
  intro m e; subst e; exact h (by omega)
theorem zeo {α : Type} {key : α -> α -> Int} {ms : List α} {k : Nat} (h : jZ key ms k) (hk : ms.length <= k) : zaP key ms = true := by
  rw [zko]; exact fun i hi => h i hi (by omega)
theorem zcD {α : Type} {key : α -> α -> Int} {ms : List α} {k : Nat} (hk : k < ms.length) (h0 : 0 < k) (hn : ¬ key (ms[k - 1]'(by omega)) ms[k] < 0) : zaP key ms = false := by
  obtain ⟨m, rfl⟩ : ∃ m, k = m + 1 := ⟨k - 1, by omega⟩
  exact zei hk hn
end Gate
end Go.Proofs.YtkfigdbbncjojaaGreat

namespace Go.Proofs.YtkfigdbbncjojaaGreat
open Go.RowKit
namespace Gate
def yK (ss : List Shp) (o : Ob) : List ByteArray := if zw ss o = true then jg (shapeOf ss o.kd).fs o.vs else o.vs
theorem zlD {ss : List Shp} {o : Ob} (h : zM ss = true) : zgC ss o = yK ss o := by
  unfold zgC yK zw
  by_cases h1 : zC ss o.kd = true
  · by_cases h2 : o.vs.length = (shapeOf ss o.kd).fs.length
    · rw [if_pos ⟨h1, h, h2⟩, if_pos (by rw [h1]; simp [h2])]
    · rw [if_neg (fun hh => h2 hh.2.2), if_neg (by rw [h1]; simp [h2])]
  · rw [if_neg (fun hh => h1 hh.1), if_neg (by simp [h1])]
end Gate
set_option maxHeartbeats 1000000 in
theorem zdH (a0 : Option Addr) (cap0 : Nat) (ss : List Shp) (o : Ob) (a a' : Option Addr) (cap cap' : Nat) (w0 w : World) (hw0 : yB w0 a0 ss) (hbb : Below w0.heap.size w0 w) (hc : Gate.zw ss o = true) :
    Calls Tryz.prog 54 #[.slice a0 ss.length cap0, .agg (oC o a a' cap cap')] w fun e w' => ∃ fa fcap, e = .returned (.tuple #[.slice fa (Gate.shapeOf ss o.kd).fs.length fcap, .bool true]) /\ zW w0 fa (Gate.shapeOf ss o.kd).fs /\ Below w.heap.size w w' := by
  unfold Gate.zw at hc
  simp only [Bool.and_eq_true, decide_eq_true_eq] at hc
  have HK := hid hc.1
  have HL := hid hc.2
  clear hc
  have hw := hw0.mono hbb
  have hl := hw.len
  unfold maxLen at hl
  go_enter Tryz.func54, Tryz.ntmps54
  go_wp2_with fail
  refine (zav _ _ _ _ _ (hw.mono ((Below.refl _ _).alloc (Nat.le_refl _) _)) HK.out).mono ?_
  rintro e w1 ⟨ix, hix, rfl, hsh, rfl⟩
  have HSh := hid hsh
  clear hsh
  obtain ⟨b, off, rfl, hb0, hr⟩ := hw0.rows (by rintro rfl; simp at hix)
  obtain ⟨fa, fcap, hs0⟩ := hr ix hix
  have hs := hs0.mono hb0 hbb
  have hcl := hs.list
  have hfl := hs0.flds
  have hixI : (ix : Int) < (ss.length : Int) := by omega
  have hix0 : decide ((ix : Int) < 0) = false := by simp
  have hneq : ((ss[ix].fs.length : Int) != (o.vs.length : Int)) = false := by have h1 := HL.out; have h2 := HSh.out; rw [h2] at h1; simp [h1]
  have hbw := Nat.lt_of_lt_of_le hb0 hbb.size
  clear hr hs
  go_wp2_with fail
  go_quiet (fail)
  go_wp2_with fail
  go_ret2
  rw [HSh.out]
  exact ⟨fa, fcap, rfl, hfl, below_drewN ((Below.refl _ _).alloc (Nat.le_refl _) _) _⟩
end Go.Proofs.YtkfigdbbncjojaaGreat
