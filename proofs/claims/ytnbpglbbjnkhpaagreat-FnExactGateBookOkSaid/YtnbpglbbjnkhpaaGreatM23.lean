import Derived.Test.YtnbpglbbjnkhpaaGreatM22
import Derived.Test.YtnbpglbbjnkhpaaGreatM03
import Derived.Test.YtnbpglbbjnkhpaaGreatM04
import Derived.Test.YtnbpglbbjnkhpaaGreatM12
import Derived.Test.YtnbpglbbjnkhpaaGreatM05
import Derived.Deep.RegionWith
import Derived.Deep.QuietTactic
import Derived.BigQuiet
namespace Go.Proofs.YtnbpglbbjnkhpaaGreat
open Go.RowKit
theorem zjg {w : World} {b : Nat} {X : Array Value} {t : TypeId} (h : w.heap[b]? = some (.cells X t)) : ∀ j, w.cell? ⟨b, j, none⟩ = X[j]? := fun _ => cell_of_block h
theorem zl6 {w : World} {b : Nat} {X : Array Value} {t : TypeId} (h : w.heap[b]? = some (.cells X t)) : ∀ j, w.frozen? ⟨b, j, none⟩ = false := fun _ => zm h
end Go.Proofs.YtnbpglbbjnkhpaaGreat

namespace Go.Proofs.YtnbpglbbjnkhpaaGreat
open Go.RowKit
def zjW (c p : Int) : Value := if c = 0 then .nilIface else .iface 254 (.agg #[.int .i64 c, .int .i64 p])
set_option maxHeartbeats 400000 in
theorem zgP (w : World) : Calls Tryz.prog 195 #[.bool true] w fun e w' => e = .returned .nilIface /\ w' = w := by
  go_enter Tryz.func195, Tryz.ntmps195
  go_wp2
  go_ret
  exact ⟨rfl, rfl⟩
set_option maxHeartbeats 400000 in
theorem zh1 (w : World) : Calls Tryz.prog 195 #[.bool false] w fun e w' => e = .returned (.iface 254 (.agg #[.int .i64 1, .int .i64 0])) /\ w' = w := by
  go_enter Tryz.func195, Tryz.ntmps195
  go_wp2
  go_ret
  exact ⟨rfl, rfl⟩
def jC (b : Bool) : Value := if b then .nilIface else .iface 254 (.agg #[.int .i64 1, .int .i64 0])
theorem jg (b : Bool) (w : World) : Calls Tryz.prog 195 #[.bool b] w fun e w' => e = .returned (jC b) /\ w' = w := by
  cases b
  · exact zh1 w
  · exact zgP w
theorem zcf {a b : Bool} (h : a = b) : Ending.returned (jC a) = .returned (jC b) := by rw [h]
set_option maxHeartbeats 1000000 in
theorem zdM (a0 : Option Addr) (cap0 : Nat) (ss : List Shp) (o : Ob) (a a' : Option Addr) (cap cap' : Nat) (w : World) (ho : ql w o a a') :
    Calls Tryz.prog 182 #[.slice a0 ss.length cap0, .agg #[.string o.kd, .string o.nm, .string o.tm, .slice a o.vs.length cap, .bool o.en, .slice a' o.hs.length cap', .int .i64 o.vr]] w fun e w' => e = .returned (jC (Gate.qy o)) /\ Below w.heap.size w w' := by
  have h1 := ho.small.nm
  have h2 := ho.small.tm
  by_cases hn : Gate.zx o.nm = true
  · have HN : Hid (Gate.zx o.nm = true) := hn
    clear hn ho
    go_enter Tryz.func182, Tryz.ntmps182
    go_wp2_with fail
    refine (zf HN.out (zF _ _ h1)).mono ?_
    rintro e w1 ⟨rfl, rfl⟩
    go_wp2_with fail
    refine (zF _ _ h2).mono ?_
    rintro e w1 ⟨rfl, rfl⟩
    go_wp2_with fail
    refine (jg _ _).mono ?_
    rintro e w1 ⟨rfl, rfl⟩
    go_wp2_with fail
    go_ret
    exact ⟨zcf (by unfold Gate.qy; rw [HN.out]; rfl), (Below.refl _ _).alloc (Nat.le_refl _) _⟩
  · have HN : Hid (Gate.zx o.nm = false) := by simpa [Hid] using hn
    clear hn ho
    go_enter Tryz.func182, Tryz.ntmps182
    go_wp2_with fail
    refine (zf HN.out (zF _ _ h1)).mono ?_
    rintro e w1 ⟨rfl, rfl⟩
    go_wp2_with fail
    refine (jg _ _).mono ?_
    rintro e w1 ⟨rfl, rfl⟩
    go_wp2_with fail
    go_ret
    exact ⟨zcf (a := false) (b := Gate.qy o) (by unfold Gate.qy; rw [HN.out]; rfl), (Below.refl _ _).alloc (Nat.le_refl _) _⟩
set_option maxHeartbeats 1000000 in
theorem zdF (a0 : Option Addr) (cap0 : Nat) (ss : List Shp) (o : Ob) (a a' : Option Addr) (cap cap' : Nat) (w : World) (ho : ql w o a a') :
    Calls Tryz.prog 183 #[.slice a0 ss.length cap0, .agg #[.string o.kd, .string o.nm, .string o.tm, .slice a o.vs.length cap, .bool o.en, .slice a' o.hs.length cap', .int .i64 o.vr]] w fun e w' => e = .returned (jC (Gate.qL o)) /\ Below w.heap.size w w' := by
  have hl := ho.holds.len
  unfold maxLen at hl
  by_cases h3 : o.hs.length <= 3
  · go_enter Tryz.func183, Tryz.ntmps183
    go_wp2_with fail
    refine (zhU _ _ _ _ (ho.holds.mono ((Below.refl _ _).alloc (Nat.le_refl _) _))).mono ?_
    rintro e w1 ⟨rfl, rfl⟩
    go_wp2_with fail
    refine (jg _ _).mono ?_
    rintro e w1 ⟨rfl, rfl⟩
    go_wp2_with fail
    go_ret
    exact ⟨zcf (by unfold Gate.qL; rw [decide_eq_true h3]; rfl), (Below.refl _ _).alloc (Nat.le_refl _) _⟩
  · go_enter Tryz.func183, Tryz.ntmps183
    go_wp2_with fail
    refine (jg _ _).mono ?_
    rintro e w1 ⟨rfl, rfl⟩
    go_wp2_with fail
    go_ret
    exact ⟨zcf (a := false) (b := Gate.qL o) (by unfold Gate.qL; rw [decide_eq_false (show ¬ o.hs.length <= 3 by omega)]; rfl), (Below.refl _ _).alloc (Nat.le_refl _) _⟩
set_option maxHeartbeats 1000000 in
theorem zcJ (a0 : Option Addr) (cap0 : Nat) (ss : List Shp) (o : Ob) (a a' : Option Addr) (cap cap' : Nat) (w : World) :
    Calls Tryz.prog 184 #[.slice a0 ss.length cap0, .agg #[.string o.kd, .string o.nm, .string o.tm, .slice a o.vs.length cap, .bool o.en, .slice a' o.hs.length cap', .int .i64 o.vr]] w fun e w' => e = .returned (jC (Gate.y5 o)) /\ Below w.heap.size w w' := by
  by_cases h0 : 0 <= o.vr
  · have HV : Hid (Gate.y5 o = decide (o.vr <= 1000000)) := by unfold Hid Gate.y5; rw [decide_eq_true h0]; rfl
    go_enter Tryz.func184, Tryz.ntmps184
    go_wp2_with (go_at_call 195; refine (jg _ _).mono ?_; rintro e w1 ⟨rfl, rfl⟩)
    go_ret
    exact ⟨zcf HV.out.symm, (Below.refl _ _).alloc (Nat.le_refl _) _⟩
  · have HV : Hid (Gate.y5 o = false) := by unfold Hid Gate.y5; rw [decide_eq_false h0]; rfl
    go_enter Tryz.func184, Tryz.ntmps184
    go_wp2_with (go_at_call 195; refine (jg _ _).mono ?_; rintro e w1 ⟨rfl, rfl⟩)
    go_ret
    exact ⟨zcf HV.out.symm, (Below.refl _ _).alloc (Nat.le_refl _) _⟩
set_option maxHeartbeats 1000000 in
theorem zdA (a0 : Option Addr) (cap0 : Nat) (ss : List Shp) (o : Ob) (a a' : Option Addr) (cap cap' : Nat) (w : World) (hw : yG w a0 ss) (_ho : ql w o a a') :
    Calls Tryz.prog 185 #[.slice a0 ss.length cap0, .agg #[.string o.kd, .string o.nm, .string o.tm, .slice a o.vs.length cap, .bool o.en, .slice a' o.hs.length cap', .int .i64 o.vr]] w fun e w' => e = .returned (jC (Gate.zy ss o)) /\ Below w.heap.size w w' := by
  by_cases hk : Gate.zG ss o.kd = true
  all_goals
    first
      | (have HK : Hid (Gate.zG ss o.kd = true) := hk)
      | (have HK : Hid (Gate.zG ss o.kd = false) := by simpa [Hid] using hk)
    clear hk
    go_enter Tryz.func185, Tryz.ntmps185
    go_wp2_with fail
    refine (qA _ _ _ _ _ (hw.mono ((Below.refl _ _).alloc (Nat.le_refl _) _))).mono ?_
    rintro e w1 ⟨fa, fcap, rfl, _, hb1⟩
    rw [HK.out]
    have hX1 := za (zl w _ _) (by simp) hb1
    have hz1 : w.heap.size < w1.heap.size := by have := hb1.size; simp at this; omega
    have hB1 : Below w.heap.size w w1 := ((Below.refl _ _).alloc (Nat.le_refl _) _).trans (hb1.mono (by simp))
    clear hb1
    go_wp2_with (go_at_call 195; refine (jg _ _).mono ?_; rintro e w2 ⟨rfl, rfl⟩)
    go_ret
  · refine ⟨zcf ?_, hB1.alloc (by omega) _⟩
    unfold Gate.zy; rw [HK.out]
    rw [Bool.eq_iff_iff]; simp; omega
  · refine ⟨zcf (a := false) (b := Gate.zy ss o) ?_, hB1.alloc (by omega) _⟩
    unfold Gate.zy; rw [HK.out]; rfl
end Go.Proofs.YtnbpglbbjnkhpaaGreat

namespace Go.Proofs.YtnbpglbbjnkhpaaGreat
open Go.RowKit
theorem zjX {c p : Int} (h : c ≠ 0) : zjW c p = .iface 254 (.agg #[.int .i64 c, .int .i64 p]) := by simp [zjW, h]
set_option maxHeartbeats 4000000 in
theorem zdo (a0 : Option Addr) (cap0 : Nat) (ss : List Shp) (o : Ob) (a a' : Option Addr) (cap cap' : Nat) (w : World) (hw : yG w a0 ss) (ho : ql w o a a') (hcnt : o.vs.length = (Gate.shapeOf ss o.kd).fs.length) :
    Calls Tryz.prog 186 #[.slice a0 ss.length cap0, .agg #[.string o.kd, .string o.nm, .string o.tm, .slice a o.vs.length cap, .bool o.en, .slice a' o.hs.length cap', .int .i64 o.vr]] w
      fun e w' => e = .returned (zjW (Gate.jy (Gate.shapeOf ss o.kd).fs o.vs).1 (Gate.jy (Gate.shapeOf ss o.kd).fs o.vs).2) /\ Below w.heap.size w w' := by
  have HC : Hid (o.vs.length = (Gate.shapeOf ss o.kd).fs.length) := hcnt
  clear hcnt
  go_enter Tryz.func186, Tryz.ntmps186
  go_wp2_with fail
  refine (zbV _).mono ?_
  rintro e w0 ⟨rfl, hw0⟩
  have hX0 : ∀ j, w0.cell? ⟨w.heap.size, j, none⟩ = (#[.string o.kd, .string o.nm, .string o.tm, .slice a o.vs.length cap, .bool o.en, .slice a' o.hs.length cap', .int .i64 o.vr] : Array Value)[j]? := fun j => by
    rw [hw0, World.cell?_alloc_lt _ _ ⟨w.heap.size, j, none⟩ (by simp)]; exact zl w _ _ j
  have hm0 : w0.heap[w.heap.size + 1]? = some (.map yK 4) := by
    rw [hw0]; have := alloc_at (w.alloc (.cells #[.string o.kd, .string o.nm, .string o.tm, .slice a o.vs.length cap, .bool o.en, .slice a' o.hs.length cap', .int .i64 o.vr] 104)) (.map yK 4); simpa using this
  have hB00 : Below w.heap.size w w0 := by rw [hw0]; exact zB _ _ _
  have hz0 : w.heap.size + 1 < w0.heap.size := by rw [hw0]; simp
  clear hw0
  simp only [World.size_alloc]
  have hzz : w.heap.size < w0.heap.size := by omega
  go_wp2_with fail
  refine (qA _ _ _ _ _ (hw.mono hB00)).mono ?_
  rintro e w1 ⟨fa, fcap, rfl, hfl0, hb1⟩
  have hX1 := za hX0 hzz hb1
  have hm1 := (hb1.block _ hz0).trans hm0
  have hz1 : w.heap.size + 1 < w1.heap.size := by have := hb1.size; omega
  have hB01 := hB00.trans (hb1.mono (by omega))
  have hfl1 := hfl0.mono hb1
  clear hX0 hm0 hb1 hfl0 hz0 hzz
  generalize hfs : (Gate.shapeOf ss o.kd).fs = fs at *
  have hlen := hfl1.len
  unfold maxLen at hlen
  go_wp2_with fail
  go_loopw [22] (fun i wr => ∃ k : Nat, k <= fs.length /\ i = .int .i64 k /\ Gate.up (Gate.zaL fs o.vs) k = true /\ Below w1.heap.size w1 wr) (fun i _ => fs.length - (intOf i).toNat)
  case atStart => exact ⟨0, Nat.zero_le _, rfl, rfl, (Below.refl _ _).alloc (Nat.le_refl _) _⟩
  case round =>
    obtain ⟨k, hk, rfl, hup, hBr⟩ := hrel
    have hszr := hBr.size
    have hB : Below w.heap.size w wr := hB01.trans (hBr.mono (by omega))
    by_cases hlt : k < fs.length
    · have hXr := za hX1 (by omega) hBr
      have hmr := (hBr.block _ hz1).trans hm1
      obtain ⟨b, off, rfl, hb, hr⟩ := hfl1.rows (by rintro rfl; simp at hlt)
      obtain ⟨wa, wcap, hf0⟩ := hr k hlt
      have hf := hf0.mono hb hBr
      obtain ⟨c0, c1, c2, c3, c4, c5, c6, c7, c8, c9, c10⟩ := hf.load
      have hst := hf.strs
      have hltv : k < o.vs.length := by rw [HC.out]; exact hlt
      obtain ⟨vb, voff, rfl, hvb, hvc⟩ := ho.vals.cells (by intro h; rw [h] at hltv; simp at hltv)
      have hcv := (hB.cell (p := ⟨vb, voff + k, none⟩) hvb).trans (hvc k hltv)
      have hvs := ho.vals.small _ (List.getElem_mem hltv)
      have hltI : (k : Int) < (fs.length : Int) := by omega
      have hltV : (k : Int) < (o.vs.length : Int) := by omega
      have hbr : b < wr.heap.size := by omega
      have hvbr : vb < wr.heap.size := by omega
      have hwr1 : w.heap.size < wr.heap.size := by omega
      have HFX : Hid (Gate.zdj fs o.vs k = Gate.jL fs[k] o.vs[k]) := Gate.zib hlt hltv
      have HS : Hid (Gate.jL fs[k] o.vs[k] = 0 -> Gate.up (Gate.zaL fs o.vs) (k + 1) = true) := fun h => by
        rw [Gate.qR, hup]; unfold Gate.zaL; rw [HFX.out, h]; rfl
      have HN : Hid (∀ n : Int, n ≠ 0 -> Gate.jL fs[k] o.vs[k] = n -> zjW (Gate.jy fs o.vs).1 (Gate.jy fs o.vs).2 = .iface 254 (.agg #[.int .i64 n, .int .i64 k])) := fun n hn0 h => by
        rw [Gate.ziX hlt hup (by unfold Gate.zaL; rw [HFX.out, h]; simp [hn0]), HFX.out, h]; exact zjX hn0
      clear hX1 hm1 hr hf0 hf hup
      by_cases he : o.vs[k].size = 0
      · have hne : o.vs[k].toList.isEmpty = true := by rw [Gate.zq]; simp [he]
        have HE : Hid (o.vs[k].size = 0) := he
        clear he
        by_cases hmu : fs[k].mu = true
        · have HM : Hid (fs[k].mu = true) := hmu
          go_wp2_with fail
          go_ret
          have hv := HN.out 2 (by decide) (by unfold Gate.jL; rw [if_pos HE.out, if_pos HM.out])
          exact ⟨by rw [hfs, hv]; rfl, hB.alloc (by omega) _⟩
        · have hmu' : fs[k].mu = false := by simpa using hmu
          have HM : Hid (fs[k].mu = false) := hmu'
          clear hmu
          go_wp2_with fail
          go_quiet (fail)
          go_wp2_with fail
          exact ⟨⟨k + 1, by omega, by go_num, HS.out (by unfold Gate.jL; rw [if_pos HE.out, HM.out]; rfl), below_drewN (hBr.alloc (by omega) _) _⟩, by simp [intOf]; omega⟩
      · have hne : o.vs[k].toList.isEmpty = false := by rw [Gate.zq]; simp [he]
        have HE : Hid (¬ o.vs[k].size = 0) := he
        clear he
        by_cases hfit : Gate.fits fs[k].kd fs[k].ls fs[k].ms fs[k].ws o.vs[k] = true
        all_goals
          first
            | (have HFT : Hid (Gate.fits fs[k].kd fs[k].ls fs[k].ms fs[k].ws o.vs[k] = true) := hfit)
            | (have HFT : Hid (Gate.fits fs[k].kd fs[k].ls fs[k].ms fs[k].ws o.vs[k] = false) := by simpa [Hid] using hfit)
          clear hfit
          go_wp2_with fail
          have hbx : Below wr.heap.size wr ((wr.alloc (.cells #[.string fs[k].nm, .int .i64 fs[k].kd, .int .i64 fs[k].ls, .int .i64 fs[k].ms, .slice wa fs[k].ws.length wcap, .string fs[k].to, .int .i64 fs[k].rl, .bool fs[k].mu, .bool fs[k].fx, .string fs[k].df, .string fs[k].wg] 115)).drew) := ((Below.refl _ _).alloc (Nat.le_refl _) _).drew
          have hmx := (hbx.block _ (by omega)).trans hmr
          have hstx := hst.mono hbx
          go_region_with (go_at_call 153; refine (zf HFT.out (zei _ _ _ _ _ _ _ _ _ _ _ _ _ _ _ _ (by exact hmx) hvs (by exact hstx))).mono ?_; rintro e w3 ⟨rfl, hb3⟩)
          all_goals go_wp2_with fail
        all_goals have hB3 : Below wr.heap.size wr w3 := hbx.trans (hb3.mono (by simp))
        all_goals first
          | (have hft : Gate.fits fs[k].kd fs[k].ls fs[k].ms fs[k].ws o.vs[k] = true := HFT.out
             exact ⟨⟨k + 1, by omega, by go_num, HS.out (by unfold Gate.jL; rw [if_neg HE.out]; unfold Gate.zdP; rw [hft]; rfl), hBr.trans (hB3.mono hszr)⟩, by simp [intOf]; omega⟩)
          | (have hft : Gate.fits fs[k].kd fs[k].ls fs[k].ms fs[k].ws o.vs[k] = false := HFT.out
             go_ret
             have hv := HN.out 3 (by decide) (by unfold Gate.jL; rw [if_neg HE.out]; unfold Gate.zdP; rw [hft]; rfl)
             exact ⟨by rw [hfs, hv]; rfl, hB.trans (hB3.mono (by omega))⟩)
    · have HF : Hid (Gate.jy fs o.vs = (0, 0)) := by
        have e : k = fs.length := by omega
        subst e; exact Gate.zf6 hup
      clear hup
      go_wp2_with fail
      go_ret
      exact ⟨by rw [hfs, HF.out]; rfl, hB⟩
end Go.Proofs.YtnbpglbbjnkhpaaGreat

namespace Go.Proofs.YtnbpglbbjnkhpaaGreat
open Go.RowKit
theorem zcy {P : Program} {f : FuncId} {args : Array Value} {w : World} {v v' : Value} {R : World -> Prop} (hb : v = v') (h : Calls P f args w fun e w' => e = .returned v /\ R w') : Calls P f args w fun e w' => e = .returned v' /\ R w' := by
  subst hb; exact h
def stage (ss : List Shp) (o : Ob) : Nat -> Bool
  | 0 => true
  | 1 => Gate.qy o
  | 2 => Gate.qy o && Gate.qL o
  | 3 => Gate.qy o && Gate.qL o && Gate.y5 o
  | 4 => Gate.whole ss o
  | _ => Gate.whole ss o && decide ((Gate.jy (Gate.shapeOf ss o.kd).fs o.vs).1 = 0)
def zeM (ss : List Shp) (o : Ob) : Value := zjW (Gate.yC ss o).1 (Gate.yC ss o).2
theorem zfi {ss : List Shp} {o : Ob} (h : Gate.whole ss o = false) : zeM ss o = .iface 254 (.agg #[.int .i64 1, .int .i64 0]) := by
  unfold zeM Gate.yC; rw [h]; rfl
theorem zhy {ss : List Shp} {o : Ob} (h : Gate.whole ss o = true) : zeM ss o = zjW (Gate.jy (Gate.shapeOf ss o.kd).fs o.vs).1 (Gate.jy (Gate.shapeOf ss o.kd).fs o.vs).2 := by
  unfold zeM Gate.yC; rw [if_pos h]
theorem zdR {ss : List Shp} {o : Ob} (h : Gate.whole ss o = true) : o.vs.length = (Gate.shapeOf ss o.kd).fs.length := by
  unfold Gate.whole Gate.zy at h
  simp only [Bool.and_eq_true, decide_eq_true_eq] at h
  exact h.2.2
set_option maxHeartbeats 4000000 in
theorem zgs (a0 : Option Addr) (cap0 : Nat) (ss : List Shp) (o : Ob) (a a' : Option Addr) (cap cap' : Nat) (w : World) (hw : yG w a0 ss) (ho : ql w o a a') :
    Calls Tryz.prog 165 #[.slice a0 ss.length cap0, .agg #[.string o.kd, .string o.nm, .string o.tm, .slice a o.vs.length cap, .bool o.en, .slice a' o.hs.length cap', .int .i64 o.vr]] w
      fun e w' => e = .returned (zeM ss o) /\ Below w.heap.size w w' := by
  go_enter Tryz.func165, Tryz.ntmps165
  go_wp2_with fail
  go_loopw [10] (fun i wr => ∃ k : Nat, k <= 5 /\ i = .int .i64 k /\ stage ss o k = true /\ Below (w.heap.size + 1 + 1) ((w.alloc (.cells #[.string o.kd, .string o.nm, .string o.tm, .slice a o.vs.length cap, .bool o.en, .slice a' o.hs.length cap', .int .i64 o.vr] 104)).alloc (.cells #[.func (.func 182) #[] #[], .func (.func 183) #[] #[], .func (.func 184) #[] #[], .func (.func 185) #[] #[], .func (.func 186) #[] #[]] 245)) wr) (fun i _ => 5 - (intOf i).toNat)
  case atStart => exact ⟨0, Nat.zero_le _, rfl, rfl, Below.refl _ _⟩
  case round =>
    obtain ⟨k, hk, rfl, hstg, hBr⟩ := hrel
    have HStg : Hid (stage ss o k = true) := hstg
    clear hstg
    have hszr : w.heap.size + 1 < wr.heap.size := by have := hBr.size; simp at this; omega
    have hB : Below w.heap.size w wr := (zB _ _ _).trans (hBr.mono (by omega))
    have hX : ∀ j, wr.cell? ⟨w.heap.size, j, none⟩ = (#[.string o.kd, .string o.nm, .string o.tm, .slice a o.vs.length cap, .bool o.en, .slice a' o.hs.length cap', .int .i64 o.vr] : Array Value)[j]? := fun j => (hBr.cell (p := ⟨w.heap.size, j, none⟩) (by simp; omega)).trans (by rw [World.cell?_alloc_lt _ _ ⟨w.heap.size, j, none⟩ (by simp)]; exact zl w _ _ j)
    have hF : ∀ j, wr.cell? ⟨w.heap.size + 1, j, none⟩ = (#[.func (.func 182) #[] #[], .func (.func 183) #[] #[], .func (.func 184) #[] #[], .func (.func 185) #[] #[], .func (.func 186) #[] #[]] : Array Value)[j]? := fun j => (hBr.cell (p := ⟨w.heap.size + 1, j, none⟩) (by simp)).trans (by rw [World.cell?_alloc_at _ _ _ _ (by simp)])
    have hor := ho.mono hB
    have hwr := hw.mono hB
    have hcases : k = 0 \/ k = 1 \/ k = 2 \/ k = 3 \/ k = 4 \/ k = 5 := by omega
    rcases hcases with rfl | rfl | rfl | rfl | rfl | rfl
    · by_cases hc : Gate.qy o = true
      · have HV : Hid (jC (Gate.qy o) = .nilIface) := by unfold Hid; rw [hc]; rfl
        have HS : Hid (stage ss o (0 + 1) = true) := by
          have h0 := HStg.out
          simp only [stage] at h0 ⊢
          simp [hc, Hid]
        clear hc
        go_wp2_with fail
        refine (zcy HV.out (zdM _ _ _ _ _ _ _ _ _ hor)).mono ?_
        rintro e w1 ⟨rfl, hb1⟩
        go_wp2_with fail
        exact ⟨⟨0 + 1, by omega, by rfl, HS.out, hBr.trans (hb1.mono (by omega))⟩, by simp [intOf]⟩
      · have hc' : (Gate.qy o) = false := by simpa using hc
        have HV : Hid (jC (Gate.qy o) = .iface 254 (.agg #[.int .i64 1, .int .i64 0])) := by unfold Hid; rw [hc']; rfl
        have HW : Hid (zeM ss o = .iface 254 (.agg #[.int .i64 1, .int .i64 0])) := zfi (by unfold Gate.whole; rw [hc']; simp)
        clear hc hc'
        go_wp2_with fail
        refine (zcy HV.out (zdM _ _ _ _ _ _ _ _ _ hor)).mono ?_
        rintro e w1 ⟨rfl, hb1⟩
        go_wp2_with fail
        go_ret
        exact ⟨by rw [HW.out]; rfl, hB.trans (hb1.mono (by omega))⟩
    · by_cases hc : Gate.qL o = true
      · have HV : Hid (jC (Gate.qL o) = .nilIface) := by unfold Hid; rw [hc]; rfl
        have HS : Hid (stage ss o (1 + 1) = true) := by
          have h0 := HStg.out
          simp only [stage] at h0 ⊢
          simp [h0, hc, Hid]
        clear hc
        go_wp2_with fail
        refine (zcy HV.out (zdF _ _ _ _ _ _ _ _ _ hor)).mono ?_
        rintro e w1 ⟨rfl, hb1⟩
        go_wp2_with fail
        exact ⟨⟨1 + 1, by omega, by rfl, HS.out, hBr.trans (hb1.mono (by omega))⟩, by simp [intOf]⟩
      · have hc' : (Gate.qL o) = false := by simpa using hc
        have HV : Hid (jC (Gate.qL o) = .iface 254 (.agg #[.int .i64 1, .int .i64 0])) := by unfold Hid; rw [hc']; rfl
        have HW : Hid (zeM ss o = .iface 254 (.agg #[.int .i64 1, .int .i64 0])) := zfi (by unfold Gate.whole; rw [hc']; simp)
        clear hc hc'
        go_wp2_with fail
        refine (zcy HV.out (zdF _ _ _ _ _ _ _ _ _ hor)).mono ?_
        rintro e w1 ⟨rfl, hb1⟩
        go_wp2_with fail
        go_ret
        exact ⟨by rw [HW.out]; rfl, hB.trans (hb1.mono (by omega))⟩
    · by_cases hc : Gate.y5 o = true
      · have HV : Hid (jC (Gate.y5 o) = .nilIface) := by unfold Hid; rw [hc]; rfl
        have HS : Hid (stage ss o (2 + 1) = true) := by
          have h0 := HStg.out
          simp only [stage] at h0 ⊢
          simp [h0, hc, Hid]
        clear hc
        go_wp2_with fail
        refine (zcy HV.out (zcJ _ _ _ _ _ _ _ _ _)).mono ?_
        rintro e w1 ⟨rfl, hb1⟩
        go_wp2_with fail
        exact ⟨⟨2 + 1, by omega, by rfl, HS.out, hBr.trans (hb1.mono (by omega))⟩, by simp [intOf]⟩
      · have hc' : (Gate.y5 o) = false := by simpa using hc
        have HV : Hid (jC (Gate.y5 o) = .iface 254 (.agg #[.int .i64 1, .int .i64 0])) := by unfold Hid; rw [hc']; rfl
        have HW : Hid (zeM ss o = .iface 254 (.agg #[.int .i64 1, .int .i64 0])) := zfi (by unfold Gate.whole; rw [hc']; simp)
        clear hc hc'
        go_wp2_with fail
        refine (zcy HV.out (zcJ _ _ _ _ _ _ _ _ _)).mono ?_
        rintro e w1 ⟨rfl, hb1⟩
        go_wp2_with fail
        go_ret
        exact ⟨by rw [HW.out]; rfl, hB.trans (hb1.mono (by omega))⟩
    · by_cases hc : Gate.zy ss o = true
      · have HV : Hid (jC (Gate.zy ss o) = .nilIface) := by unfold Hid; rw [hc]; rfl
        have HS : Hid (stage ss o (3 + 1) = true) := by
          have h0 := HStg.out
          simp only [stage, Gate.whole] at h0 ⊢
          simp [h0, hc, Hid]
        clear hc
        go_wp2_with fail
        refine (zcy HV.out (zdA _ _ _ _ _ _ _ _ _ hwr hor)).mono ?_
        rintro e w1 ⟨rfl, hb1⟩
        go_wp2_with fail
        exact ⟨⟨3 + 1, by omega, by rfl, HS.out, hBr.trans (hb1.mono (by omega))⟩, by simp [intOf]⟩
      · have hc' : (Gate.zy ss o) = false := by simpa using hc
        have HV : Hid (jC (Gate.zy ss o) = .iface 254 (.agg #[.int .i64 1, .int .i64 0])) := by unfold Hid; rw [hc']; rfl
        have HW : Hid (zeM ss o = .iface 254 (.agg #[.int .i64 1, .int .i64 0])) := zfi (by unfold Gate.whole; rw [hc']; simp)
        clear hc hc'
        go_wp2_with fail
        refine (zcy HV.out (zdA _ _ _ _ _ _ _ _ _ hwr hor)).mono ?_
        rintro e w1 ⟨rfl, hb1⟩
        go_wp2_with fail
        go_ret
        exact ⟨by rw [HW.out]; rfl, hB.trans (hb1.mono (by omega))⟩
    · have hwh : Gate.whole ss o = true := HStg.out
      have HW : Hid (zeM ss o = zjW (Gate.jy (Gate.shapeOf ss o.kd).fs o.vs).1 (Gate.jy (Gate.shapeOf ss o.kd).fs o.vs).2) := zhy hwh
      by_cases hc : (Gate.jy (Gate.shapeOf ss o.kd).fs o.vs).1 = 0
      · have HV : Hid (zjW (Gate.jy (Gate.shapeOf ss o.kd).fs o.vs).1 (Gate.jy (Gate.shapeOf ss o.kd).fs o.vs).2 = .nilIface) := by unfold Hid; rw [hc]; rfl
        have HS : Hid (stage ss o (4 + 1) = true) := by
          simp [stage, hwh, hc, Hid]
        have HCt : Hid (o.vs.length = (Gate.shapeOf ss o.kd).fs.length) := zdR hwh
        clear hc hwh
        go_wp2_with fail
        refine (zcy HV.out (zdo _ _ _ _ _ _ _ _ _ hwr hor HCt.out)).mono ?_
        rintro e w1 ⟨rfl, hb1⟩
        go_wp2_with fail
        exact ⟨⟨4 + 1, by omega, by rfl, HS.out, hBr.trans (hb1.mono (by omega))⟩, by simp [intOf]⟩
      · have HV : Hid (zjW (Gate.jy (Gate.shapeOf ss o.kd).fs o.vs).1 (Gate.jy (Gate.shapeOf ss o.kd).fs o.vs).2 = .iface 254 (.agg #[.int .i64 (Gate.jy (Gate.shapeOf ss o.kd).fs o.vs).1, .int .i64 (Gate.jy (Gate.shapeOf ss o.kd).fs o.vs).2])) := zjX hc
        have HCt : Hid (o.vs.length = (Gate.shapeOf ss o.kd).fs.length) := zdR hwh
        clear hc hwh
        go_wp2_with fail
        refine (zcy HV.out (zdo _ _ _ _ _ _ _ _ _ hwr hor HCt.out)).mono ?_
        rintro e w1 ⟨rfl, hb1⟩
        go_wp2_with fail
        go_ret
        exact ⟨by rw [HW.out, HV.out]; rfl, hB.trans (hb1.mono (by omega))⟩
    · have HW : Hid (zeM ss o = .nilIface) := by
        have h0 := HStg.out
        simp only [stage, Bool.and_eq_true, decide_eq_true_eq] at h0
        unfold Hid; rw [zhy h0.1, h0.2]; rfl
      go_wp2_with fail
      go_ret
      exact ⟨by rw [HW.out]; rfl, hB⟩
end Go.Proofs.YtnbpglbbjnkhpaaGreat
