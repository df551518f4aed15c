import Derived.Test.YtfpeplbmfbepcaaGreatM26
import Derived.Deep.RegionWith
import Derived.Deep.QuietTactic
import Derived.BigQuiet
namespace Go.Proofs.YtfpeplbmfbepcaaGreat
open Go.RowKit
theorem zlq {c p : Int} (h : c ≠ 0) : zkN c p = .iface 279 (.agg #[.int .i64 c, .int .i64 p]) := by simp [zkN, h]
set_option maxHeartbeats 4000000 in
theorem zdP (a0 : Option Addr) (cap0 : Nat) (ss : List Shp) (o : Ob) (a a' : Option Addr) (cap cap' : Nat) (w : World) (hw : yI w a0 ss) (ho : qR w o a a') (hcnt : o.vs.length = (Gate.shapeOf ss o.kd).fs.length) :
    Calls Tryz.prog 213 #[.slice a0 ss.length cap0, .agg (oC o a a' cap cap')] w
      fun e w' => e = .returned (zkN (Gate.qZ (Gate.shapeOf ss o.kd).fs o.vs).1 (Gate.qZ (Gate.shapeOf ss o.kd).fs o.vs).2) /\ Below w.heap.size w w' := by
  have HC := hid hcnt
  clear hcnt
  go_enter Tryz.func213, Tryz.ntmps213
  go_wp2_with fail
  refine (zb8 _).mono ?_
  rintro e w0 ⟨rfl, hw0⟩
  have hX0 : ∀ j, w0.cell? ⟨w.heap.size, j, none⟩ = (oC o a a' cap cap')[j]? := fun j => by
    rw [hw0, World.cell?_alloc_lt _ _ ⟨w.heap.size, j, none⟩ (by simp)]; exact zG w _ _ j
  have hm0 : w0.heap[w.heap.size + 1]? = some (.map qI 4) := by
    rw [hw0]; have := alloc_at (w.alloc (.cells (oC o a a' cap cap') 119)) (.map qI 4); simpa using this
  have hB00 : Below w.heap.size w w0 := by rw [hw0]; exact zn _ _ _
  have hz0 : w.heap.size + 1 < w0.heap.size := by rw [hw0]; simp
  clear hw0
  simp only [World.size_alloc]
  have hzz : w.heap.size < w0.heap.size := by omega
  go_wp2_with fail
  refine (qC _ _ _ _ _ (hw.mono hB00)).mono ?_
  rintro e w1 ⟨fa, fcap, rfl, hfl0, hb1⟩
  have hX1 := za hX0 hzz hb1
  have hm1 := (hb1.block _ hz0).trans hm0
  have hz1 : w.heap.size + 1 < w1.heap.size := by have := hb1.size; omega
  have hB01 := hB00.trans (hb1.mono (by omega))
  have hfl1 := hfl0.mono hb1
  clear hX0 hm0 hb1 hfl0 hz0 hzz
  generalize hfs : (Gate.shapeOf ss o.kd).fs = fs at *
  have hlen := hfl1.len
  unfold maxLen at hlen
  go_wp2_with fail
  go_loopw [22] (fun i wr => ∃ k : Nat, k <= fs.length /\ i = .int .i64 k /\ Gate.up (Gate.zaN fs o.vs) k = true /\ Below w1.heap.size w1 wr) (fun i _ => fs.length - (intOf i).toNat)
  case atStart => exact ⟨0, Nat.zero_le _, rfl, rfl, (Below.refl _ _).alloc (Nat.le_refl _) _⟩
  case round =>
    obtain ⟨k, hk, rfl, hup, hBr⟩ := hrel
    have hszr := hBr.size
    have hB : Below w.heap.size w wr := hB01.trans (hBr.mono (by omega))
    by_cases hlt : k < fs.length
    · have hXr := za hX1 (by omega) hBr
      have hmr := (hBr.block _ hz1).trans hm1
      obtain ⟨b, off, rfl, hb, hr⟩ := hfl1.rows (by rintro rfl; simp at hlt)
      obtain ⟨wa, wcap, hf0⟩ := hr k hlt
      have hf := hf0.mono hb hBr
      obtain ⟨c0, c1, c2, c3, c4, c5, c6, c7, c8, c9, c10⟩ := hf.load
      have hst := hf.strs
      have hltv : k < o.vs.length := by rw [HC.out]; exact hlt
      obtain ⟨vb, voff, rfl, hvb, hvc⟩ := ho.vals.cells (by intro h; rw [h] at hltv; simp at hltv)
      have hcv := (hB.cell (p := ⟨vb, voff + k, none⟩) hvb).trans (hvc k hltv)
      have hvs := ho.vals.small _ (List.getElem_mem hltv)
      have hltI : (k : Int) < (fs.length : Int) := by omega
      have hltV : (k : Int) < (o.vs.length : Int) := by omega
      have hbr : b < wr.heap.size := by omega
      have hvbr : vb < wr.heap.size := by omega
      have hwr1 : w.heap.size < wr.heap.size := by omega
      have HFX := hid (Gate.zi6 hlt hltv)
      have HS : Hid (Gate.zah fs[k] o.vs[k] = 0 -> Gate.up (Gate.zaN fs o.vs) (k + 1) = true) := fun h => by
        rw [Gate.jG, hup]; unfold Gate.zaN; rw [HFX.out, h]; rfl
      have HN : Hid (∀ n : Int, n ≠ 0 -> Gate.zah fs[k] o.vs[k] = n -> zkN (Gate.qZ fs o.vs).1 (Gate.qZ fs o.vs).2 = .iface 279 (.agg #[.int .i64 n, .int .i64 k])) := fun n hn0 h => by
        rw [Gate.zkc hlt hup (by unfold Gate.zaN; rw [HFX.out, h]; simp [hn0]), HFX.out, h]; exact zlq hn0
      clear hX1 hm1 hr hf0 hf hup
      by_cases he : o.vs[k].size = 0
      · have hne : o.vs[k].toList.isEmpty = true := by rw [Gate.zu]; simp [he]
        have HE := hid he
        clear he
        by_cases hmu : fs[k].mu = true
        · have HM := hid hmu
          go_wp2_with fail
          go_ret
          have hv := HN.out 2 (by decide) (by unfold Gate.zah; rw [if_pos HE.out, if_pos HM.out])
          exact ⟨by rw [hfs, hv]; rfl, hB.alloc (by omega) _⟩
        · have hmu' : fs[k].mu = false := by simpa using hmu
          have HM := hid hmu'
          clear hmu
          go_wp2_with fail
          go_quiet (fail)
          go_wp2_with fail
          exact ⟨⟨k + 1, by omega, by go_num, HS.out (by unfold Gate.zah; rw [if_pos HE.out, HM.out]; rfl), below_drewN (hBr.alloc (by omega) _) _⟩, by simp [intOf]; omega⟩
      · have hne : o.vs[k].toList.isEmpty = false := by rw [Gate.zu]; simp [he]
        have HE : Hid (¬ o.vs[k].size = 0) := he
        clear he
        by_cases hfit : Gate.fits fs[k].kd fs[k].ls fs[k].ms fs[k].ws o.vs[k] = true
        all_goals
          first
            | (have HFT : Hid (Gate.fits fs[k].kd fs[k].ls fs[k].ms fs[k].ws o.vs[k] = true) := hfit)
            | (have HFT : Hid (Gate.fits fs[k].kd fs[k].ls fs[k].ms fs[k].ws o.vs[k] = false) := by simpa [Hid] using hfit)
          clear hfit
          go_wp2_with fail
          have hbx : Below wr.heap.size wr ((wr.alloc (.cells #[.string fs[k].nm, .int .i64 fs[k].kd, .int .i64 fs[k].ls, .int .i64 fs[k].ms, .slice wa fs[k].ws.length wcap, .string fs[k].to, .int .i64 fs[k].rl, .bool fs[k].mu, .bool fs[k].fx, .string fs[k].df, .string fs[k].wg] 165)).drew) := ((Below.refl _ _).alloc (Nat.le_refl _) _).drew
          have hmx := (hbx.block _ (by omega)).trans hmr
          have hstx := hst.mono hbx
          go_region_with (go_at_call 184; refine (zw HFT.out (zeD _ _ _ _ _ _ _ _ _ _ _ _ _ _ _ _ (by exact hmx) hvs (by exact hstx))).mono ?_; rintro e w3 ⟨rfl, hb3⟩)
          all_goals go_wp2_with fail
        all_goals have hB3 : Below wr.heap.size wr w3 := hbx.trans (hb3.mono (by simp))
        all_goals first
          | (have hft : Gate.fits fs[k].kd fs[k].ls fs[k].ms fs[k].ws o.vs[k] = true := HFT.out
             exact ⟨⟨k + 1, by omega, by go_num, HS.out (by unfold Gate.zah; rw [if_neg HE.out]; unfold Gate.zeT; rw [hft]; rfl), hBr.trans (hB3.mono hszr)⟩, by simp [intOf]; omega⟩)
          | (have hft : Gate.fits fs[k].kd fs[k].ls fs[k].ms fs[k].ws o.vs[k] = false := HFT.out
             go_ret
             have hv := HN.out 3 (by decide) (by unfold Gate.zah; rw [if_neg HE.out]; unfold Gate.zeT; rw [hft]; rfl)
             exact ⟨by rw [hfs, hv]; rfl, hB.trans (hB3.mono (by omega))⟩)
    · have HF : Hid (Gate.qZ fs o.vs = (0, 0)) := by
        have e : k = fs.length := by omega
        subst e; exact Gate.zhd hup
      clear hup
      go_wp2_with fail
      go_ret
      exact ⟨by rw [hfs, HF.out]; rfl, hB⟩
end Go.Proofs.YtfpeplbmfbepcaaGreat
