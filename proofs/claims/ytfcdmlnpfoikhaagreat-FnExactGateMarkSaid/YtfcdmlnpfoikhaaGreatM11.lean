import Derived.Test.YtfcdmlnpfoikhaaGreatM02
import Derived.Test.YtfcdmlnpfoikhaaGreatM03
import Derived.Deep.QuietTactic
import Derived.BigQuiet
import Derived.Test.YtfcdmlnpfoikhaaGreatM04
import Derived.Deep.RegionWith
import Derived.Test.YtfcdmlnpfoikhaaGreatRows
import Derived.WalkKit
import Derived.WalkSpells
import Derived.WalkLawsBesides
namespace Go.Proofs.YtfcdmlnpfoikhaaGreat
open Go.RowKit
set_option maxHeartbeats 1000000 in
theorem zdw (a : Option Addr) (cap : Nat) (ws : List ByteArray) (w : World) (hw : zB w a ws) :
    Calls Tryz.prog 124 #[.slice a ws.length cap] w fun e w' => e = .returned (.bool (Gate.asc ws)) /\ ∃ n, w' = w.drewN n := by
  have hl := hw.len
  unfold maxLen at hl
  go_enter Tryz.func124, Tryz.ntmps124
  go_wp2
  go_loopw [3] (fun i wr => ∃ k : Nat, k <= ws.length /\ i = .int .i64 k /\ Gate.up (Gate.zcN ws) k = true /\ ∃ n, wr = w.drewN n) (fun i _ => ws.length - (intOf i).toNat)
  case atStart => exact ⟨0, Nat.zero_le _, rfl, rfl, 0, rfl⟩
  case round =>
    obtain ⟨k, hk, rfl, hup, hwr⟩ := hrel
    have HW : Hid (∃ n, wr = w.drewN n) := hwr
    by_cases hlt : k < ws.length
    · obtain ⟨b, off, rfl, hb, hc0⟩ := hw.cells (by rintro rfl; simp at hlt)
      have hc : ∀ i (h : i < ws.length), wr.cell? ⟨b, off + i, none⟩ = some (.string ws[i]) := by obtain ⟨n, rfl⟩ := hwr; exact hc0
      have hsm := hw.small _ (List.getElem_mem hlt)
      clear hw hc0 hwr
      have hck := hc k hlt
      have hltI : (k : Int) < (ws.length : Int) := by omega
      by_cases hn : Gate.zy ws[k] = true
      · have hn' := hn
        by_cases hk0 : k = 0
        · have HF : Hid (Gate.up (Gate.zcN ws) (k + 1) = true) := by subst hk0; unfold Hid; rw [Gate.jF, Gate.zgH hlt hn]; rfl
          have hg : decide (0 < k) = false := by simp; omega
          clear hn hc hup hk0
          go_wp2
          go_quiet ((go_at_call 95; exact Calls.quiet_of_same (zw hn' (zQ _ _ hsm))))
          go_wp2
          obtain ⟨n, rfl⟩ := HW.out
          exact ⟨⟨k + 1, by omega, by go_num, HF.out, n + nq, by simp⟩, by simp [intOf]; omega⟩
        · obtain ⟨m, rfl⟩ : ∃ m, k = m + 1 := ⟨k - 1, by omega⟩
          have hcm := hc m (by omega)
          have HU : Hid (Gate.up (Gate.zcN ws) (m + 1 + 1) = Gate.less ws[m] ws[m + 1]) := by unfold Hid; rw [Gate.jF, hup, Gate.zdd hlt hn]; rfl
          have HN : Hid (Gate.less ws[m] ws[m + 1] = false -> Gate.asc ws = false) := fun h => Gate.za4 hlt (by rw [Gate.zdd hlt hn]; exact h)
          clear hn hc hup hk0
          by_cases hls : Gate.less ws[m] ws[m + 1] = true
          · have hls' : Op.bytesLess ws[m].toList ws[m + 1].toList = true := hls
            have HLS : Hid (Gate.less ws[m] ws[m + 1] = true) := hls
            clear hls
            go_wp2
            go_quiet ((go_at_call 95; exact Calls.quiet_of_same (zw hn' (zQ _ _ hsm))))
            go_wp2
            obtain ⟨n, rfl⟩ := HW.out
            exact ⟨⟨m + 1 + 1, by omega, by go_num, by rw [HU.out, HLS.out], n + nq, by simp⟩, by simp [intOf]; omega⟩
          · have hls' : Op.bytesLess ws[m].toList ws[m + 1].toList = false := by simpa [Gate.less] using hls
            have HLS : Hid (Gate.less ws[m] ws[m + 1] = false) := hls'
            clear hls
            go_wp2
            go_quiet ((go_at_call 95; exact Calls.quiet_of_same (zw hn' (zQ _ _ hsm))))
            go_wp2
            go_ret
            refine ⟨ze (HN.out HLS.out).symm, ?_⟩
            obtain ⟨n, rfl⟩ := HW.out
            exact ⟨n + nq, by simp⟩
      · have hn' : Gate.zy ws[k] = false := by simpa using hn
        have HF : Hid (Gate.asc ws = false) := Gate.za4 hlt (Gate.zii hlt hn')
        clear hn hc hup
        go_wp2
        go_quiet ((go_at_call 95; exact Calls.quiet_of_same (zw hn' (zQ _ _ hsm))))
        go_wp2
        go_ret
        refine ⟨ze HF.out.symm, ?_⟩
        obtain ⟨n, rfl⟩ := HW.out
        exact ⟨n + nq, by simp⟩
    · have HF : Hid (Gate.asc ws = true) := by
        have e : k = ws.length := by omega
        subst e; exact hup
      clear hw hup hwr
      go_wp2
      go_ret
      exact ⟨ze HF.out.symm, HW.out⟩
end Go.Proofs.YtfcdmlnpfoikhaaGreat

namespace Go.Proofs.YtfcdmlnpfoikhaaGreat
open Go.RowKit
set_option maxHeartbeats 2000000 in
theorem zfI (a a' : Option Addr) (cap cap' : Nat) (fs : List Fld) (w : World) (hw : zY w a fs) (hw' : zY w a' fs) :
    Calls Tryz.prog 115 #[.slice a fs.length cap, .slice a' fs.length cap'] w fun e w' => e = .returned (.bool true) /\ Below w.heap.size w w' := by
  have hl := hw.len
  unfold maxLen at hl
  have hnn : ((fs.length : Int) != fs.length) = false := by simp
  go_enter Tryz.func115, Tryz.ntmps115
  go_wp2_with fail
  go_loopw [5] (fun i wr => ∃ k : Nat, k <= fs.length /\ i = .int .i64 k /\ Below w.heap.size w wr) (fun i _ => fs.length - (intOf i).toNat)
  case atStart => exact ⟨0, Nat.zero_le _, rfl, Below.refl _ _⟩
  case round =>
    obtain ⟨k, hk, rfl, hB⟩ := hrel
    by_cases hlt : k < fs.length
    · obtain ⟨b, off, rfl, hb, hr⟩ := hw.rows (by rintro rfl; simp at hlt)
      obtain ⟨b', off', rfl, hb', hr'⟩ := hw'.rows (by rintro rfl; simp at hlt)
      obtain ⟨wa, wcap, hf0⟩ := hr k hlt
      obtain ⟨wa', wcap', hf0'⟩ := hr' k hlt
      have hf := hf0.mono hb hB
      have hf' := hf0'.mono hb' hB
      obtain ⟨c0, c1, c2, c3, c4, c5, c6, c7, c8, c9, c10⟩ := hf.load
      obtain ⟨d0, d1, d2, d3, d4, d5, d6, d7, d8, d9, d10⟩ := hf'.load
      have hst := hf.strs
      have hst' := hf'.strs
      have hltI : (k : Int) < (fs.length : Int) := by omega
      clear hw hw' hr hr' hf0 hf0' hf hf'
      go_wp2_with fail
      go_region_with (go_at_call 164; refine (zhp _ _ _ _ _ _ _ _ _ _ _ _ _ _ _ _ (by exact hst.mono ((Below.refl _ _).drew)) (by exact hst'.mono ((Below.refl _ _).drew))).mono ?_; rintro e w1 ⟨rfl, hb1'⟩; have hb1 := (Below.refl wr.heap.size wr).drew.trans hb1'; clear hb1')
      all_goals go_wp2_with fail
      all_goals exact ⟨⟨k + 1, by omega, by go_num, hB.trans (hb1.mono hB.size)⟩, by simp [intOf]; omega⟩
    · clear hw hw'
      go_wp2_with fail
      go_ret
      exact ⟨rfl, hB⟩
set_option maxHeartbeats 1000000 in
theorem zgS (kd : ByteArray) (a a' : Option Addr) (cap cap' : Nat) (fs : List Fld) (w : World) (hw : zY w a fs) (hw' : zY w a' fs) :
    Calls Tryz.prog 73 #[.agg #[.string kd, .slice a fs.length cap], .agg #[.string kd, .slice a' fs.length cap']] w fun e w' => e = .returned (.bool true) /\ Below w.heap.size w w' := by
  go_enter Tryz.func73, Tryz.ntmps73
  go_wp2_with fail
  refine (zfI _ _ _ _ _ _ (hw.mono (zq _ _ _)) (hw'.mono (zq _ _ _))).mono ?_
  rintro e w1 ⟨rfl, hb1⟩
  go_wp2_with fail
  go_ret
  exact ⟨rfl, (zq _ _ _).trans (hb1.mono (by simp; omega))⟩
set_option maxHeartbeats 2000000 in
theorem zgg (a a' : Option Addr) (cap cap' : Nat) (ss : List Shp) (w : World) (hw : yE w a ss) (hw' : yE w a' ss) :
    Calls Tryz.prog 35 #[.slice a ss.length cap, .slice a' ss.length cap'] w fun e w' => e = .returned (.bool true) /\ Below w.heap.size w w' := by
  have hl := hw.len
  unfold maxLen at hl
  have hnn : ((ss.length : Int) != ss.length) = false := by simp
  go_enter Tryz.func35, Tryz.ntmps35
  go_wp2_with fail
  go_loopw [5] (fun i wr => ∃ k : Nat, k <= ss.length /\ i = .int .i64 k /\ Below w.heap.size w wr) (fun i _ => ss.length - (intOf i).toNat)
  case atStart => exact ⟨0, Nat.zero_le _, rfl, Below.refl _ _⟩
  case round =>
    obtain ⟨k, hk, rfl, hB⟩ := hrel
    by_cases hlt : k < ss.length
    · obtain ⟨b, off, rfl, hb, hr⟩ := hw.rows (by rintro rfl; simp at hlt)
      obtain ⟨b', off', rfl, hb', hr'⟩ := hw'.rows (by rintro rfl; simp at hlt)
      obtain ⟨wa, wcap, hf0⟩ := hr k hlt
      obtain ⟨wa', wcap', hf0'⟩ := hr' k hlt
      have hf := hf0.mono hb hB
      have hf' := hf0'.mono hb' hB
      have c0 := hf.kind
      have c1 := hf.list
      have d0 := hf'.kind
      have d1 := hf'.list
      have hst := hf.zcn
      have hst' := hf'.zcn
      have hltI : (k : Int) < (ss.length : Int) := by omega
      clear hw hw' hr hr' hf0 hf0' hf hf'
      go_wp2_with fail
      go_region_with (go_at_call 73; refine (zgS _ _ _ _ _ _ _ (by exact hst.mono ((Below.refl _ _).drew)) (by exact hst'.mono ((Below.refl _ _).drew))).mono ?_; rintro e w1 ⟨rfl, hb1'⟩; have hb1 := (Below.refl wr.heap.size wr).drew.trans hb1'; clear hb1')
      all_goals go_wp2_with fail
      all_goals exact ⟨⟨k + 1, by omega, by go_num, hB.trans (hb1.mono hB.size)⟩, by simp [intOf]; omega⟩
    · clear hw hw'
      go_wp2_with fail
      go_ret
      exact ⟨rfl, hB⟩
end Go.Proofs.YtfcdmlnpfoikhaaGreat

namespace Go.Proofs.YtfcdmlnpfoikhaaGreat
open Go.RowKit
set_option maxHeartbeats 1000000 in
theorem zdO (m : Tm) (left : Int) (w : World) (hm : m.Small) (h0 : 0 <= left) (h1 : left <= 1048576) :
    Calls Tryz.prog 51 #[.agg m.cells, .int .i64 left] w fun e w' => e = .returned (.int .i64 (zF m.sz left)) /\ Below w.heap.size w w' := by
  have k1 := hm.nm
  have k2 := hm.ov
  unfold maxLen at k1 k2
  unfold Tm.cells
  have hB : ∀ ob, Below w.heap.size w (w.alloc ob) := fun ob => (Below.refl _ _).alloc (Nat.le_refl _) _
  by_cases hf : (m.sz : Int) <= left
  · have HF : Hid (zF m.sz left = left - m.nm.size - m.ov.size) := by
      unfold Hid; rw [zG hf]; unfold Tm.sz; omega
    unfold Tm.sz at hf
    go_enter Tryz.func51, Tryz.ntmps51
    go_wp2_with fail
    go_ret
    exact ⟨zl HF.out.symm, hB _⟩
  · have HF : Hid (zF m.sz left = -1) := zx hf
    have HN : Hid (¬ ((m.nm.size + m.ov.size : Nat) : Int) <= left) := hf
    clear hf
    go_enter Tryz.func51, Tryz.ntmps51
    go_wp2_with fail
    all_goals go_ret
    all_goals first | exact ⟨zl HF.out.symm, hB _⟩ | (exfalso; have := HN.out; simp at *; omega)
theorem zhA (m : Tm) (left : Int) (w : World) (hm : m.Small) (h0 : 0 <= left) (h1 : left <= 1048576) (h : (m.sz : Int) <= left) :
    Calls Tryz.prog 51 #[.agg m.cells, .int .i64 left] w fun e w' => e = .returned (.int .i64 (left - m.sz)) /\ Below w.heap.size w w' := by
  refine (zdO m left w hm h0 h1).mono ?_
  rintro e w' ⟨rfl, hb⟩
  exact ⟨zl (zG h), hb⟩
theorem zju (m : Tm) (left : Int) (w : World) (hm : m.Small) (h0 : 0 <= left) (h1 : left <= 1048576) (h : ¬ (m.sz : Int) <= left) :
    Calls Tryz.prog 51 #[.agg m.cells, .int .i64 left] w fun e w' => e = .returned (.int .i64 (-1)) /\ Below w.heap.size w w' := by
  refine (zdO m left w hm h0 h1).mono ?_
  rintro e w' ⟨rfl, hb⟩
  exact ⟨zl (zx h), hb⟩
set_option maxHeartbeats 1000000 in
theorem zgZ (a : Option Addr) (cap : Nat) (ts : List Tm) (left : Int) (w : World) (hw : jg w a ts) (h0 : 0 <= left) (h1 : left <= 1048576) :
    Calls Tryz.prog 19 #[.slice a ts.length cap, .int .i64 left] w fun e w' => e = .returned (.int .i64 (zF (zcg ts) left)) /\ Below w.heap.size w w' := by
  have hl := hw.len
  unfold maxLen at hl
  by_cases hfit : (ts.length : Int) <= left
  · go_enter Tryz.func19, Tryz.ntmps19
    go_wp2_with fail
    go_loopw [1, 5] (fun l i wr => ∃ k : Nat, k <= ts.length /\ i = .int .i64 k /\ 0 <= left - ts.length - zgR (ts.take k) /\ l = .int .i64 (left - ts.length - zgR (ts.take k)) /\ Below w.heap.size w wr) (fun _ i _ => ts.length - (intOf i).toNat)
    case atStart => exact ⟨0, Nat.zero_le _, rfl, by simp [zgR]; omega, by simp [zgR], Below.refl _ _⟩
    case round =>
      obtain ⟨k, hk, rfl, hpos, rfl, hB⟩ := hrel
      by_cases hlt : k < ts.length
      · obtain ⟨b, off, rfl, hb, c0, c1⟩ := hw.load hB k hlt
        have hsm := hw.small k hlt
        have HS : Hid (zgR (ts.take (k + 1)) = zgR (ts.take k) + ts[k].sz) := zaA Tm.sz ts k hlt
        have hle : zgR (ts.take (k + 1)) <= zgR ts := zb0 Tm.sz ts (k + 1)
        clear hw
        by_cases hneg : (ts[k].sz : Int) <= left - ts.length - zgR (ts.take k)
        · have HNG : Hid ((ts[k].sz : Int) <= left - ts.length - zgR (ts.take k)) := hneg
          clear hle
          go_wp2_with fail
          refine (zhA _ _ _ hsm hpos (by omega) HNG.out).mono ?_
          rintro e w1 ⟨rfl, hb1⟩
          have hB1 := hB.trans (hb1.mono hB.size)
          clear hb1
          go_wp2_with fail
          exact ⟨⟨k + 1, by omega, by go_num, by rw [HS.out]; omega, by rw [HS.out]; congr 1; omega, hB1⟩, by simp [intOf]; omega⟩
        · have HF : Hid (zF (zcg ts) left = -1) := zx (by have := HS.out; unfold zcg; omega)
          have HNG := hid hneg
          clear hneg hle
          go_wp2_with fail
          refine (zju _ _ _ hsm hpos (by omega) (by have := HNG.out; omega)).mono ?_
          rintro e w1 ⟨rfl, hb1⟩
          have hB1 := hB.trans (hb1.mono hB.size)
          clear hb1
          go_wp2_with fail
          go_ret
          exact ⟨zl HF.out.symm, hB1⟩
      · have HF : Hid (zF (zcg ts) left = left - ts.length - zgR (ts.take k)) := by
          rw [List.take_of_length_le (by omega)] at hpos ⊢
          have e : zF (zcg ts) left = left - zcg ts := zG (by unfold zcg; omega)
          unfold Hid; rw [e]; unfold zcg; omega
        clear hw
        go_wp2
        go_ret
        exact ⟨zl HF.out.symm, hB⟩
  · have HF : Hid (zF (zcg ts) left = -1) := zx (by unfold zcg; omega)
    clear hw
    go_enter Tryz.func19, Tryz.ntmps19
    go_wp2
    go_ret
    exact ⟨zl HF.out.symm, Below.refl _ _⟩
theorem ziq (m : Tm) (w : World) : Calls Tryz.prog 75 #[.agg m.cells, .agg m.cells] w fun e w' => e = .returned (.bool true) /\ Below w.heap.size w w' := by
  unfold Tm.cells
  go_enter Tryz.func75, Tryz.ntmps75
  go_wp2_with fail
  go_ret
  exact ⟨rfl, zq _ _ _⟩
set_option maxHeartbeats 2000000 in
theorem zg5 (a a' : Option Addr) (cap cap' : Nat) (ts : List Tm) (w : World) (hw : jg w a ts) (hw' : jg w a' ts) :
    Calls Tryz.prog 37 #[.slice a ts.length cap, .slice a' ts.length cap'] w fun e w' => e = .returned (.bool true) /\ Below w.heap.size w w' := by
  have hl := hw.len
  unfold maxLen at hl
  have hnn : ((ts.length : Int) != ts.length) = false := by simp
  go_enter Tryz.func37, Tryz.ntmps37
  go_wp2_with fail
  go_loopw [5] (fun i wr => ∃ k : Nat, k <= ts.length /\ i = .int .i64 k /\ Below w.heap.size w wr) (fun i _ => ts.length - (intOf i).toNat)
  case atStart => exact ⟨0, Nat.zero_le _, rfl, Below.refl _ _⟩
  case round =>
    obtain ⟨k, hk, rfl, hB⟩ := hrel
    by_cases hlt : k < ts.length
    · obtain ⟨b, off, rfl, hb, c0, c1⟩ := hw.load hB k hlt
      obtain ⟨b', off', rfl, hb', d0, d1⟩ := hw'.load hB k hlt
      have hltI : (k : Int) < (ts.length : Int) := by omega
      clear hw hw'
      go_wp2_with fail
      go_region_with (go_at_call 75; refine (ziq ts[k] _).mono ?_; rintro e w1 ⟨rfl, hb1'⟩; have hb1 := (Below.refl wr.heap.size wr).drew.trans hb1'; clear hb1')
      all_goals go_wp2_with fail
      all_goals exact ⟨⟨k + 1, by omega, by go_num, hB.trans (hb1.mono hB.size)⟩, by simp [intOf]; omega⟩
    · clear hw hw'
      go_wp2_with fail
      go_ret
      exact ⟨rfl, hB⟩
set_option maxHeartbeats 1000000 in
theorem zis (m : Tm) (w : World) :
    Calls Tryz.prog 64 #[.agg m.cells] w fun e w' => e = .returned (.agg m.cells) /\ Below w.heap.size w w' := by
  unfold Tm.cells
  go_enter Tryz.func64, Tryz.ntmps64
  go_wp2_with fail
  refine bodyPost_ret (v := .agg #[.string m.nm, .string m.ov]) (by simp [results, Tryz.results64, go_sem]) rfl ⟨rfl, ?_⟩
  exact ((((Below.refl _ _).alloc (Nat.le_refl _) _).alloc (by simp) _).alloc (by simp; omega) _)
set_option maxHeartbeats 2000000 in
theorem zgV (a : Option Addr) (cap : Nat) (ts : List Tm) (w : World) (hw : jg w a ts) (hl : ts.length <= 1048576) :
    Calls Tryz.prog 28 #[.slice a ts.length cap] w fun e w' => e = .returned (.slice (some ⟨w.heap.size, 0, none⟩) ts.length ts.length) /\ jM 123 w.heap.size w' w.heap.size ts ts.length /\ Below w.heap.size w w' := by
  have hmk : ∀ w : World, (Instr.makeSlice 39 (.int .i64 ts.length) (.int .i64 ts.length)).run Tryz.prog w = .ok (.slice (some ⟨w.heap.size, 0, none⟩) ts.length ts.length) (w.alloc (.cells (znu ts.length) 123)) :=
    fun w => qQ (P := Tryz.prog) 39 123 (.agg zoy) 2 32 Tryz.underlying39 (by kernel_rfl) ts.length (by omega) (by omega) w
  go_enter Tryz.func28, Tryz.ntmps28
  go_wp2_with fail
  clear hmk
  go_loopw [4] (fun i wr => ∃ k : Nat, k <= ts.length /\ i = .int .i64 k /\ jM 123 w.heap.size wr w.heap.size ts k /\ Below w.heap.size w wr) (fun i _ => ts.length - (intOf i).toNat)
  case atStart => exact ⟨0, Nat.zero_le _, rfl, ⟨Nat.le_refl _, znu ts.length, (MapKept.heap_alloc w _).1, size_madeCells _ _, fun i _ h => absurd h (by omega)⟩, (Below.refl _ _).alloc (Nat.le_refl _) _⟩
  case round =>
    obtain ⟨k, hk, rfl, hown, hB⟩ := hrel
    by_cases hlt : k < ts.length
    · obtain ⟨b, off, rfl, hb, c0, c1⟩ := hw.load hB k hlt
      have hltI : (k : Int) < (ts.length : Int) := by omega
      clear hw
      go_wp2_with fail
      refine (zis ts[k] _).mono ?_
      rintro e w1 ⟨rfl, hb1⟩
      have hB1 := hB.trans (hb1.mono hB.size)
      have hown1 := hown.later hb1
      have hbo : w.heap.size < wr.heap.size := by
        obtain ⟨C', hC', _⟩ := hown.rows
        exact (Array.getElem?_eq_some_iff.1 hC').1
      obtain ⟨C, hC, hsz, _⟩ := hown1.rows
      have hfz : ∀ o, w1.frozen? ⟨w.heap.size, o, none⟩ = false := fun o => zh hC
      have hex : ∀ o, o < ts.length * 2 -> ∃ v, w1.cell? ⟨w.heap.size, o, none⟩ = some v := fun o ho => ⟨C[o]'(by omega), by rw [cell_of_block hC]; exact Array.getElem?_eq_getElem (by omega)⟩
      obtain ⟨v0, hv0⟩ := hex (k * 2) (by omega)
      obtain ⟨v1, hv1⟩ := hex (k * 2 + 1) (by omega)
      have HP := hid hown1
      clear hex hC hsz c0 c1 hown hown1
      unfold Tm.cells
      go_wp2_with fail
      exact ⟨⟨k + 1, by omega, by go_num, HP.out.put hlt, zmJ hB1 (Nat.le_refl _) _ _ _⟩, by simp [intOf]; omega⟩
    · have HF : Hid (jM 123 w.heap.size wr w.heap.size ts ts.length) := by
        have e : k = ts.length := by omega
        subst e; exact hown
      clear hw hown
      go_wp2_with fail
      go_ret
      exact ⟨rfl, HF.out, hB⟩
end Go.Proofs.YtfcdmlnpfoikhaaGreat

namespace Go.Proofs.YtfcdmlnpfoikhaaGreat
open Go.RowKit
set_option maxHeartbeats 1000000 in
theorem za2 (a0 : Option Addr) (cap0 : Nat) (ss : List Shp) (o : Ob) (a a' : Option Addr) (cap cap' : Nat) (w : World) (hw : yE w a0 ss) (_ho : qL w o a a') (hc : Gate.zu ss o = true) :
    Calls Tryz.prog 93 #[.slice a0 ss.length cap0, .agg (oC o a a' cap cap')] w fun e w' => ∃ fa fcap, e = .returned (.tuple #[.slice fa (Gate.shapeOf ss o.kd).fs.length fcap, .bool true]) /\ zY w fa (Gate.shapeOf ss o.kd).fs /\ Below w.heap.size w w' := by
  unfold Gate.zu at hc
  simp only [Bool.and_eq_true, decide_eq_true_eq] at hc
  have HK := hid hc.1
  have HL := hid hc.2
  clear hc
  have hl := hw.len
  unfold maxLen at hl
  go_enter Tryz.func93, Tryz.ntmps93
  go_wp2_with fail
  refine (zaX _ _ _ _ _ (hw.mono ((Below.refl _ _).alloc (Nat.le_refl _) _)) HK.out).mono ?_
  rintro e w1 ⟨ix, hix, rfl, hsh, rfl⟩
  have HSh := hid hsh
  clear hsh
  obtain ⟨b, off, rfl, hb, hr⟩ := hw.rows (by rintro rfl; simp at hix)
  obtain ⟨fa, fcap, hs⟩ := hr ix hix
  have hcl := hs.list
  have hfl := hs.zcn
  have hixI : (ix : Int) < (ss.length : Int) := by omega
  have hix0 : decide ((ix : Int) < 0) = false := by simp
  have hneq : ((ss[ix].fs.length : Int) != (o.vs.length : Int)) = false := by have h1 := HL.out; have h2 := HSh.out; rw [h2] at h1; simp [h1]
  have hbw := hb
  clear hr hs
  go_wp2_with fail
  go_quiet (fail)
  go_wp2_with fail
  go_ret2
  rw [HSh.out]
  exact ⟨fa, fcap, rfl, hfl, below_drewN ((Below.refl _ _).alloc (Nat.le_refl _) _) _⟩
set_option maxHeartbeats 1000000 in
theorem zck (a0 : Option Addr) (cap0 : Nat) (ss : List Shp) (o : Ob) (a a' : Option Addr) (cap cap' : Nat) (w : World) (hw : yE w a0 ss) (_ho : qL w o a a') (hc : Gate.zu ss o = false) :
    Calls Tryz.prog 93 #[.slice a0 ss.length cap0, .agg (oC o a a' cap cap')] w fun e w' => ∃ v, e = .returned (.tuple #[v, .bool false]) /\ Below w.heap.size w w' := by
  have hl := hw.len
  unfold maxLen at hl
  by_cases hk : Gate.zD ss o.kd = true
  · have HK := hid hk
    have HL : Hid (¬ o.vs.length = (Gate.shapeOf ss o.kd).fs.length) := by unfold Gate.zu at hc; rw [hk] at hc; simpa [Hid] using hc
    clear hc hk
    go_enter Tryz.func93, Tryz.ntmps93
    go_wp2_with fail
    refine (zaX _ _ _ _ _ (hw.mono ((Below.refl _ _).alloc (Nat.le_refl _) _)) HK.out).mono ?_
    rintro e w1 ⟨ix, hix, rfl, hsh, rfl⟩
    have HSh := hid hsh
    clear hsh
    obtain ⟨b, off, rfl, hb, hr⟩ := hw.rows (by rintro rfl; simp at hix)
    obtain ⟨fa, fcap, hs⟩ := hr ix hix
    have hcl := hs.list
    have hixI : (ix : Int) < (ss.length : Int) := by omega
    have hix0 : decide ((ix : Int) < 0) = false := by simp
    have hneq : ((ss[ix].fs.length : Int) != (o.vs.length : Int)) = true := by have h1 := HL.out; have h2 := HSh.out; rw [h2] at h1; rw [bne_iff_ne]; omega
    have hbw := hb
    clear hr hs
    go_wp2_with fail
    go_quiet (fail)
    go_wp2_with fail
    go_ret2
    exact ⟨_, rfl, below_drewN (zq _ _ _) _⟩
  · have HK : Hid (Gate.zD ss o.kd = false) := by simpa [Hid] using hk
    clear hc hk
    go_enter Tryz.func93, Tryz.ntmps93
    go_wp2_with fail
    refine (zeI _ _ _ _ _ (hw.mono ((Below.refl _ _).alloc (Nat.le_refl _) _)) HK.out).mono ?_
    rintro e w1 ⟨rfl, rfl⟩
    go_wp2_with fail
    go_quiet (fail)
    go_wp2_with fail
    go_ret2
    exact ⟨_, rfl, below_drewN (zq _ _ _) _⟩
end Go.Proofs.YtfcdmlnpfoikhaaGreat
