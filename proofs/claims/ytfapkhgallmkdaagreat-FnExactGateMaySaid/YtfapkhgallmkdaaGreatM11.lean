import Derived.Test.YtfapkhgallmkdaaGreatRows
import Derived.Test.YtfapkhgallmkdaaGreatM07
import Derived.Test.YtfapkhgallmkdaaGreatM04
import Derived.WalkKit
import Derived.WalkSpells
import Derived.WalkLawsBesides
import Derived.Deep.QuietTactic
import Derived.BigQuiet
import Derived.Deep.RegionWith
namespace Go.Proofs.YtfapkhgallmkdaaGreat
open Go.RowKit
set_option maxHeartbeats 1000000 in
theorem zdB (m : Tm) (left : Int) (w : World) (hm : m.Small) (h0 : 0 <= left) (h1 : left <= 1048576) :
    Calls Tryz.prog 41 #[.agg m.cells, .int .i64 left] w fun e w' => e = .returned (.int .i64 (zH m.sz left)) /\ Below w.heap.size w w' := by
  have k1 := hm.nm
  have k2 := hm.ov
  unfold maxLen at k1 k2
  unfold Tm.cells
  have hB : ∀ ob, Below w.heap.size w (w.alloc ob) := fun ob => (Below.refl _ _).alloc (Nat.le_refl _) _
  by_cases hf : (m.sz : Int) <= left
  · have HF : Hid (zH m.sz left = left - m.nm.size - m.ov.size) := by
      unfold Hid; rw [zI hf]; unfold Tm.sz; omega
    unfold Tm.sz at hf
    go_enter Tryz.func41, Tryz.ntmps41
    go_wp2_with fail
    go_ret
    exact ⟨zh HF.out.symm, hB _⟩
  · have HF : Hid (zH m.sz left = -1) := zw hf
    have HN : Hid (¬ ((m.nm.size + m.ov.size : Nat) : Int) <= left) := hf
    clear hf
    go_enter Tryz.func41, Tryz.ntmps41
    go_wp2_with fail
    all_goals go_ret
    all_goals first | exact ⟨zh HF.out.symm, hB _⟩ | (exfalso; have := HN.out; simp at *; omega)
theorem zhd (m : Tm) (left : Int) (w : World) (hm : m.Small) (h0 : 0 <= left) (h1 : left <= 1048576) (h : (m.sz : Int) <= left) :
    Calls Tryz.prog 41 #[.agg m.cells, .int .i64 left] w fun e w' => e = .returned (.int .i64 (left - m.sz)) /\ Below w.heap.size w w' := by
  refine (zdB m left w hm h0 h1).mono ?_
  rintro e w' ⟨rfl, hb⟩
  exact ⟨zh (zI h), hb⟩
theorem zi2 (m : Tm) (left : Int) (w : World) (hm : m.Small) (h0 : 0 <= left) (h1 : left <= 1048576) (h : ¬ (m.sz : Int) <= left) :
    Calls Tryz.prog 41 #[.agg m.cells, .int .i64 left] w fun e w' => e = .returned (.int .i64 (-1)) /\ Below w.heap.size w w' := by
  refine (zdB m left w hm h0 h1).mono ?_
  rintro e w' ⟨rfl, hb⟩
  exact ⟨zh (zw h), hb⟩
set_option maxHeartbeats 1000000 in
theorem zgC (a : Option Addr) (cap : Nat) (ts : List Tm) (left : Int) (w : World) (hw : qF w a ts) (h0 : 0 <= left) (h1 : left <= 1048576) :
    Calls Tryz.prog 16 #[.slice a ts.length cap, .int .i64 left] w fun e w' => e = .returned (.int .i64 (zH (zcd ts) left)) /\ Below w.heap.size w w' := by
  have hl := hw.len
  unfold maxLen at hl
  by_cases hfit : (ts.length : Int) <= left
  · go_enter Tryz.func16, Tryz.ntmps16
    go_wp2_with fail
    go_loopw [1, 5] (fun l i wr => ∃ k : Nat, k <= ts.length /\ i = .int .i64 k /\ 0 <= left - ts.length - zgv (ts.take k) /\ l = .int .i64 (left - ts.length - zgv (ts.take k)) /\ Below w.heap.size w wr) (fun _ i _ => ts.length - (intOf i).toNat)
    case atStart => exact ⟨0, Nat.zero_le _, rfl, by simp [zgv]; omega, by simp [zgv], Below.refl _ _⟩
    case round =>
      obtain ⟨k, hk, rfl, hpos, rfl, hB⟩ := hrel
      by_cases hlt : k < ts.length
      · obtain ⟨b, off, rfl, hb, c0, c1⟩ := hw.load hB k hlt
        have hsm := hw.small k hlt
        have HS : Hid (zgv (ts.take (k + 1)) = zgv (ts.take k) + ts[k].sz) := zar Tm.sz ts k hlt
        have hle : zgv (ts.take (k + 1)) <= zgv ts := zbW Tm.sz ts (k + 1)
        clear hw
        by_cases hneg : (ts[k].sz : Int) <= left - ts.length - zgv (ts.take k)
        · have HNG : Hid ((ts[k].sz : Int) <= left - ts.length - zgv (ts.take k)) := hneg
          clear hle
          go_wp2_with fail
          refine (zhd _ _ _ hsm hpos (by omega) HNG.out).mono ?_
          rintro e w1 ⟨rfl, hb1⟩
          have hB1 := hB.trans (hb1.mono hB.size)
          clear hb1
          go_wp2_with fail
          exact ⟨⟨k + 1, by omega, by go_num, by rw [HS.out]; omega, by rw [HS.out]; congr 1; omega, hB1⟩, by simp [intOf]; omega⟩
        · have HF : Hid (zH (zcd ts) left = -1) := zw (by have := HS.out; unfold zcd; omega)
          have HNG := hid hneg
          clear hneg hle
          go_wp2_with fail
          refine (zi2 _ _ _ hsm hpos (by omega) (by have := HNG.out; omega)).mono ?_
          rintro e w1 ⟨rfl, hb1⟩
          have hB1 := hB.trans (hb1.mono hB.size)
          clear hb1
          go_wp2_with fail
          go_ret
          exact ⟨zh HF.out.symm, hB1⟩
      · have HF : Hid (zH (zcd ts) left = left - ts.length - zgv (ts.take k)) := by
          rw [List.take_of_length_le (by omega)] at hpos ⊢
          have e : zH (zcd ts) left = left - zcd ts := zI (by unfold zcd; omega)
          unfold Hid; rw [e]; unfold zcd; omega
        clear hw
        go_wp2
        go_ret
        exact ⟨zh HF.out.symm, hB⟩
  · have HF : Hid (zH (zcd ts) left = -1) := zw (by unfold zcd; omega)
    clear hw
    go_enter Tryz.func16, Tryz.ntmps16
    go_wp2
    go_ret
    exact ⟨zh HF.out.symm, Below.refl _ _⟩
theorem zh0 (m : Tm) (w : World) : Calls Tryz.prog 69 #[.agg m.cells, .agg m.cells] w fun e w' => e = .returned (.bool true) /\ Below w.heap.size w w' := by
  unfold Tm.cells
  go_enter Tryz.func69, Tryz.ntmps69
  go_wp2_with fail
  go_ret
  exact ⟨rfl, zu _ _ _⟩
set_option maxHeartbeats 2000000 in
theorem zgI (a a' : Option Addr) (cap cap' : Nat) (ts : List Tm) (w : World) (hw : qF w a ts) (hw' : qF w a' ts) :
    Calls Tryz.prog 34 #[.slice a ts.length cap, .slice a' ts.length cap'] w fun e w' => e = .returned (.bool true) /\ Below w.heap.size w w' := by
  have hl := hw.len
  unfold maxLen at hl
  have hnn : ((ts.length : Int) != ts.length) = false := by simp
  go_enter Tryz.func34, Tryz.ntmps34
  go_wp2_with fail
  go_loopw [5] (fun i wr => ∃ k : Nat, k <= ts.length /\ i = .int .i64 k /\ Below w.heap.size w wr) (fun i _ => ts.length - (intOf i).toNat)
  case atStart => exact ⟨0, Nat.zero_le _, rfl, Below.refl _ _⟩
  case round =>
    obtain ⟨k, hk, rfl, hB⟩ := hrel
    by_cases hlt : k < ts.length
    · obtain ⟨b, off, rfl, hb, c0, c1⟩ := hw.load hB k hlt
      obtain ⟨b', off', rfl, hb', d0, d1⟩ := hw'.load hB k hlt
      have hltI : (k : Int) < (ts.length : Int) := by omega
      clear hw hw'
      go_wp2_with fail
      go_region_with (go_at_call 69; refine (zh0 ts[k] _).mono ?_; rintro e w1 ⟨rfl, hb1'⟩; have hb1 := (Below.refl wr.heap.size wr).drew.trans hb1'; clear hb1')
      all_goals go_wp2_with fail
      all_goals exact ⟨⟨k + 1, by omega, by go_num, hB.trans (hb1.mono hB.size)⟩, by simp [intOf]; omega⟩
    · clear hw hw'
      go_wp2_with fail
      go_ret
      exact ⟨rfl, hB⟩
set_option maxHeartbeats 1000000 in
theorem zh3 (m : Tm) (w : World) :
    Calls Tryz.prog 55 #[.agg m.cells] w fun e w' => e = .returned (.agg m.cells) /\ Below w.heap.size w w' := by
  unfold Tm.cells
  go_enter Tryz.func55, Tryz.ntmps55
  go_wp2_with fail
  refine bodyPost_ret (v := .agg #[.string m.nm, .string m.ov]) (by simp [results, Tryz.results55, go_sem]) rfl ⟨rfl, ?_⟩
  exact ((((Below.refl _ _).alloc (Nat.le_refl _) _).alloc (by simp) _).alloc (by simp; omega) _)
set_option maxHeartbeats 2000000 in
theorem zgz (a : Option Addr) (cap : Nat) (ts : List Tm) (w : World) (hw : qF w a ts) (hl : ts.length <= 1048576) :
    Calls Tryz.prog 25 #[.slice a ts.length cap] w fun e w' => e = .returned (.slice (some ⟨w.heap.size, 0, none⟩) ts.length ts.length) /\ jW 119 w.heap.size w' w.heap.size ts ts.length /\ Below w.heap.size w w' := by
  have hmk : ∀ w : World, (Instr.makeSlice 41 (.int .i64 ts.length) (.int .i64 ts.length)).run Tryz.prog w = .ok (.slice (some ⟨w.heap.size, 0, none⟩) ts.length ts.length) (w.alloc (.cells (zm9 ts.length) 119)) :=
    fun w => qR (P := Tryz.prog) 41 119 (.agg zoc) 2 32 Tryz.underlying41 (by kernel_rfl) ts.length (by omega) (by omega) w
  go_enter Tryz.func25, Tryz.ntmps25
  go_wp2_with fail
  clear hmk
  go_loopw [4] (fun i wr => ∃ k : Nat, k <= ts.length /\ i = .int .i64 k /\ jW 119 w.heap.size wr w.heap.size ts k /\ Below w.heap.size w wr) (fun i _ => ts.length - (intOf i).toNat)
  case atStart => exact ⟨0, Nat.zero_le _, rfl, ⟨Nat.le_refl _, zm9 ts.length, (MapKept.heap_alloc w _).1, size_madeCells _ _, fun i _ h => absurd h (by omega)⟩, (Below.refl _ _).alloc (Nat.le_refl _) _⟩
  case round =>
    obtain ⟨k, hk, rfl, hown, hB⟩ := hrel
    by_cases hlt : k < ts.length
    · obtain ⟨b, off, rfl, hb, c0, c1⟩ := hw.load hB k hlt
      have hltI : (k : Int) < (ts.length : Int) := by omega
      clear hw
      go_wp2_with fail
      refine (zh3 ts[k] _).mono ?_
      rintro e w1 ⟨rfl, hb1⟩
      have hB1 := hB.trans (hb1.mono hB.size)
      have hown1 := hown.later hb1
      have hbo : w.heap.size < wr.heap.size := by
        obtain ⟨C', hC', _⟩ := hown.rows
        exact (Array.getElem?_eq_some_iff.1 hC').1
      obtain ⟨C, hC, hsz, _⟩ := hown1.rows
      have hfz : ∀ o, w1.frozen? ⟨w.heap.size, o, none⟩ = false := fun o => zl hC
      have hex : ∀ o, o < ts.length * 2 -> ∃ v, w1.cell? ⟨w.heap.size, o, none⟩ = some v := fun o ho => ⟨C[o]'(by omega), by rw [cell_of_block hC]; exact Array.getElem?_eq_getElem (by omega)⟩
      obtain ⟨v0, hv0⟩ := hex (k * 2) (by omega)
      obtain ⟨v1, hv1⟩ := hex (k * 2 + 1) (by omega)
      have HP := hid hown1
      clear hex hC hsz c0 c1 hown hown1
      unfold Tm.cells
      go_wp2_with fail
      exact ⟨⟨k + 1, by omega, by go_num, HP.out.put hlt, zmq hB1 (Nat.le_refl _) _ _ _⟩, by simp [intOf]; omega⟩
    · have HF : Hid (jW 119 w.heap.size wr w.heap.size ts ts.length) := by
        have e : k = ts.length := by omega
        subst e; exact hown
      clear hw hown
      go_wp2_with fail
      go_ret
      exact ⟨rfl, HF.out, hB⟩
end Go.Proofs.YtfapkhgallmkdaaGreat

namespace Go.Proofs.YtfapkhgallmkdaaGreat
open Go.RowKit
set_option maxHeartbeats 400000 in
theorem zem (a : Option Addr) (cap : Nat) (vs : List Int) (left : Int) (w : World) (hl : vs.length <= maxLen) (h0 : 0 <= left) (h1 : left <= 1048576) :
    Calls Tryz.prog 114 #[.slice a vs.length cap, .int .i64 left] w fun e w' => e = .returned (.int .i64 (zH vs.length left)) /\ w' = w := by
  unfold maxLen at hl
  by_cases hf : (vs.length : Int) <= left
  · have HF := hid (zI hf)
    go_enter Tryz.func114, Tryz.ntmps114
    go_wp2_with fail
    go_ret
    exact ⟨zh HF.out.symm, rfl⟩
  · have HF := hid (zw hf)
    go_enter Tryz.func114, Tryz.ntmps114
    go_wp2_with fail
    go_ret
    exact ⟨zh HF.out.symm, rfl⟩
set_option maxHeartbeats 1000000 in
theorem zdq (r : Rl) (a : Option Addr) (cap : Nat) (left : Int) (w : World) (hm : r.Small) (hl : r.vs.length <= maxLen) (h0 : 0 <= left) (h1 : left <= 1048576) :
    Calls Tryz.prog 76 #[.agg (r.cells a cap), .int .i64 left] w fun e w' => e = .returned (.int .i64 (zH r.sz left)) /\ Below w.heap.size w w' := by
  have k1 := hm.kd
  have k2 := hm.tm
  have k3 := hm.px
  have k4 := hl
  unfold maxLen at k1 k2 k3 k4
  unfold Rl.cells
  have hB : ∀ ob, Below w.heap.size w (w.alloc ob) := fun ob => (Below.refl _ _).alloc (Nat.le_refl _) _
  by_cases hv : (r.vs.length : Int) <= left
  rotate_left
  · have HF : Hid (zH r.sz left = -1) := zw (by unfold Rl.sz; omega)
    go_enter Tryz.func76, Tryz.ntmps76
    go_wp2_with fail
    refine (zem _ _ _ _ _ hl h0 h1).mono ?_
    rintro e w1 ⟨rfl, rfl⟩
    rw [zw (by omega)]
    go_wp2_with fail
    go_ret
    exact ⟨zh HF.out.symm, hB _⟩
  by_cases hf : (r.sz : Int) <= left
  · have HF : Hid (zH r.sz left = left - r.vs.length - r.kd.size - r.tm.size - r.px.size) := by
      unfold Hid; rw [zI hf]; unfold Rl.sz; omega
    unfold Rl.sz at hf
    go_enter Tryz.func76, Tryz.ntmps76
    go_wp2_with fail
    refine (zem _ _ _ _ _ hl h0 h1).mono ?_
    rintro e w1 ⟨rfl, rfl⟩
    rw [zI hv]
    go_wp2_with fail
    go_ret
    exact ⟨zh HF.out.symm, hB _⟩
  · have HF : Hid (zH r.sz left = -1) := zw hf
    have HN : Hid (¬ ((r.vs.length + r.kd.size + r.tm.size + r.px.size : Nat) : Int) <= left) := hf
    clear hf
    go_enter Tryz.func76, Tryz.ntmps76
    go_wp2_with fail
    refine (zem _ _ _ _ _ hl h0 h1).mono ?_
    rintro e w1 ⟨rfl, rfl⟩
    rw [zI hv]
    go_wp2_with fail
    all_goals go_ret
    all_goals first | exact ⟨zh HF.out.symm, hB _⟩ | (exfalso; have := HN.out; simp at *; omega)
set_option maxHeartbeats 400000 in
theorem zmT (a : Option Addr) (cap : Nat) (vs : List Int) (w : World) (hw : yw w a vs) (hl : vs.length <= 1048576) :
    Calls Tryz.prog 128 #[.slice a vs.length cap] w fun e w' => e = .returned (.slice (some ⟨w.heap.size, 0, none⟩) vs.length vs.length) /\ w' = w.alloc (.cells (zbu vs) 3) := by
  have hmk : ∀ w : World, (Instr.makeSlice 95 (.int .i64 vs.length) (.int .i64 vs.length)).run Tryz.prog w = .ok (.slice (some ⟨w.heap.size, 0, none⟩) vs.length vs.length) (w.alloc (.cells (intCells vs 0) 3)) := by
    intro w
    have h := run_make_row' (P := Tryz.prog) 95 3 (.int .i64 0) 8 Tryz.underlying95 (by kernel_rfl) rfl .i64 .i64 vs.length (by omega) (by omega) w
    rw [ziX] at h
    exact h
  go_enter Tryz.func128, Tryz.ntmps128
  go_wp2_with fail
  clear hmk
  go_loopw [4] (fun i wr => ∃ k : Nat, k <= vs.length /\ i = .int .i64 k /\ wr = w.alloc (.cells (intCells vs k) 3)) (fun i _ => vs.length - (intOf i).toNat)
  case atStart => exact ⟨0, Nat.zero_le _, rfl, rfl⟩
  case round =>
    obtain ⟨k, hk, rfl, rfl⟩ := hrel
    by_cases hlt : k < vs.length
    · obtain ⟨b, off, rfl, hb, hck⟩ := hw.load (Below.refl _ _) k hlt
      clear hw
      have hold := zkV vs k hlt
      have HS := hid (zkn vs k hlt)
      have hltI : (k : Int) < (vs.length : Int) := by omega
      go_wp2
      go_roundw
      case rel => exact ⟨k + 1, by omega, by go_num, by rw [HS.out]⟩
      case measure => simp [intOf]; omega
    · have HA : Hid (intCells vs k = zbu vs) := zjQ vs k (by omega)
      clear hw
      go_wp2
      go_ret
      exact ⟨rfl, by rw [HA.out]⟩
set_option maxHeartbeats 800000 in
theorem zmG (a a' : Option Addr) (cap cap' : Nat) (vs : List Int) (w : World) (hw : yw w a vs) (hw' : yw w a' vs) :
    Calls Tryz.prog 160 #[.slice a vs.length cap, .slice a' vs.length cap'] w fun e w' => e = .returned (.bool true) /\ Below w.heap.size w w' := by
  have hl := hw.len
  unfold maxLen at hl
  have hnn : ((vs.length : Int) != vs.length) = false := by simp
  go_enter Tryz.func160, Tryz.ntmps160
  go_wp2_with fail
  go_loopw [5] (fun i wr => ∃ k : Nat, k <= vs.length /\ i = .int .i64 k /\ Below w.heap.size w wr) (fun i _ => vs.length - (intOf i).toNat)
  case atStart => exact ⟨0, Nat.zero_le _, rfl, Below.refl _ _⟩
  case round =>
    obtain ⟨k, hk, rfl, hB⟩ := hrel
    by_cases hlt : k < vs.length
    · obtain ⟨b, off, rfl, hb, c0⟩ := hw.load hB k hlt
      obtain ⟨b', off', rfl, hb', d0⟩ := hw'.load hB k hlt
      have hltI : (k : Int) < (vs.length : Int) := by omega
      have hne : (vs[k] != vs[k]) = false := by simp
      clear hw hw'
      go_wp2_with fail
      first
        | exact ⟨⟨k + 1, by omega, by go_num, hB⟩, by simp [intOf]; omega⟩
        | (go_quiet (fail); go_wp2_with fail; exact ⟨⟨k + 1, by omega, by go_num, below_drewN hB _⟩, by simp [intOf]; omega⟩)
    · clear hw hw'
      go_wp2_with fail
      go_ret
      exact ⟨rfl, hB⟩
theorem zpb (w : World) (o1 o2 o3 o4 : Obj) : ((((w.alloc o1).alloc o2).alloc o3).alloc o4).heap[w.heap.size + 1 + 1 + 1]? = some o4 := by
  have h := MapKept.heap_alloc (((w.alloc o1).alloc o2).alloc o3) o4
  simpa using h.1
theorem zoK (w : World) (o1 o2 o3 o4 : Obj) : Below w.heap.size w ((((w.alloc o1).alloc o2).alloc o3).alloc o4) :=
  ((((Below.refl _ _).alloc (Nat.le_refl _) _).alloc (by simp) _).alloc (by simp; omega) _).alloc (by simp; omega) _
set_option maxHeartbeats 1000000 in
theorem zhj (r : Rl) (a : Option Addr) (cap : Nat) (w : World) (hw : yw w a r.vs) (hl : r.vs.length <= 1048576) :
    Calls Tryz.prog 97 #[.agg (r.cells a cap)] w
      fun e w' => ∃ bk, e = .returned (.agg (r.cells (some ⟨bk, 0, none⟩) r.vs.length)) /\ w.heap.size <= bk /\ bk < w'.heap.size /\ w'.heap[bk]? = some (.cells (zbu r.vs) 3) /\ Below w.heap.size w w' := by
  unfold Rl.cells
  go_enter Tryz.func97, Tryz.ntmps97
  go_wp2_with (go_at_call 128; refine (zmT _ _ _ _ (by exact hw.mono ((((Below.refl _ _).alloc (Nat.le_refl _) _).alloc (by simp) _).alloc (by simp; omega) _)) hl).mono ?_; rintro e w' ⟨rfl, rfl⟩)
  refine bodyPost_ret (v := .agg #[.slice (some ⟨w.heap.size + 1 + 1 + 1, 0, none⟩) r.vs.length r.vs.length, .string r.kd, .string r.tm, .string r.px]) (by simp [results, Tryz.results97, go_sem]) rfl ⟨w.heap.size + 1 + 1 + 1, rfl, by omega, by simp, zpb _ _ _ _ _, zoK _ _ _ _ _⟩
set_option maxHeartbeats 1000000 in
theorem zhm (r : Rl) (a a' : Option Addr) (cap cap' : Nat) (w : World) (hw : yw w a r.vs) (hw' : yw w a' r.vs) :
    Calls Tryz.prog 112 #[.agg (r.cells a cap), .agg (r.cells a' cap')] w fun e w' => e = .returned (.bool true) /\ Below w.heap.size w w' := by
  unfold Rl.cells
  go_enter Tryz.func112, Tryz.ntmps112
  go_wp2_with fail
  refine (zmG _ _ _ _ _ _ (hw.mono (zu _ _ _)) (hw'.mono (zu _ _ _))).mono ?_
  rintro e w1 ⟨rfl, hb1⟩
  have hX1 := za (za (zG w _ _) (by simp) ((Below.refl _ _).alloc (Nat.le_refl _) _)) (by simp; omega) hb1
  have hY1 := za (zbq w _ _ _) (by simp) hb1
  have hz : w.heap.size + 1 < w1.heap.size := by have := hb1.size; simp at this; omega
  have hB1 := (zu w _ _).trans (hb1.mono (by simp; omega))
  clear hb1
  go_wp2_with fail
  go_ret
  exact ⟨rfl, hB1⟩
end Go.Proofs.YtfapkhgallmkdaaGreat
