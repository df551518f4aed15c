import Derived.Test.YtfpeplbmfbepcaaGreatM11
import Derived.Test.YtfpeplbmfbepcaaGreatM07
namespace Go.Proofs.YtfpeplbmfbepcaaGreat
open Go.RowKit
set_option maxHeartbeats 400000 in
theorem zeX (a : Option Addr) (cap : Nat) (vs : List Int) (left : Int) (w : World) (hl : vs.length <= maxLen) (h0 : 0 <= left) (h1 : left <= 1048576) :
    Calls Tryz.prog 124 #[.slice a vs.length cap, .int .i64 left] w fun e w' => e = .returned (.int .i64 (zF vs.length left)) /\ w' = w := by
  unfold maxLen at hl
  by_cases hf : (vs.length : Int) <= left
  · have HF := hid (zH hf)
    go_enter Tryz.func124, Tryz.ntmps124
    go_wp2_with fail
    go_ret
    exact ⟨zl HF.out.symm, rfl⟩
  · have HF := hid (zx hf)
    go_enter Tryz.func124, Tryz.ntmps124
    go_wp2_with fail
    go_ret
    exact ⟨zl HF.out.symm, rfl⟩
set_option maxHeartbeats 1000000 in
theorem zdU (r : Rl) (a : Option Addr) (cap : Nat) (left : Int) (w : World) (hm : r.Small) (hl : r.vs.length <= maxLen) (h0 : 0 <= left) (h1 : left <= 1048576) :
    Calls Tryz.prog 87 #[.agg (r.cells a cap), .int .i64 left] w fun e w' => e = .returned (.int .i64 (zF r.sz left)) /\ Below w.heap.size w w' := by
  have k1 := hm.kd
  have k2 := hm.tm
  have k3 := hm.px
  have k4 := hl
  unfold maxLen at k1 k2 k3 k4
  unfold Rl.cells
  have hB : ∀ ob, Below w.heap.size w (w.alloc ob) := fun ob => (Below.refl _ _).alloc (Nat.le_refl _) _
  by_cases hv : (r.vs.length : Int) <= left
  rotate_left
  · have HF : Hid (zF r.sz left = -1) := zx (by unfold Rl.sz; omega)
    go_enter Tryz.func87, Tryz.ntmps87
    go_wp2_with fail
    refine (zeX _ _ _ _ _ hl h0 h1).mono ?_
    rintro e w1 ⟨rfl, rfl⟩
    rw [zx (by omega)]
    go_wp2_with fail
    go_ret
    exact ⟨zl HF.out.symm, hB _⟩
  by_cases hf : (r.sz : Int) <= left
  · have HF : Hid (zF r.sz left = left - r.vs.length - r.kd.size - r.tm.size - r.px.size) := by
      unfold Hid; rw [zH hf]; unfold Rl.sz; omega
    unfold Rl.sz at hf
    go_enter Tryz.func87, Tryz.ntmps87
    go_wp2_with fail
    refine (zeX _ _ _ _ _ hl h0 h1).mono ?_
    rintro e w1 ⟨rfl, rfl⟩
    rw [zH hv]
    go_wp2_with fail
    go_ret
    exact ⟨zl HF.out.symm, hB _⟩
  · have HF : Hid (zF r.sz left = -1) := zx hf
    have HN : Hid (¬ ((r.vs.length + r.kd.size + r.tm.size + r.px.size : Nat) : Int) <= left) := hf
    clear hf
    go_enter Tryz.func87, Tryz.ntmps87
    go_wp2_with fail
    refine (zeX _ _ _ _ _ hl h0 h1).mono ?_
    rintro e w1 ⟨rfl, rfl⟩
    rw [zH hv]
    go_wp2_with fail
    all_goals go_ret
    all_goals first | exact ⟨zl HF.out.symm, hB _⟩ | (exfalso; have := HN.out; simp at *; omega)
set_option maxHeartbeats 400000 in
theorem zn7 (a : Option Addr) (cap : Nat) (vs : List Int) (w : World) (hw : yM w a vs) (hl : vs.length <= 1048576) :
    Calls Tryz.prog 139 #[.slice a vs.length cap] w fun e w' => e = .returned (.slice (some ⟨w.heap.size, 0, none⟩) vs.length vs.length) /\ w' = w.alloc (.cells (zaY vs) 3) := by
  have hmk : ∀ w : World, (Instr.makeSlice 35 (.int .i64 vs.length) (.int .i64 vs.length)).run Tryz.prog w = .ok (.slice (some ⟨w.heap.size, 0, none⟩) vs.length vs.length) (w.alloc (.cells (intCells vs 0) 3)) := by
    intro w
    have h := run_make_row' (P := Tryz.prog) 35 3 (.int .i64 0) 8 Tryz.underlying35 (by kernel_rfl) rfl .i64 .i64 vs.length (by omega) (by omega) w
    rw [zj0] at h
    exact h
  go_enter Tryz.func139, Tryz.ntmps139
  go_wp2_with fail
  clear hmk
  go_loopw [4] (fun i wr => ∃ k : Nat, k <= vs.length /\ i = .int .i64 k /\ wr = w.alloc (.cells (intCells vs k) 3)) (fun i _ => vs.length - (intOf i).toNat)
  case atStart => exact ⟨0, Nat.zero_le _, rfl, rfl⟩
  case round =>
    obtain ⟨k, hk, rfl, rfl⟩ := hrel
    by_cases hlt : k < vs.length
    · obtain ⟨b, off, rfl, hb, hck⟩ := hw.load (Below.refl _ _) k hlt
      clear hw
      have hold := zl7 vs k hlt
      have HS := hid (zlz vs k hlt)
      have hltI : (k : Int) < (vs.length : Int) := by omega
      go_wp2
      go_roundw
      case rel => exact ⟨k + 1, by omega, by go_num, by rw [HS.out]⟩
      case measure => simp [intOf]; omega
    · have HA : Hid (intCells vs k = zaY vs) := zkT vs k (by omega)
      clear hw
      go_wp2
      go_ret
      exact ⟨rfl, by rw [HA.out]⟩
set_option maxHeartbeats 800000 in
theorem zds (a a' : Option Addr) (cap cap' : Nat) (vs : List Int) (w : World) (hw : yM w a vs) (hw' : yM w a' vs) :
    Calls Tryz.prog 10 #[.slice a vs.length cap, .slice a' vs.length cap'] w fun e w' => e = .returned (.bool true) /\ Below w.heap.size w w' := by
  have hl := hw.len
  unfold maxLen at hl
  have hnn : ((vs.length : Int) != vs.length) = false := by simp
  go_enter Tryz.func10, Tryz.ntmps10
  go_wp2_with fail
  go_loopw [5] (fun i wr => ∃ k : Nat, k <= vs.length /\ i = .int .i64 k /\ Below w.heap.size w wr) (fun i _ => vs.length - (intOf i).toNat)
  case atStart => exact ⟨0, Nat.zero_le _, rfl, Below.refl _ _⟩
  case round =>
    obtain ⟨k, hk, rfl, hB⟩ := hrel
    by_cases hlt : k < vs.length
    · obtain ⟨b, off, rfl, hb, c0⟩ := hw.load hB k hlt
      obtain ⟨b', off', rfl, hb', d0⟩ := hw'.load hB k hlt
      have hltI : (k : Int) < (vs.length : Int) := by omega
      have hne : (vs[k] != vs[k]) = false := by simp
      clear hw hw'
      go_wp2_with fail
      first
        | exact ⟨⟨k + 1, by omega, by go_num, hB⟩, by simp [intOf]; omega⟩
        | (go_quiet (fail); go_wp2_with fail; exact ⟨⟨k + 1, by omega, by go_num, below_drewN hB _⟩, by simp [intOf]; omega⟩)
    · clear hw hw'
      go_wp2_with fail
      go_ret
      exact ⟨rfl, hB⟩
theorem zqs (w : World) (o1 o2 o3 o4 : Obj) : ((((w.alloc o1).alloc o2).alloc o3).alloc o4).heap[w.heap.size + 1 + 1 + 1]? = some o4 := by
  have h := MapKept.heap_alloc (((w.alloc o1).alloc o2).alloc o3) o4
  simpa using h.1
theorem zp3 (w : World) (o1 o2 o3 o4 : Obj) : Below w.heap.size w ((((w.alloc o1).alloc o2).alloc o3).alloc o4) :=
  ((((Below.refl _ _).alloc (Nat.le_refl _) _).alloc (by simp) _).alloc (by simp; omega) _).alloc (by simp; omega) _
set_option maxHeartbeats 1000000 in
theorem zid (r : Rl) (a : Option Addr) (cap : Nat) (w : World) (hw : yM w a r.vs) (hl : r.vs.length <= 1048576) :
    Calls Tryz.prog 106 #[.agg (r.cells a cap)] w
      fun e w' => ∃ bk, e = .returned (.agg (r.cells (some ⟨bk, 0, none⟩) r.vs.length)) /\ w.heap.size <= bk /\ bk < w'.heap.size /\ w'.heap[bk]? = some (.cells (zaY r.vs) 3) /\ Below w.heap.size w w' := by
  unfold Rl.cells
  go_enter Tryz.func106, Tryz.ntmps106
  go_wp2_with (go_at_call 139; refine (zn7 _ _ _ _ (by exact hw.mono ((((Below.refl _ _).alloc (Nat.le_refl _) _).alloc (by simp) _).alloc (by simp; omega) _)) hl).mono ?_; rintro e w' ⟨rfl, rfl⟩)
  refine bodyPost_ret (v := .agg #[.slice (some ⟨w.heap.size + 1 + 1 + 1, 0, none⟩) r.vs.length r.vs.length, .string r.kd, .string r.tm, .string r.px]) (by simp [results, Tryz.results106, go_sem]) rfl ⟨w.heap.size + 1 + 1 + 1, rfl, by omega, by simp, zqs _ _ _ _ _, zp3 _ _ _ _ _⟩
set_option maxHeartbeats 1000000 in
theorem zii (r : Rl) (a a' : Option Addr) (cap cap' : Nat) (w : World) (hw : yM w a r.vs) (hw' : yM w a' r.vs) :
    Calls Tryz.prog 122 #[.agg (r.cells a cap), .agg (r.cells a' cap')] w fun e w' => e = .returned (.bool true) /\ Below w.heap.size w w' := by
  unfold Rl.cells
  go_enter Tryz.func122, Tryz.ntmps122
  go_wp2_with fail
  refine (zds _ _ _ _ _ _ (hw.mono (zn _ _ _)) (hw'.mono (zn _ _ _))).mono ?_
  rintro e w1 ⟨rfl, hb1⟩
  have hX1 := za (za (zG w _ _) (by simp) ((Below.refl _ _).alloc (Nat.le_refl _) _)) (by simp; omega) hb1
  have hY1 := za (zpI w _ _ _) (by simp) hb1
  have hz : w.heap.size + 1 < w1.heap.size := by have := hb1.size; simp at this; omega
  have hB1 := (zn w _ _).trans (hb1.mono (by simp; omega))
  clear hb1
  go_wp2_with fail
  go_ret
  exact ⟨rfl, hB1⟩
end Go.Proofs.YtfpeplbmfbepcaaGreat

namespace Go.Proofs.YtfpeplbmfbepcaaGreat
open Go.RowKit
theorem zeE {α : Type} (p : α -> Bool) (l : List α) (k : Nat) (h : k < l.length) : (l.take (k + 1)).any p = ((l.take k).any p || p l[k]) := by
  rw [List.take_succ_eq_append_getElem h, List.any_append]; simp
theorem zpe {α : Type} (p : α -> Bool) (l : List α) (k : Nat) (h : k < l.length) (hp : p l[k] = true) : l.any p = true := by
  rw [List.any_eq_true]; exact ⟨l[k], List.getElem_mem h, hp⟩
def zgF (P : Program) (fid : Nat) (q : Value) (ts : List Tm) (w : World) (p : Tm -> Bool) : Prop :=
  ∀ w1, Below w.heap.size w w1 -> ∀ i (h : i < ts.length), Calls P fid #[.agg ts[i].cells, q] w1 fun e w' => e = .returned (.bool (p ts[i])) /\ Below w1.heap.size w1 w'
set_option maxHeartbeats 1000000 in
theorem zib (a : Option Addr) (cap : Nat) (ts : List Tm) (q : Value) (p : Tm -> Bool) (w : World) (hw : jh w a ts) (hf : zgF Tryz.prog 190 q ts w p) :
    Calls Tryz.prog 191 #[.slice a ts.length cap, .func (.func 190) #[] #[q]] w fun e w' => ∃ r : Int, e = .returned (.int .i64 r) /\ decide (0 <= r) = ts.any p /\ Below w.heap.size w w' := by
  have hl := hw.len
  unfold maxLen at hl
  go_enter Tryz.func191, Tryz.ntmps191
  go_wp2_with fail
  go_loopw [8] (fun i wr => ∃ k : Nat, k <= ts.length /\ i = .int .i64 k /\ (ts.take k).any p = false /\ Below w.heap.size w wr) (fun i _ => ts.length - (intOf i).toNat)
  case atStart => exact ⟨0, Nat.zero_le _, rfl, rfl, Below.refl _ _⟩
  case round =>
    obtain ⟨k, hk, rfl, hno, hB⟩ := hrel
    by_cases hlt : k < ts.length
    · obtain ⟨b, off, rfl, hb, c0, c1⟩ := hw.load hB k hlt
      have hltI : (k : Int) < (ts.length : Int) := by omega
      have hc := hf wr hB k hlt
      clear hw hf
      by_cases he : p ts[k] = true
      · have HA : Hid (ts.any p = true) := zpe p ts k hlt he
        have HE : Hid (p ts[k] = true) := he
        clear he hno
        go_wp2_with fail
        refine (zw HE.out hc).mono ?_
        rintro e w2 ⟨rfl, hb2⟩
        go_wp2_with fail
        go_ret
        exact ⟨_, rfl, by rw [HA.out]; simp, hB.trans (hb2.mono hB.size)⟩
      · have he' : p ts[k] = false := by simpa using he
        have HS : Hid ((ts.take (k + 1)).any p = false) := by unfold Hid; rw [zeE p ts k hlt, hno, he']; rfl
        have HE : Hid (p ts[k] = false) := he'
        clear he he' hno
        go_wp2_with fail
        refine (zw HE.out hc).mono ?_
        rintro e w2 ⟨rfl, hb2⟩
        go_wp2_with fail
        exact ⟨⟨k + 1, by omega, by go_num, HS.out, hB.trans (hb2.mono hB.size)⟩, by simp [intOf]; omega⟩
    · have HA : Hid (ts.any p = false) := by unfold Hid; rw [<- hno, List.take_of_length_le (by omega)]
      clear hno hw hf
      go_wp2_with fail
      go_ret
      exact ⟨_, rfl, by rw [HA.out]; rfl, hB⟩
set_option maxHeartbeats 400000 in
theorem zfb (a : Option Addr) (cap : Nat) (ts : List Tm) (q : Value) (p : Tm -> Bool) (w : World) (hw : jh w a ts) (hf : zgF Tryz.prog 190 q ts w p) :
    Calls Tryz.prog 147 #[.slice a ts.length cap, .func (.func 190) #[] #[q]] w fun e w' => e = .returned (.bool (ts.any p)) /\ Below w.heap.size w w' := by
  go_enter Tryz.func147, Tryz.ntmps147
  go_wp2_with fail
  refine (zib _ _ _ _ _ _ hw hf).mono ?_
  rintro e w2 ⟨r, rfl, hr, hb2⟩
  go_wp2_with fail
  go_ret
  exact ⟨rfl, hb2⟩
set_option maxHeartbeats 1000000 in
theorem zh7 (a : Option Addr) (cap : Nat) (ts : List Tm) (q : Value) (p : Tm -> Bool) (w : World) (hw : jh w a ts) (hf : zgF Tryz.prog 148 q ts w p) :
    Calls Tryz.prog 191 #[.slice a ts.length cap, .func (.func 148) #[] #[q]] w fun e w' => ∃ r : Int, e = .returned (.int .i64 r) /\ decide (0 <= r) = ts.any p /\ Below w.heap.size w w' := by
  have hl := hw.len
  unfold maxLen at hl
  go_enter Tryz.func191, Tryz.ntmps191
  go_wp2_with fail
  go_loopw [8] (fun i wr => ∃ k : Nat, k <= ts.length /\ i = .int .i64 k /\ (ts.take k).any p = false /\ Below w.heap.size w wr) (fun i _ => ts.length - (intOf i).toNat)
  case atStart => exact ⟨0, Nat.zero_le _, rfl, rfl, Below.refl _ _⟩
  case round =>
    obtain ⟨k, hk, rfl, hno, hB⟩ := hrel
    by_cases hlt : k < ts.length
    · obtain ⟨b, off, rfl, hb, c0, c1⟩ := hw.load hB k hlt
      have hltI : (k : Int) < (ts.length : Int) := by omega
      have hc := hf wr hB k hlt
      clear hw hf
      by_cases he : p ts[k] = true
      · have HA : Hid (ts.any p = true) := zpe p ts k hlt he
        have HE : Hid (p ts[k] = true) := he
        clear he hno
        go_wp2_with fail
        refine (zw HE.out hc).mono ?_
        rintro e w2 ⟨rfl, hb2⟩
        go_wp2_with fail
        go_ret
        exact ⟨_, rfl, by rw [HA.out]; simp, hB.trans (hb2.mono hB.size)⟩
      · have he' : p ts[k] = false := by simpa using he
        have HS : Hid ((ts.take (k + 1)).any p = false) := by unfold Hid; rw [zeE p ts k hlt, hno, he']; rfl
        have HE : Hid (p ts[k] = false) := he'
        clear he he' hno
        go_wp2_with fail
        refine (zw HE.out hc).mono ?_
        rintro e w2 ⟨rfl, hb2⟩
        go_wp2_with fail
        exact ⟨⟨k + 1, by omega, by go_num, HS.out, hB.trans (hb2.mono hB.size)⟩, by simp [intOf]; omega⟩
    · have HA : Hid (ts.any p = false) := by unfold Hid; rw [<- hno, List.take_of_length_le (by omega)]
      clear hno hw hf
      go_wp2_with fail
      go_ret
      exact ⟨_, rfl, by rw [HA.out]; rfl, hB⟩
set_option maxHeartbeats 400000 in
theorem zfX (a : Option Addr) (cap : Nat) (ts : List Tm) (q : Value) (p : Tm -> Bool) (w : World) (hw : jh w a ts) (hf : zgF Tryz.prog 148 q ts w p) :
    Calls Tryz.prog 147 #[.slice a ts.length cap, .func (.func 148) #[] #[q]] w fun e w' => e = .returned (.bool (ts.any p)) /\ Below w.heap.size w w' := by
  go_enter Tryz.func147, Tryz.ntmps147
  go_wp2_with fail
  refine (zh7 _ _ _ _ _ _ hw hf).mono ?_
  rintro e w2 ⟨r, rfl, hr, hb2⟩
  go_wp2_with fail
  go_ret
  exact ⟨rfl, hb2⟩
set_option maxHeartbeats 400000 in
theorem zk3 (t : Tm) (v : ByteArray) (bn : Nat) (w : World) (hb : bn < w.heap.size) (hn : w.cell? ⟨bn, 0, none⟩ = some (.string v)) :
    Calls Tryz.prog 190 #[.agg t.cells, .pointer (some ⟨bn, 0, none⟩)] w fun e w' => e = .returned (.bool (t.nm.toList == v.toList)) /\ Below w.heap.size w w' := by
  unfold Tm.cells
  go_enter Tryz.func190, Tryz.ntmps190
  go_wp2_with fail
  go_ret
  exact ⟨rfl, (Below.refl _ _).alloc (Nat.le_refl _) _⟩
theorem zmJ (ts : List Tm) (v : ByteArray) (bn : Nat) (w : World) (hb : bn < w.heap.size) (hn : w.cell? ⟨bn, 0, none⟩ = some (.string v)) :
    zgF Tryz.prog 190 (.pointer (some ⟨bn, 0, none⟩)) ts w (fun t => decide (t.nm = v)) := fun w1 hB i hi => by
  refine (zk3 ts[i] v bn w1 (Nat.lt_of_lt_of_le hb hB.size) ((hB.cell (p := ⟨bn, 0, none⟩) hb).trans hn)).mono ?_
  rintro e w' ⟨rfl, hb'⟩
  exact ⟨ze (Gate.beq_toList _ _), hb'⟩
set_option maxHeartbeats 400000 in
theorem zcc (a : Option Addr) (cap : Nat) (ts : List Tm) (v : ByteArray) (w : World) (hw : jh w a ts) :
    Calls Tryz.prog 146 #[.slice a ts.length cap, .string v] w fun e w' => e = .returned (.bool (Gate.yh ts v)) /\ Below w.heap.size w w' := by
  go_enter Tryz.func146, Tryz.ntmps146
  go_wp2_with fail
  refine (zfb _ _ _ _ _ _ (hw.mono ((Below.refl _ _).alloc (Nat.le_refl _) _)) (zmJ ts v _ _ (by simp) (by rw [World.cell?_alloc_at _ _ _ _ rfl]; rfl))).mono ?_
  rintro e w2 ⟨rfl, hb2⟩
  go_wp2_with fail
  go_ret
  exact ⟨rfl, ((Below.refl _ _).alloc (Nat.le_refl _) _).trans (hb2.mono (by simp))⟩
set_option maxHeartbeats 800000 in
theorem zjR (a : Option Addr) (cap : Nat) (ts : List Tm) (t : Tm) (w : World) (hw : jh w a ts) :
    Calls Tryz.prog 149 #[.slice a ts.length cap, .agg t.cells] w fun e w' => e = .returned (.bool (!Gate.zdy ts t)) /\ Below w.heap.size w w' := by
  unfold Tm.cells
  go_enter Tryz.func149, Tryz.ntmps149
  go_wp2_with fail
  go_loopw [5, 8] (fun p i wr => ∃ (k : Nat) (z : ByteArray), k <= 4 /\ p = .string z /\ i = .int .i64 k /\ Gate.zen ts 4 t.ov = Gate.zen ts (4 - k) z /\ Below w.heap.size w wr) (fun _ i _ => 4 - (intOf i).toNat)
  case atStart => exact ⟨0, t.ov, Nat.zero_le _, rfl, rfl, rfl, (Below.refl _ _).alloc (Nat.le_refl _) _⟩
  case round =>
    obtain ⟨k, z, hk, rfl, rfl, hz, hB⟩ := hrel
    by_cases hlt : k < 4
    · have hltI : (k : Int) < 4 := by omega
      have HZ : Hid (Gate.zen ts 4 t.ov = Gate.zen ts (4 - (k + 1)) (Gate.over ts z)) := by
        obtain ⟨m, hm⟩ : ∃ m, 4 - k = m + 1 := ⟨3 - k, by omega⟩
        rw [Hid, hz, hm, show 4 - (k + 1) = m by omega]; rfl
      clear hz
      go_wp2_with fail
      refine (zdj _ _ _ _ _ (hw.mono hB)).mono ?_
      rintro e w1 ⟨rfl, hb1⟩
      have hB1 := hB.trans (hb1.mono hB.size)
      clear hb1
      go_wp2_with fail
      exact ⟨⟨k + 1, Gate.over ts z, by omega, rfl, by go_num, HZ.out, hB1⟩, by simp [intOf]; omega⟩
    · have HF : Hid (Gate.zdy ts t = z.toList.isEmpty) := by
        have e : 4 - k = 0 := by omega
        rw [e] at hz
        unfold Hid Gate.zdy
        rw [hz, Gate.zu]; rfl
      clear hz
      go_wp2_with fail
      go_ret
      exact ⟨ze (by rw [HF.out]), hB⟩
set_option maxHeartbeats 400000 in
theorem zny (a : Option Addr) (cap : Nat) (ts : List Tm) (t : Tm) (bn : Nat) (w : World) (hw : jh w a ts) (hb : bn < w.heap.size) (hn : w.cell? ⟨bn, 0, none⟩ = some (.slice a ts.length cap)) :
    Calls Tryz.prog 148 #[.agg t.cells, .pointer (some ⟨bn, 0, none⟩)] w fun e w' => e = .returned (.bool (!Gate.zdy ts t)) /\ Below w.heap.size w w' := by
  unfold Tm.cells
  go_enter Tryz.func148, Tryz.ntmps148
  go_wp2_with fail
  refine (zjR _ _ _ t _ (hw.mono ((Below.refl _ _).alloc (Nat.le_refl _) _))).mono ?_
  rintro e w2 ⟨rfl, hb2⟩
  go_wp2_with fail
  go_ret
  exact ⟨rfl, ((Below.refl _ _).alloc (Nat.le_refl _) _).trans (hb2.mono (by simp))⟩
theorem zoy (a : Option Addr) (cap : Nat) (ts : List Tm) (bn : Nat) (w : World) (hw : jh w a ts) (hb : bn < w.heap.size) (hn : w.cell? ⟨bn, 0, none⟩ = some (.slice a ts.length cap)) :
    zgF Tryz.prog 148 (.pointer (some ⟨bn, 0, none⟩)) ts w (fun t => !Gate.zdy ts t) := fun w1 hB i _ =>
  zny a cap ts ts[i] bn w1 (hw.mono hB) (Nat.lt_of_lt_of_le hb hB.size) ((hB.cell (p := ⟨bn, 0, none⟩) hb).trans hn)
end Go.Proofs.YtfpeplbmfbepcaaGreat
