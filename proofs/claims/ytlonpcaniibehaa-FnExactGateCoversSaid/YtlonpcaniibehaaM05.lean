import Derived.Test.YtlonpcaniibehaaM04
import Derived.Test.YtlonpcaniibehaaRows
import Derived.Test.YtlonpcaniibehaaM01
import Derived.WalkKit
import Derived.WalkSpells
import Derived.WalkLawsBesides
namespace Go.Proofs.Ytlonpcaniibehaa
open Go.RowKit

set_option maxHeartbeats 400000 in
theorem szIntS_any (a : Option Addr) (cap : Nat) (vs : List Int) (left : Int) (w : World) (hl : vs.length ≤ maxLen) (h0 : 0 ≤ left) (h1 : left ≤ 1048576) :
    Calls Try.prog 38 #[.slice a vs.length cap, .int .i64 left] w fun e w' => e = .returned (.int .i64 (szRes vs.length left)) ∧ w' = w := by
  unfold maxLen at hl
  by_cases hf : (vs.length : Int) ≤ left
  · have HF : Hid (szRes vs.length left = left - vs.length) := szRes_yes hf
    go_enter Try.func38, Try.ntmps38
    go_wp2_with fail
    go_ret
    exact ⟨ret_int HF.out.symm, rfl⟩
  · have HF : Hid (szRes vs.length left = -1) := szRes_no hf
    go_enter Try.func38, Try.ntmps38
    go_wp2_with fail
    go_ret
    exact ⟨ret_int HF.out.symm, rfl⟩

set_option maxHeartbeats 1000000 in
theorem szGateRule_any (r : Rl) (a : Option Addr) (cap : Nat) (left : Int) (w : World) (hm : r.Small) (hl : r.vs.length ≤ maxLen) (h0 : 0 ≤ left) (h1 : left ≤ 1048576) :
    Calls Try.prog 14 #[.agg (r.cells a cap), .int .i64 left] w fun e w' => e = .returned (.int .i64 (szRes r.sz left)) ∧ Below w.heap.size w w' := by
  have k1 := hm.kd
  have k2 := hm.tm
  have k3 := hm.px
  have k4 := hl
  unfold maxLen at k1 k2 k3 k4
  unfold Rl.cells
  have hB : ∀ ob, Below w.heap.size w (w.alloc ob) := fun ob => (Below.refl _ _).alloc (Nat.le_refl _) _
  by_cases hv : (r.vs.length : Int) ≤ left
  rotate_left
  · have HF : Hid (szRes r.sz left = -1) := szRes_no (by unfold Rl.sz; omega)
    go_enter Try.func14, Try.ntmps14
    go_wp2_with fail
    refine (szIntS_any _ _ _ _ _ hl h0 h1).mono ?_
    rintro e w1 ⟨rfl, rfl⟩
    rw [szRes_no (by omega)]
    go_wp2_with fail
    go_ret
    exact ⟨ret_int HF.out.symm, hB _⟩
  by_cases hf : (r.sz : Int) ≤ left
  · have HF : Hid (szRes r.sz left = left - r.vs.length - r.kd.size - r.tm.size - r.px.size) := by
      unfold Hid; rw [szRes_yes hf]; unfold Rl.sz; omega
    unfold Rl.sz at hf
    go_enter Try.func14, Try.ntmps14
    go_wp2_with fail
    refine (szIntS_any _ _ _ _ _ hl h0 h1).mono ?_
    rintro e w1 ⟨rfl, rfl⟩
    rw [szRes_yes hv]
    go_wp2_with fail
    go_ret
    exact ⟨ret_int HF.out.symm, hB _⟩
  · have HF : Hid (szRes r.sz left = -1) := szRes_no hf
    have HN : Hid (¬ ((r.vs.length + r.kd.size + r.tm.size + r.px.size : Nat) : Int) ≤ left) := hf
    clear hf
    go_enter Try.func14, Try.ntmps14
    go_wp2_with fail
    refine (szIntS_any _ _ _ _ _ hl h0 h1).mono ?_
    rintro e w1 ⟨rfl, rfl⟩
    rw [szRes_yes hv]
    go_wp2_with fail
    all_goals go_ret
    all_goals first | exact ⟨ret_int HF.out.symm, hB _⟩ | (exfalso; have := HN.out; simp at *; omega)

theorem szGateRule_yes (r : Rl) (a : Option Addr) (cap : Nat) (left : Int) (w : World) (hm : r.Small) (hl : r.vs.length ≤ maxLen) (h0 : 0 ≤ left) (h1 : left ≤ 1048576) (h : (r.sz : Int) ≤ left) :
    Calls Try.prog 14 #[.agg (r.cells a cap), .int .i64 left] w fun e w' => e = .returned (.int .i64 (left - r.sz)) ∧ Below w.heap.size w w' := by
  refine (szGateRule_any r a cap left w hm hl h0 h1).mono ?_
  rintro e w' ⟨rfl, hb⟩
  exact ⟨ret_int (szRes_yes h), hb⟩

theorem szGateRule_no (r : Rl) (a : Option Addr) (cap : Nat) (left : Int) (w : World) (hm : r.Small) (hl : r.vs.length ≤ maxLen) (h0 : 0 ≤ left) (h1 : left ≤ 1048576) (h : ¬ (r.sz : Int) ≤ left) :
    Calls Try.prog 14 #[.agg (r.cells a cap), .int .i64 left] w fun e w' => e = .returned (.int .i64 (-1)) ∧ Below w.heap.size w w' := by
  refine (szGateRule_any r a cap left w hm hl h0 h1).mono ?_
  rintro e w' ⟨rfl, hb⟩
  exact ⟨ret_int (szRes_no h), hb⟩

set_option maxHeartbeats 1000000 in
theorem szGateAct_any (r : Ac) (left : Int) (w : World) (hm : r.Small) (h0 : 0 ≤ left) (h1 : left ≤ 1048576) :
    Calls Try.prog 15 #[.agg r.cells, .int .i64 left] w fun e w' => e = .returned (.int .i64 (szRes r.sz left)) ∧ Below w.heap.size w w' := by
  have k1 := hm.kd
  have k2 := hm.tm
  have k3 := hm.nm
  unfold maxLen at k1 k2 k3
  unfold Ac.cells
  have hB : ∀ ob, Below w.heap.size w (w.alloc ob) := fun ob => (Below.refl _ _).alloc (Nat.le_refl _) _
  by_cases hf : (r.sz : Int) ≤ left
  · have HF : Hid (szRes r.sz left = left - r.kd.size - r.tm.size - r.nm.size) := by
      unfold Hid; rw [szRes_yes hf]; unfold Ac.sz; omega
    unfold Ac.sz at hf
    go_enter Try.func15, Try.ntmps15
    go_wp2_with fail
    go_ret
    exact ⟨ret_int HF.out.symm, hB _⟩
  · have HF : Hid (szRes r.sz left = -1) := szRes_no hf
    have HN : Hid (¬ ((r.kd.size + r.tm.size + r.nm.size : Nat) : Int) ≤ left) := hf
    clear hf
    go_enter Try.func15, Try.ntmps15
    go_wp2_with fail
    all_goals go_ret
    all_goals first | exact ⟨ret_int HF.out.symm, hB _⟩ | (exfalso; have := HN.out; simp at *; omega)

set_option maxHeartbeats 400000 in
theorem toIntS_any (a : Option Addr) (cap : Nat) (vs : List Int) (w : World) (hw : IntsAt w a vs) (hl : vs.length ≤ 1048576) :
    Calls Try.prog 41 #[.slice a vs.length cap] w fun e w' => e = .returned (.slice (some ⟨w.heap.size, 0, none⟩) vs.length vs.length) ∧ w' = w.alloc (.cells (intArr vs) 3) := by
  have hmk : ∀ w : World, (Instr.makeSlice 31 (.int .i64 vs.length) (.int .i64 vs.length)).run Try.prog w = .ok (.slice (some ⟨w.heap.size, 0, none⟩) vs.length vs.length) (w.alloc (.cells (intCells vs 0) 3)) := by
    intro w
    have h := run_make_row' (P := Try.prog) 31 3 (.int .i64 0) 8 Try.underlying31 (by kernel_rfl) rfl .i64 .i64 vs.length (by omega) (by omega) w
    rw [intCells_zero] at h
    exact h
  go_enter Try.func41, Try.ntmps41
  go_wp2_with fail
  clear hmk
  go_loopw [4] (fun i wr => ∃ k : Nat, k ≤ vs.length ∧ i = .int .i64 k ∧ wr = w.alloc (.cells (intCells vs k) 3)) (fun i _ => vs.length - (intOf i).toNat)
  case atStart => exact ⟨0, Nat.zero_le _, rfl, rfl⟩
  case round =>
    obtain ⟨k, hk, rfl, rfl⟩ := hrel
    by_cases hlt : k < vs.length
    · obtain ⟨b, off, rfl, hb, hck⟩ := hw.load (Below.refl _ _) k hlt
      clear hw
      have hold := intCells_at vs k hlt
      have HS : Hid ((intCells vs k).setIfInBounds k (.int .i64 vs[k]) = intCells vs (k + 1)) := intCells_set vs k hlt
      have hltI : (k : Int) < (vs.length : Int) := by omega
      go_wp2
      go_roundw
      case rel => exact ⟨k + 1, by omega, by go_num, by rw [HS.out]⟩
      case measure => simp [intOf]; omega
    · have HA : Hid (intCells vs k = intArr vs) := intCells_all vs k (by omega)
      clear hw
      go_wp2
      go_ret
      exact ⟨rfl, by rw [HA.out]⟩

set_option maxHeartbeats 800000 in
theorem eqIntS_yes (a a' : Option Addr) (cap cap' : Nat) (vs : List Int) (w : World) (hw : IntsAt w a vs) (hw' : IntsAt w a' vs) :
    Calls Try.prog 45 #[.slice a vs.length cap, .slice a' vs.length cap'] w fun e w' => e = .returned (.bool true) ∧ Below w.heap.size w w' := by
  have hl := hw.len
  unfold maxLen at hl
  have hnn : ((vs.length : Int) != vs.length) = false := by simp
  go_enter Try.func45, Try.ntmps45
  go_wp2_with fail
  go_loopw [5] (fun i wr => ∃ k : Nat, k ≤ vs.length ∧ i = .int .i64 k ∧ Below w.heap.size w wr) (fun i _ => vs.length - (intOf i).toNat)
  case atStart => exact ⟨0, Nat.zero_le _, rfl, Below.refl _ _⟩
  case round =>
    obtain ⟨k, hk, rfl, hB⟩ := hrel
    by_cases hlt : k < vs.length
    · obtain ⟨b, off, rfl, hb, c0⟩ := hw.load hB k hlt
      obtain ⟨b', off', rfl, hb', d0⟩ := hw'.load hB k hlt
      have hltI : (k : Int) < (vs.length : Int) := by omega
      have hne : (vs[k] != vs[k]) = false := by simp
      clear hw hw'
      go_wp2_with fail
      first
        | exact ⟨⟨k + 1, by omega, by go_num, hB⟩, by simp [intOf]; omega⟩
        | (go_quiet (fail); go_wp2_with fail; exact ⟨⟨k + 1, by omega, by go_num, below_drewN hB _⟩, by simp [intOf]; omega⟩)
    · clear hw hw'
      go_wp2_with fail
      go_ret
      exact ⟨rfl, hB⟩

theorem box_new2 (w : World) (o1 : Obj) (X : Array Value) (t : TypeId) : ∀ o, ((w.alloc o1).alloc (.cells X t)).cell? ⟨w.heap.size + 1, o, none⟩ = X[o]? := by
  intro o
  have h := box_new (w.alloc o1) X t o
  have e : (w.alloc o1).heap.size = w.heap.size + 1 := by simp
  rw [e] at h; exact h

theorem at4' (w : World) (o1 o2 o3 o4 : Obj) : ((((w.alloc o1).alloc o2).alloc o3).alloc o4).heap[w.heap.size + 1 + 1 + 1]? = some o4 := by
  have h := MapKept.heap_alloc (((w.alloc o1).alloc o2).alloc o3) o4
  simpa using h.1
theorem below4' (w : World) (o1 o2 o3 o4 : Obj) : Below w.heap.size w ((((w.alloc o1).alloc o2).alloc o3).alloc o4) :=
  ((((Below.refl _ _).alloc (Nat.le_refl _) _).alloc (by simp) _).alloc (by simp; omega) _).alloc (by simp; omega) _

set_option maxHeartbeats 1000000 in
theorem toGateRule_any (r : Rl) (a : Option Addr) (cap : Nat) (w : World) (hw : IntsAt w a r.vs) (hl : r.vs.length ≤ 1048576) :
    Calls Try.prog 17 #[.agg (r.cells a cap)] w
      fun e w' => ∃ bk, e = .returned (.agg (r.cells (some ⟨bk, 0, none⟩) r.vs.length)) ∧ w.heap.size ≤ bk ∧ bk < w'.heap.size ∧ w'.heap[bk]? = some (.cells (intArr r.vs) 3) ∧ Below w.heap.size w w' := by
  unfold Rl.cells
  go_enter Try.func17, Try.ntmps17
  go_wp2_with (go_at_call 41; refine (toIntS_any _ _ _ _ (by exact hw.mono ((((Below.refl _ _).alloc (Nat.le_refl _) _).alloc (by simp) _).alloc (by simp; omega) _)) hl).mono ?_; rintro e w' ⟨rfl, rfl⟩)
  refine bodyPost_ret (v := .agg #[.slice (some ⟨w.heap.size + 1 + 1 + 1, 0, none⟩) r.vs.length r.vs.length, .string r.kd, .string r.tm, .string r.px]) (by simp [results, Try.results17, go_sem]) rfl ⟨w.heap.size + 1 + 1 + 1, rfl, by omega, by simp, at4' _ _ _ _ _, below4' _ _ _ _ _⟩

set_option maxHeartbeats 1000000 in
theorem toGateAct_any (x : Ac) (w : World) :
    Calls Try.prog 18 #[.agg x.cells] w fun e w' => e = .returned (.agg x.cells) ∧ Below w.heap.size w w' := by
  unfold Ac.cells
  go_enter Try.func18, Try.ntmps18
  go_wp2_with fail
  refine bodyPost_ret (v := .agg #[.int .i64 x.vb, .string x.kd, .string x.tm, .string x.nm]) (by simp [results, Try.results18, go_sem]) rfl ⟨rfl, ?_⟩
  exact ((((Below.refl _ _).alloc (Nat.le_refl _) _).alloc (by simp) _).alloc (by simp; omega) _)

set_option maxHeartbeats 1000000 in
theorem eqGateRule_yes (r : Rl) (a a' : Option Addr) (cap cap' : Nat) (w : World) (hw : IntsAt w a r.vs) (hw' : IntsAt w a' r.vs) :
    Calls Try.prog 20 #[.agg (r.cells a cap), .agg (r.cells a' cap')] w fun e w' => e = .returned (.bool true) ∧ Below w.heap.size w w' := by
  unfold Rl.cells
  go_enter Try.func20, Try.ntmps20
  go_wp2_with fail
  refine (eqIntS_yes _ _ _ _ _ _ (hw.mono (below2' _ _ _)) (hw'.mono (below2' _ _ _))).mono ?_
  rintro e w1 ⟨rfl, hb1⟩
  have hX1 := box_later (box_later (box_new w _ _) (by simp) ((Below.refl _ _).alloc (Nat.le_refl _) _)) (by simp; omega) hb1
  have hY1 := box_later (box_new2 w _ _ _) (by simp) hb1
  have hz : w.heap.size + 1 < w1.heap.size := by have := hb1.size; simp at this; omega
  have hB1 := (below2' w _ _).trans (hb1.mono (by simp; omega))
  clear hb1
  go_wp2_with fail
  go_ret
  exact ⟨rfl, hB1⟩

end Go.Proofs.Ytlonpcaniibehaa

namespace Go.Proofs.Ytlonpcaniibehaa
open Go.RowKit

set_option maxHeartbeats 400000 in
theorem l1In_any (n lo hi : Int) (w : World) :
    Calls Try.prog 50 #[.int .i64 n, .int .i64 lo, .int .i64 hi] w fun e w' => e = .returned (.bool (decide (lo ≤ n) && decide (n ≤ hi))) ∧ w' = w := by
  go_enter Try.func50, Try.ntmps50
  go_wp2
  all_goals
    go_ret
    refine ⟨ret_bool ?_, rfl⟩
    simp; try omega

theorem l1In_yes (n lo hi : Int) (w : World) (h1 : lo ≤ n) (h2 : n ≤ hi) :
    Calls Try.prog 50 #[.int .i64 n, .int .i64 lo, .int .i64 hi] w fun e w' => e = .returned (.bool true) ∧ w' = w := by
  refine (l1In_any n lo hi w).mono ?_
  rintro e w' ⟨rfl, rfl⟩
  exact ⟨ret_bool (by simp; omega), rfl⟩

theorem l1In_no (n lo hi : Int) (w : World) (h1 : ¬ (lo ≤ n ∧ n ≤ hi)) :
    Calls Try.prog 50 #[.int .i64 n, .int .i64 lo, .int .i64 hi] w fun e w' => e = .returned (.bool false) ∧ w' = w := by
  refine (l1In_any n lo hi w).mono ?_
  rintro e w' ⟨rfl, rfl⟩
  exact ⟨ret_bool (by simp; omega), rfl⟩

set_option maxHeartbeats 400000 in
theorem l1Byte_any (c : UInt8) (w : World) :
    Calls Try.prog 51 #[.int .u8 c.toNat] w fun e w' => e = .returned (.bool (Gate.nameByte c)) ∧ w' = w := by
  go_enter Try.func51, Try.ntmps51
  go_wp2
  all_goals
    go_ret
    refine ⟨ret_bool ?_, rfl⟩
    rw [Bool.eq_iff_iff]; simp [Gate.nameByte]; try omega

set_option maxHeartbeats 400000 in
theorem isDigit_any (c : UInt8) (w : World) :
    Calls Try.prog 63 #[.int .u8 c.toNat] w fun e w' => e = .returned (.bool (Gate.digit c)) ∧ w' = w := by
  go_enter Try.func63, Try.ntmps63
  go_wp2
  all_goals
    go_ret
    refine ⟨ret_bool ?_, rfl⟩
    rw [Bool.eq_iff_iff]; simp [Gate.digit]; try omega

theorem isDigit_yes (c : UInt8) (w : World) (h : 48 ≤ (c.toNat : Int)) (h2 : (c.toNat : Int) ≤ 57) :
    Calls Try.prog 63 #[.int .u8 c.toNat] w fun e w' => e = .returned (.bool true) ∧ w' = w := by
  refine (isDigit_any c w).mono ?_
  rintro e w' ⟨rfl, rfl⟩
  exact ⟨ret_bool (by simp [Gate.digit]; omega), rfl⟩

theorem isDigit_no (c : UInt8) (w : World) (h : ¬ (48 ≤ (c.toNat : Int) ∧ (c.toNat : Int) ≤ 57)) :
    Calls Try.prog 63 #[.int .u8 c.toNat] w fun e w' => e = .returned (.bool false) ∧ w' = w := by
  refine (isDigit_any c w).mono ?_
  rintro e w' ⟨rfl, rfl⟩
  exact ⟨ret_bool (by simp [Gate.digit]; omega), rfl⟩

end Go.Proofs.Ytlonpcaniibehaa

namespace Go.Proofs.Ytlonpcaniibehaa
open Go.RowKit

set_option maxHeartbeats 400000 in
theorem l1NameOk_any (s : ByteArray) (w : World) (hs : s.size ≤ maxLen) :
    Calls Try.prog 31 #[.string s] w fun e w' => e = .returned (.bool (Gate.nameOk s)) ∧ w' = w := by
  unfold maxLen at hs
  by_cases hb : 1 ≤ s.size ∧ s.size ≤ 16
  · obtain ⟨hb1, hb2⟩ := hb
    go_enter Try.func31, Try.ntmps31
    go_wp2_with (go_at_call 50; refine (l1In_yes _ _ _ _ (by omega) (by omega)).mono ?_; rintro e w' ⟨rfl, rfl⟩)
    go_loop [3] (fun i => ∃ k : Nat, k ≤ s.size ∧ i = .int .i64 k ∧ (s.data.toList.take k).all Gate.nameByte = true) (fun i => s.size - (intOf i).toNat)
    case atStart => exact ⟨0, Nat.zero_le _, rfl, rfl⟩
    case round =>
      obtain ⟨k, hk, rfl, hall⟩ := hrel
      by_cases hlt : k < s.size
      · have HS : Hid ((s.data.toList.take (k + 1)).all Gate.nameByte = (true && Gate.nameByte s[k])) := by rw [Gate.all_snoc _ s k hlt, hall]; rfl
        have HN := fun h => Gate.all_not Gate.nameByte s k hlt h
        have HN' : Hid (Gate.nameByte s[k] = false → Gate.allName s = false) := HN
        clear HN hall
        by_cases hc : Gate.nameByte s[k] = true
        · go_wp2_with (go_at_call 51; refine (l1Byte_any _ _).mono ?_; rintro e w' ⟨rfl, rfl⟩)
          go_round
          case rel => exact ⟨k + 1, by omega, by go_num, by rw [HS.out, hc]; rfl⟩
          case measure => simp [intOf]; omega
        · have hc' : Gate.nameByte s[k] = false := by simpa using hc
          clear hc
          go_wp2_with (go_at_call 51; refine (l1Byte_any _ _).mono ?_; rintro e w' ⟨rfl, rfl⟩)
          go_ret
          refine ⟨ret_bool ?_, rfl⟩
          simp [Gate.nameOk, HN'.out hc']
      · have HA : Hid (Gate.allName s = true) := by unfold Gate.allName Hid; rw [← Gate.take_all s k (by omega)]; exact hall
        clear hall
        go_wp2
        go_ret
        refine ⟨ret_bool ?_, rfl⟩
        simp only [Gate.nameOk, HA.out]; simp; omega
  · go_enter Try.func31, Try.ntmps31
    go_wp2_with (go_at_call 50; refine (l1In_no _ _ _ _ (by omega)).mono ?_; rintro e w' ⟨rfl, rfl⟩)
    go_ret
    refine ⟨ret_bool ?_, rfl⟩
    simp [Gate.nameOk]; omega

set_option maxHeartbeats 400000 in
theorem isNameBytes_any (s : ByteArray) (w : World) (hs : s.size ≤ maxLen) :
    Calls Try.prog 52 #[.string s] w fun e w' => e = .returned (.bool (Gate.allName s)) ∧ w' = w := by
  unfold maxLen at hs
  go_enter Try.func52, Try.ntmps52
  go_wp2
  go_loop [7] (fun i => ∃ k : Nat, k ≤ s.size ∧ i = .int .i64 k ∧ (s.data.toList.take k).all Gate.nameByte = true) (fun i => s.size - (intOf i).toNat)
  case atStart => exact ⟨0, Nat.zero_le _, rfl, rfl⟩
  case round =>
    obtain ⟨k, hk, rfl, hall⟩ := hrel
    by_cases hlt : k < s.size
    · have HS : Hid ((s.data.toList.take (k + 1)).all Gate.nameByte = (true && Gate.nameByte s[k])) := by rw [Gate.all_snoc _ s k hlt, hall]; rfl
      have HN : Hid (Gate.nameByte s[k] = false → Gate.allName s = false) := fun h => Gate.all_not Gate.nameByte s k hlt h
      clear hall
      by_cases hd : 48 ≤ (s[k].toNat : Int) ∧ (s[k].toNat : Int) ≤ 57
      · have HC : Hid (Gate.nameByte s[k] = true) := by simp [Gate.nameByte, Hid]; omega
        obtain ⟨hd1, hd2⟩ := hd
        go_wp2_with (go_at_call 63; refine (isDigit_yes _ _ hd1 hd2).mono ?_; rintro e w' ⟨rfl, rfl⟩)
        go_round
        case rel => exact ⟨k + 1, by omega, by go_num, by rw [HS.out, HC.out]; rfl⟩
        case measure => simp [intOf]; omega
      · have HD : Hid (¬ (48 ≤ (s[k].toNat : Int) ∧ (s[k].toNat : Int) ≤ 57)) := hd
        clear hd
        by_cases h45 : (s[k].toNat : Int) = 45
        · have HC : Hid (Gate.nameByte s[k] = true) := by simp [Gate.nameByte, Hid]; omega
          have h45' : ((s[k].toNat : Int) != 45) = false := by simp [h45]
          clear h45
          go_wp2_with (go_at_call 63; refine (isDigit_no _ _ HD.out).mono ?_; rintro e w' ⟨rfl, rfl⟩)
          go_round
          case rel => exact ⟨k + 1, by omega, by go_num, by rw [HS.out, HC.out]; rfl⟩
          case measure => simp [intOf]; omega
        · have h45' : ((s[k].toNat : Int) != 45) = true := by simp [h45]
          by_cases h97 : (s[k].toNat : Int) < 97
          · have HC : Hid (Gate.nameByte s[k] = false) := by have := HD.out; simp [Gate.nameByte, Hid]; omega
            clear h45
            go_wp2_with (go_at_call 63; refine (isDigit_no _ _ HD.out).mono ?_; rintro e w' ⟨rfl, rfl⟩)
            go_ret
            exact ⟨ret_bool (HN.out HC.out).symm, rfl⟩
          · by_cases h122 : 122 < (s[k].toNat : Int)
            · have HC : Hid (Gate.nameByte s[k] = false) := by have := HD.out; simp [Gate.nameByte, Hid]; omega
              clear h45
              go_wp2_with (go_at_call 63; refine (isDigit_no _ _ HD.out).mono ?_; rintro e w' ⟨rfl, rfl⟩)
              go_ret
              exact ⟨ret_bool (HN.out HC.out).symm, rfl⟩
            · have HC : Hid (Gate.nameByte s[k] = true) := by simp [Gate.nameByte, Hid]; omega
              clear h45
              go_wp2_with (go_at_call 63; refine (isDigit_no _ _ HD.out).mono ?_; rintro e w' ⟨rfl, rfl⟩)
              go_round
              case rel => exact ⟨k + 1, by omega, by go_num, by rw [HS.out, HC.out]; rfl⟩
              case measure => simp [intOf]; omega
    · have HA : Hid (Gate.allName s = true) := by unfold Gate.allName Hid; rw [← Gate.take_all s k (by omega)]; exact hall
      clear hall
      go_wp2
      go_ret
      exact ⟨ret_bool HA.out.symm, rfl⟩

set_option maxHeartbeats 400000 in
theorem isName_any (s : ByteArray) (w : World) (hs : s.size ≤ maxLen) :
    Calls Try.prog 33 #[.string s] w fun e w' => e = .returned (.bool (Gate.nameOk s)) ∧ w' = w := by
  have hs' := hs
  unfold maxLen at hs'
  by_cases h0 : s.size = 0
  · rw [Gate.empty_of_size s h0]
    go_enter Try.func33, Try.ntmps33
    go_wp2
    go_ret
    exact ⟨rfl, rfl⟩
  · have hne : s.toList.isEmpty = false := by rw [Gate.isEmpty_of_size]; simp [h0]
    by_cases h16 : s.size ≤ 16
    · have HF : Hid (Gate.nameOk s = Gate.allName s) := by
        simp only [Hid, Gate.nameOk]; rw [decide_eq_true (show 1 ≤ s.size by omega), decide_eq_true h16]; simp
      go_enter Try.func33, Try.ntmps33
      go_wp2_with (go_at_call 52; refine (isNameBytes_any _ _ hs).mono ?_; rintro e w' ⟨rfl, rfl⟩)
      go_ret
      exact ⟨ret_bool HF.out.symm, rfl⟩
    · go_enter Try.func33, Try.ntmps33
      go_wp2_with (go_at_call 52; refine (isNameBytes_any _ _ hs).mono ?_; rintro e w' ⟨rfl, rfl⟩)
      go_ret
      refine ⟨ret_bool ?_, rfl⟩
      simp only [Gate.nameOk]; rw [decide_eq_false h16]; simp

end Go.Proofs.Ytlonpcaniibehaa
