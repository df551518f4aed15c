import Derived.Test.YtkfigdbbncjojaaGreatM03
import Derived.Test.YtkfigdbbncjojaaGreatM01
import Derived.Deep.QuietTactic
import Derived.BigQuiet
import Derived.Deep.OwnRows
import Derived.MapKept
import Derived.Test.YtkfigdbbncjojaaGreatM04
namespace Go.Proofs.YtkfigdbbncjojaaGreat
open Go.RowKit
def yZ (s : ByteArray) : Int := if Gate.jD s = true then Gate.zeA s else -1
theorem ziZ (k : Nat) (h : k <= 7) : (10 : Int) ^ k <= 10000000 := by
  have : k = 0 \/ k = 1 \/ k = 2 \/ k = 3 \/ k = 4 \/ k = 5 \/ k = 6 \/ k = 7 := by omega
  rcases this with h | h | h | h | h | h | h | h <;> subst h <;> decide
set_option maxHeartbeats 800000 in
theorem zh8 (s : ByteArray) (w : World) (h1 : 1 <= s.size) (h7 : s.size <= 7) (hz : s.size <= 1 \/ ¬ (s[0].toNat : Int) = 48) :
    Calls Tryz.prog 141 #[.string s] w fun e w' => e = .returned (.int .i64 (yZ s)) /\ w' = w := by
  have HF : Hid (Gate.jD s = Gate.j6 s) := Gate.ziS s h1 h7 hz
  rcases (show (s.size <= 1) \/ (1 < s.size /\ ¬ (s[0].toNat : Int) = 48) by rcases hz with h | h <;> omega) with hone | ⟨hmore, hz0⟩
  all_goals
    clear hz
    try have hz1 : ((s[0].toNat : Int) == 48) = false := by simpa using hz0
    try clear hz0
    go_enter Tryz.func141, Tryz.ntmps141
    go_wp2_with (go_at_call 20; refine (zbA _ _ _ _ (by omega) (by omega)).mono ?_; rintro e w' ⟨rfl, rfl⟩)
    go_loop [3, 4] (fun n i => ∃ k : Nat, k <= s.size /\ i = .int .i64 k /\ (s.data.toList.take k).all Gate.digit = true /\ n = .int .i64 (Gate.dec (s.data.toList.take k))) (fun _ i => s.size - (intOf i).toNat)
    case atStart => exact ⟨0, Nat.zero_le _, rfl, rfl, rfl⟩
    case round =>
      obtain ⟨k, hk, rfl, hall, rfl⟩ := hrel
      have hlen : (s.data.toList.take k).length <= k := List.length_take_le _ _
      obtain ⟨hd0, hd1⟩ := Gate.zdC _ hall k hlen
      by_cases hlt : k < s.size
      · have hp := ziZ k (by omega)
        have hd2 : Gate.dec (s.data.toList.take k) < 10000000 := by omega
        clear hp hd1 hlen
        have HS : Hid ((s.data.toList.take (k + 1)).all Gate.digit = (true && Gate.digit s[k])) := by rw [Gate.za3 _ s k hlt, hall]; rfl
        have HD : Hid (Gate.dec (s.data.toList.take (k + 1)) = Gate.dec (s.data.toList.take k) * 10 + ((s[k].toNat : Int) - 48)) := by rw [Gate.zeQ s k hlt]; exact Gate.zky _ _
        have HN : Hid (Gate.digit s[k] = false -> Gate.j6 s = false) := fun h => Gate.zcL Gate.digit s k hlt h
        clear hall
        by_cases h48 : (s[k].toNat : Int) < 48
        · have HC : Hid (Gate.digit s[k] = false) := by simp [Gate.digit, Hid]; omega
          go_wp2
          go_ret
          exact ⟨zk (by unfold yZ; rw [HF.out, HN.out HC.out]; rfl), rfl⟩
        · by_cases h57 : 57 < (s[k].toNat : Int)
          · have HC : Hid (Gate.digit s[k] = false) := by simp [Gate.digit, Hid]; omega
            go_wp2
            go_ret
            exact ⟨zk (by unfold yZ; rw [HF.out, HN.out HC.out]; rfl), rfl⟩
          · have HC : Hid (Gate.digit s[k] = true) := by simp [Gate.digit, Hid]; omega
            go_wp2
            go_round
            case rel => exact ⟨k + 1, by omega, by go_num, by rw [HS.out, HC.out]; rfl, by rw [HD.out]; go_num⟩
            case measure => simp [intOf]; omega
      · have HA : Hid (Gate.j6 s = true) := by unfold Gate.j6 Hid; rw [<- Gate.zaG s k (by omega)]; exact hall
        have HB : Hid (Gate.dec (s.data.toList.take k) = Gate.zeA s) := by rw [Gate.zaG s k (by omega)]; rfl
        clear hall hd0 hd1 hlen
        go_wp2
        go_ret
        exact ⟨zk (by unfold yZ; rw [HF.out, HA.out, HB.out]; rfl), rfl⟩
set_option maxHeartbeats 400000 in
theorem zct (s : ByteArray) (w : World) (hs : s.size <= maxLen) :
    Calls Tryz.prog 141 #[.string s] w fun e w' => e = .returned (.int .i64 (yZ s)) /\ w' = w := by
  unfold maxLen at hs
  by_cases h17 : 1 <= s.size /\ s.size <= 7
  · obtain ⟨h1, h7⟩ := h17
    by_cases hz : 1 < s.size /\ (s[0].toNat : Int) = 48
    · obtain ⟨hm, hz0⟩ := hz
      have HF : Hid (yZ s = -1) := by unfold yZ Hid; rw [Gate.zdE s hm hz0]; rfl
      have hz1 : ((s[0].toNat : Int) == 48) = true := by simpa using hz0
      clear hz0
      go_enter Tryz.func141, Tryz.ntmps141
      go_wp2_with (go_at_call 20; refine (zbA _ _ _ _ (by omega) (by omega)).mono ?_; rintro e w' ⟨rfl, rfl⟩)
      go_ret
      exact ⟨zk HF.out.symm, rfl⟩
    · exact zh8 s w h1 h7 (by omega)
  · have HF : Hid (yZ s = -1) := by unfold yZ Hid; rw [Gate.zcK s h17]; rfl
    go_enter Tryz.func141, Tryz.ntmps141
    go_wp2_with (go_at_call 20; refine (zdA _ _ _ _ (by omega)).mono ?_; rintro e w' ⟨rfl, rfl⟩)
    go_ret
    exact ⟨zk HF.out.symm, rfl⟩
end Go.Proofs.YtkfigdbbncjojaaGreat

namespace Go.Proofs.YtkfigdbbncjojaaGreat
open Go.RowKit
def za5 (ws : List ByteArray) : Nat := (ws.map ByteArray.size).sum
def yX (ws : List ByteArray) : Nat := ws.length + za5 ws
theorem zlI (ws : List ByteArray) (k : Nat) (h : k < ws.length) : za5 (ws.take (k + 1)) = za5 (ws.take k) + ws[k].size := by
  unfold za5; rw [List.take_succ_eq_append_getElem h, List.map_append, List.sum_append]; simp
theorem znE (ws : List ByteArray) (k : Nat) : za5 (ws.take k) <= za5 ws := by
  unfold za5
  conv => rhs; rw [<- List.take_append_drop k ws]
  rw [List.map_append, List.sum_append]; omega
theorem zmK (ws : List ByteArray) (k : Nat) (h : ws.length <= k) : za5 (ws.take k) = za5 ws := by rw [List.take_of_length_le h]
set_option maxHeartbeats 400000 in
theorem zdM (a : Option Addr) (cap : Nat) (ws : List ByteArray) (left : Int) (w : World) (hw : zB w a ws) (h0 : 0 <= left) (h1 : left <= 1048576) :
    Calls Tryz.prog 85 #[.slice a ws.length cap, .int .i64 left] w fun e w' => e = .returned (.int .i64 (zF (yX ws) left)) /\ w' = w := by
  have hl := hw.len
  unfold maxLen at hl
  by_cases hfit : (ws.length : Int) <= left
  · go_enter Tryz.func85, Tryz.ntmps85
    go_wp2
    go_loop [1, 5] (fun l i => ∃ k : Nat, k <= ws.length /\ i = .int .i64 k /\ 0 <= left - ws.length - za5 (ws.take k) /\ l = .int .i64 (left - ws.length - za5 (ws.take k))) (fun _ i => ws.length - (intOf i).toNat)
    case atStart => exact ⟨0, Nat.zero_le _, rfl, by simp [za5]; omega, by simp [za5]⟩
    case round =>
      obtain ⟨k, hk, rfl, hpos, rfl⟩ := hrel
      by_cases hlt : k < ws.length
      · obtain ⟨b, off, rfl, hb, hc⟩ := hw.cells (by rintro rfl; simp at hlt)
        have hsm := hw.small _ (List.getElem_mem hlt)
        unfold maxLen at hsm
        clear hw
        have hck := hc k hlt
        have HS : Hid (za5 (ws.take (k + 1)) = za5 (ws.take k) + ws[k].size) := zlI ws k hlt
        have hle := znE ws (k + 1)
        clear hc
        by_cases hneg : left - ws.length - za5 (ws.take k) - ws[k].size < 0
        · have HF : Hid (zF (yX ws) left = -1) := zx (by have := HS.out; unfold yX; omega)
          clear hle
          go_wp2
          go_ret
          exact ⟨zk HF.out.symm, rfl⟩
        · clear hle
          go_wp2
          go_round
          case rel => exact ⟨k + 1, by omega, by go_num, by rw [HS.out]; omega, by rw [HS.out]; go_num⟩
          case measure => simp [intOf]; omega
      · have HF : Hid (zF (yX ws) left = left - ws.length - za5 (ws.take k)) := by
          rw [zmK ws k (by omega)] at hpos ⊢
          have e : zF (yX ws) left = left - yX ws := zG (by unfold yX; omega)
          unfold Hid; rw [e]; unfold yX; omega
        clear hw
        go_wp2
        go_ret
        exact ⟨zk HF.out.symm, rfl⟩
  · have HF : Hid (zF (yX ws) left = -1) := zx (by unfold yX; omega)
    clear hw
    go_enter Tryz.func85, Tryz.ntmps85
    go_wp2
    go_ret
    exact ⟨zk HF.out.symm, rfl⟩
set_option maxHeartbeats 400000 in
theorem zb0 (a a' : Option Addr) (cap cap' : Nat) (ws : List ByteArray) (w : World) (hw : zB w a ws) (hw' : zB w a' ws) :
    Calls Tryz.prog 132 #[.slice a ws.length cap, .slice a' ws.length cap'] w fun e w' => e = .returned (.bool true) /\ Below w.heap.size w w' := by
  have hl := hw.len
  unfold maxLen at hl
  have hnn : ((ws.length : Int) != ws.length) = false := by simp
  go_enter Tryz.func132, Tryz.ntmps132
  go_wp2
  go_loopw [5] (fun i wr => ∃ k : Nat, k <= ws.length /\ i = .int .i64 k /\ ∃ n, wr = w.drewN n) (fun i _ => ws.length - (intOf i).toNat)
  case atStart => exact ⟨0, Nat.zero_le _, rfl, 0, rfl⟩
  case round =>
    obtain ⟨k, hk, rfl, nd, rfl⟩ := hrel
    by_cases hlt : k < ws.length
    · obtain ⟨b, off, rfl, hb, hc⟩ := hw.cells (by rintro rfl; simp at hlt)
      obtain ⟨b', off', rfl, hb', hc'⟩ := hw'.cells (by rintro rfl; simp at hlt)
      clear hw hw'
      have hck := hc k hlt
      have hck' := hc' k hlt
      have hltI : (k : Int) < (ws.length : Int) := by omega
      clear hc hc'
      go_wp2
      go_quiet (fail)
      go_wp2
      exact ⟨⟨k + 1, by omega, by go_num, nd + nq, rfl⟩, by simp [intOf]; omega⟩
    · clear hw hw'
      go_wp2
      go_ret
      exact ⟨rfl, below_drewN (Below.refl _ _) nd⟩
set_option maxHeartbeats 1000000 in
theorem zgd (nm : ByteArray) (kd ls ms : Int) (a a' : Option Addr) (cap cap' : Nat) (ws : List ByteArray) (to : ByteArray) (rl : Int) (mu fx : Bool) (df wg : ByteArray) (w : World) (hw : zB w a ws) (hw' : zB w a' ws) :
    Calls Tryz.prog 173 #[.agg #[.string nm, .int .i64 kd, .int .i64 ls, .int .i64 ms, .slice a ws.length cap, .string to, .int .i64 rl, .bool mu, .bool fx, .string df, .string wg], .agg #[.string nm, .int .i64 kd, .int .i64 ls, .int .i64 ms, .slice a' ws.length cap', .string to, .int .i64 rl, .bool mu, .bool fx, .string df, .string wg]] w
      fun e w' => e = .returned (.bool true) /\ Below w.heap.size w w' := by
  go_enter Tryz.func173, Tryz.ntmps173
  go_wp2_with (go_at_call 132; refine (zb0 _ _ _ _ _ _ (by exact hw.mono (zq _ _ _)) (by exact hw'.mono (zq _ _ _))).mono ?_; rintro e w1 ⟨rfl, hb1⟩; have hc1 := (zn5 hb1).1; have hz1 := hb1.size; simp only [World.size_alloc] at hz1)
  go_ret
  exact ⟨rfl, (zq _ _ _).trans (hb1.mono (by simp; omega))⟩
def jC (nm : ByteArray) (ws : List ByteArray) (to df wg : ByteArray) : Nat := nm.size + yX ws + to.size + df.size + wg.size
theorem q9 (a : Option Addr) (cap : Nat) (ws : List ByteArray) (left : Int) (w : World) (hw : zB w a ws) (h0 : 0 <= left) (h1 : left <= 1048576) (h : (yX ws : Int) <= left) :
    Calls Tryz.prog 85 #[.slice a ws.length cap, .int .i64 left] w fun e w' => e = .returned (.int .i64 (left - yX ws)) /\ w' = w := by
  refine (zdM a cap ws left w hw h0 h1).mono ?_
  rintro e w' ⟨rfl, rfl⟩
  exact ⟨zk (zG h), rfl⟩
theorem zcO (a : Option Addr) (cap : Nat) (ws : List ByteArray) (left : Int) (w : World) (hw : zB w a ws) (h0 : 0 <= left) (h1 : left <= 1048576) (h : ¬ (yX ws : Int) <= left) :
    Calls Tryz.prog 85 #[.slice a ws.length cap, .int .i64 left] w fun e w' => e = .returned (.int .i64 (-1)) /\ w' = w := by
  refine (zdM a cap ws left w hw h0 h1).mono ?_
  rintro e w' ⟨rfl, rfl⟩
  exact ⟨zk (zx h), rfl⟩
set_option maxHeartbeats 1000000 in
theorem zcQ (nm : ByteArray) (kd ls ms : Int) (a : Option Addr) (cap : Nat) (ws : List ByteArray) (to : ByteArray) (rl : Int) (mu fx : Bool) (df wg : ByteArray) (left : Int) (w : World) (hw : zB w a ws) (h0 : 0 <= left) (h1 : left <= 1048576)
    (hnm : nm.size <= maxLen) (hto : to.size <= maxLen) (hdf : df.size <= maxLen) (hwg : wg.size <= maxLen) :
    Calls Tryz.prog 134 #[.agg #[.string nm, .int .i64 kd, .int .i64 ls, .int .i64 ms, .slice a ws.length cap, .string to, .int .i64 rl, .bool mu, .bool fx, .string df, .string wg], .int .i64 left] w fun e w' => e = .returned (.int .i64 (zF (jC nm ws to df wg) left)) /\ Below w.heap.size w w' := by
  unfold maxLen at hnm hto hdf hwg
  by_cases c1 : (nm.size : Int) <= left
  rotate_left
  · have HF : Hid (zF (jC nm ws to df wg) left = -1) := zx (by unfold jC; omega)
    go_enter Tryz.func134, Tryz.ntmps134
    go_wp2_with fail
    go_ret
    exact ⟨zk HF.out.symm, (Below.refl _ _).alloc (Nat.le_refl _) _⟩
  by_cases c2 : (yX ws : Int) <= left - nm.size
  rotate_left
  · have HF : Hid (zF (jC nm ws to df wg) left = -1) := zx (by unfold jC; omega)
    go_enter Tryz.func134, Tryz.ntmps134
    go_wp2_with (go_at_call 85; refine (zcO _ _ _ _ _ (by exact hw.mono ((Below.refl _ _).alloc (Nat.le_refl _) _)) (by omega) (by omega) (by omega)).mono ?_; rintro e w1 ⟨rfl, rfl⟩)
    go_ret
    exact ⟨zk HF.out.symm, (Below.refl _ _).alloc (Nat.le_refl _) _⟩
  by_cases c3 : (to.size : Int) <= left - nm.size - yX ws
  rotate_left
  · have HF : Hid (zF (jC nm ws to df wg) left = -1) := zx (by unfold jC; omega)
    go_enter Tryz.func134, Tryz.ntmps134
    go_wp2_with (go_at_call 85; refine (q9 _ _ _ _ _ (by exact hw.mono ((Below.refl _ _).alloc (Nat.le_refl _) _)) (by omega) (by omega) (by omega)).mono ?_; rintro e w1 ⟨rfl, rfl⟩)
    go_ret
    exact ⟨zk HF.out.symm, (Below.refl _ _).alloc (Nat.le_refl _) _⟩
  by_cases c4 : (df.size : Int) <= left - nm.size - yX ws - to.size
  rotate_left
  · have HF : Hid (zF (jC nm ws to df wg) left = -1) := zx (by unfold jC; omega)
    go_enter Tryz.func134, Tryz.ntmps134
    go_wp2_with (go_at_call 85; refine (q9 _ _ _ _ _ (by exact hw.mono ((Below.refl _ _).alloc (Nat.le_refl _) _)) (by omega) (by omega) (by omega)).mono ?_; rintro e w1 ⟨rfl, rfl⟩)
    go_ret
    exact ⟨zk HF.out.symm, (Below.refl _ _).alloc (Nat.le_refl _) _⟩
  by_cases c5 : (wg.size : Int) <= left - nm.size - yX ws - to.size - df.size
  rotate_left
  · have HF : Hid (zF (jC nm ws to df wg) left = -1) := zx (by unfold jC; omega)
    go_enter Tryz.func134, Tryz.ntmps134
    go_wp2_with (go_at_call 85; refine (q9 _ _ _ _ _ (by exact hw.mono ((Below.refl _ _).alloc (Nat.le_refl _) _)) (by omega) (by omega) (by omega)).mono ?_; rintro e w1 ⟨rfl, rfl⟩)
    go_ret
    exact ⟨zk HF.out.symm, (Below.refl _ _).alloc (Nat.le_refl _) _⟩
  · have HF : Hid (zF (jC nm ws to df wg) left = left - nm.size - yX ws - to.size - df.size - wg.size) := by
      have e : zF (jC nm ws to df wg) left = left - jC nm ws to df wg := zG (by unfold jC; omega)
      unfold Hid; rw [e]; unfold jC; omega
    go_enter Tryz.func134, Tryz.ntmps134
    go_wp2_with (go_at_call 85; refine (q9 _ _ _ _ _ (by exact hw.mono ((Below.refl _ _).alloc (Nat.le_refl _) _)) (by omega) (by omega) (by omega)).mono ?_; rintro e w1 ⟨rfl, rfl⟩)
    go_ret
    exact ⟨zk HF.out.symm, (Below.refl _ _).alloc (Nat.le_refl _) _⟩
end Go.Proofs.YtkfigdbbncjojaaGreat

namespace Go.Proofs.YtkfigdbbncjojaaGreat
open Go.RowKit
set_option maxHeartbeats 400000 in
theorem zb4 (a : Option Addr) (cap : Nat) (ws : List ByteArray) (w : World) (hw : zB w a ws) (hl : ws.length <= 1048576) :
    Calls Tryz.prog 101 #[.slice a ws.length cap] w fun e w' => e = .returned (.slice (some ⟨w.heap.size, 0, none⟩) ws.length ws.length) /\ w' = w.alloc (.cells (j5 ws) 9) := by
  have hmk : ∀ w : World, (Instr.makeSlice 87 (.int .i64 ws.length) (.int .i64 ws.length)).run Tryz.prog w = .ok (.slice (some ⟨w.heap.size, 0, none⟩) ws.length ws.length) (w.alloc (.cells (strCells ws 0) 9)) := by
    intro w
    have h := run_make_row' (P := Tryz.prog) 87 9 (.string ByteArray.empty) 16 Tryz.underlying87 (by kernel_rfl) rfl .i64 .i64 ws.length (by omega) (by omega) w
    rw [zia] at h
    exact h
  go_enter Tryz.func101, Tryz.ntmps101
  go_wp2
  clear hmk
  go_loopw [4] (fun i wr => ∃ k : Nat, k <= ws.length /\ i = .int .i64 k /\ wr = w.alloc (.cells (strCells ws k) 9)) (fun i _ => ws.length - (intOf i).toNat)
  case atStart => exact ⟨0, Nat.zero_le _, rfl, rfl⟩
  case round =>
    obtain ⟨k, hk, rfl, rfl⟩ := hrel
    by_cases hlt : k < ws.length
    · obtain ⟨b, off, rfl, hb, hc⟩ := hw.cells (by rintro rfl; simp at hlt)
      clear hw
      have hck := hc k hlt
      have hold := zkk ws k hlt
      have HS := hid (zjg ws k hlt)
      clear hc
      go_wp2
      go_roundw
      case rel => exact ⟨k + 1, by omega, by go_num, by rw [HS.out]⟩
      case measure => simp [intOf]; omega
    · have HA := hid (zje ws k (by omega))
      clear hw
      go_wp2
      go_ret
      exact ⟨rfl, by rw [HA.out]⟩
theorem zlE (w : World) (o1 o2 o3 o4 : Obj) : Below w.heap.size w ((((w.alloc o1).alloc o2).alloc o3).alloc o4) :=
  ((((Below.refl _ _).alloc (Nat.le_refl _) _).alloc (by simp) _).alloc (by simp; omega) _).alloc (by simp; omega) _
theorem at4 (w : World) (o1 o2 o3 o4 : Obj) : ((((w.alloc o1).alloc o2).alloc o3).alloc o4).heap[w.heap.size + 1 + 1 + 1]? = some o4 := by
  have h := MapKept.heap_alloc (((w.alloc o1).alloc o2).alloc o3) o4
  simpa using h.1
set_option maxHeartbeats 1000000 in
theorem zgc (nm : ByteArray) (kd ls ms : Int) (a : Option Addr) (cap : Nat) (ws : List ByteArray) (to : ByteArray) (rl : Int) (mu fx : Bool) (df wg : ByteArray) (w : World) (hw : zB w a ws) (hl : ws.length <= 1048576) :
    Calls Tryz.prog 144 #[.agg #[.string nm, .int .i64 kd, .int .i64 ls, .int .i64 ms, .slice a ws.length cap, .string to, .int .i64 rl, .bool mu, .bool fx, .string df, .string wg]] w
      fun e w' => ∃ bk, e = .returned (.agg #[.string nm, .int .i64 kd, .int .i64 ls, .int .i64 ms, .slice (some ⟨bk, 0, none⟩) ws.length ws.length, .string to, .int .i64 rl, .bool mu, .bool fx, .string df, .string wg]) /\
        w.heap.size <= bk /\ bk < w'.heap.size /\ w'.heap[bk]? = some (.cells (j5 ws) 9) /\ Below w.heap.size w w' := by
  go_enter Tryz.func144, Tryz.ntmps144
  go_wp2_with (go_at_call 101; refine (zb4 _ _ _ _ (by exact hw.mono ((((Below.refl _ _).alloc (Nat.le_refl _) _).alloc (by simp) _).alloc (by simp; omega) _)) hl).mono ?_; rintro e w' ⟨rfl, rfl⟩)
  refine bodyPost_ret (v := .agg #[.string nm, .int .i64 kd, .int .i64 ls, .int .i64 ms, .slice (some ⟨w.heap.size + 1 + 1 + 1, 0, none⟩) ws.length ws.length, .string to, .int .i64 rl, .bool mu, .bool fx, .string df, .string wg]) (by simp [results, Tryz.results144, go_sem]) rfl ⟨w.heap.size + 1 + 1 + 1, rfl, by omega, by simp, at4 _ _ _ _ _, zlE _ _ _ _ _⟩
end Go.Proofs.YtkfigdbbncjojaaGreat

namespace Go.Proofs.YtkfigdbbncjojaaGreat
open Go.RowKit
def Gate.within (n lo hi : Int) : Bool := decide (lo <= n) && decide (n <= hi)
set_option maxHeartbeats 400000 in
theorem qx (n lo hi : Int) (w : World) :
    Calls Tryz.prog 113 #[.int .i64 n, .int .i64 lo, .int .i64 hi] w fun e w' => e = .returned (.bool (Gate.within n lo hi)) /\ w' = w := by
  by_cases h1 : lo <= n
  · by_cases h2 : n <= hi
    · have HF : Hid (Gate.within n lo hi = true) := by unfold Hid Gate.within; simp [h1, h2]
      go_enter Tryz.func113, Tryz.ntmps113
      go_wp2_with fail
      go_ret
      exact ⟨ze HF.out.symm, rfl⟩
    · have HF : Hid (Gate.within n lo hi = false) := by unfold Hid Gate.within; simp [h2]
      go_enter Tryz.func113, Tryz.ntmps113
      go_wp2_with fail
      go_ret
      exact ⟨ze HF.out.symm, rfl⟩
  · have HF : Hid (Gate.within n lo hi = false) := by unfold Hid Gate.within; simp [h1]
    go_enter Tryz.func113, Tryz.ntmps113
    go_wp2_with fail
    go_ret
    exact ⟨ze HF.out.symm, rfl⟩
end Go.Proofs.YtkfigdbbncjojaaGreat

namespace Go.Proofs.YtkfigdbbncjojaaGreat
open Go.RowKit
theorem zhu {o : Oper} {ops : Array Oper} {tmps : Array Value} {j : Nat} {want g x : Bool} (hgd : o.guard = some (j, want)) (hv : ((ops[j]?).bind (·.dst)).bind (tmps[·]?) = some (bif g then Value.bool x else undef)) : Region.wanted o (yielded ops tmps) = (g && (x == want)) := by
  unfold Region.wanted yielded
  simp only [hgd, hv]
  cases g <;> cases x <;> cases want <;> rfl
section
variable {P : Program} {ops : Array Oper} {Q : Exit -> Act -> World -> Prop} {md : Region.Mode} {S : World -> Prop} {oi : Oper} {v : Value} {j : Nat} {want g x q : Bool} {fuel : Nat} {listed : Array Bool} {a a' : Act} {w : World}
theorem sG0 (i : Nat) (hq : (g && (x == want)) = q) (h : wpAnyH P md ops Q S fuel (listed.setIfInBounds i true) a' w) (hS : S w) (hi : nth ops.toList i = some oi) (hgd : oi.guard = some (j, want)) (hv : ((ops[j]?).bind (·.dst)).bind (a.tmps[·]?) = some (bif g then Value.bool x else undef))
    (hs : Region.noSelect ops = true) (hf : Region.free md ops listed i = true) (hr : (Region.ready md ops listed).contains i = true)
    (hy : q = true -> ∀ w, S w -> (execOp a.eval oi).run P w = .ok (.value v) w) (ha : a.put oi.dst (bif q then v else undef) = a')
    (hQ : ∀ c u a w, Q (.panic c) (a.put oi.dst u) w -> Q (.panic c) a w) : wpAnyH P md ops Q S (fuel + 1) listed a w := by
  have hw := zhu (o := oi) hgd hv
  rw [hq] at hw
  cases q with
  | true => exact znn hi hs hf hr (fun c a w => hQ c _ a w) hw hS (hy rfl) (ha ▸ h)
  | false => exact zl9 hi hs hf hr (fun c a w => hQ c _ a w) hw hS (ha ▸ h)
theorem sF (i : Nat) (h : wpAnyH P md ops Q S fuel (listed.setIfInBounds i true) a' w)
    (hS : S w := by assumption) (hi : nth ops.toList i = some oi := by rfl) (hgd : oi.guard = some (j, false) := by rfl) (hv : ((ops[j]?).bind (·.dst)).bind (a.tmps[·]?) = some (Value.bool x) := by rfl)
    (hs : Region.noSelect ops = true := by kernel_rfl) (hf : Region.free md ops listed i = true := by kernel_rfl) (hr : (Region.ready md ops listed).contains i = true := by kernel_rfl)
    (hy : x = false -> ∀ w, S w -> (execOp a.eval oi).run P w = .ok (.value v) w := by (intro hg w hSw; (try dsimp only at hSw); go_simp; try with_reducible rfl))
    (ha : a.put oi.dst (bif !x then v else undef) = a' := by ((try simp only [Act.put, sA, s0, sS]); rfl))
    (hQ : ∀ c u a w, Q (.panic c) (a.put oi.dst u) w -> Q (.panic c) a w := by exact fun _ _ _ _ h => h) : wpAnyH P md ops Q S (fuel + 1) listed a w :=
  sG0 (g := true) i (by cases x <;> rfl) h hS hi hgd hv hs hf hr (fun h => hy (by simpa using h)) ha hQ
theorem sT (i : Nat) (h : wpAnyH P md ops Q S fuel (listed.setIfInBounds i true) a' w)
    (hS : S w := by assumption) (hi : nth ops.toList i = some oi := by rfl) (hgd : oi.guard = some (j, true) := by rfl) (hv : ((ops[j]?).bind (·.dst)).bind (a.tmps[·]?) = some (Value.bool x) := by rfl)
    (hs : Region.noSelect ops = true := by kernel_rfl) (hf : Region.free md ops listed i = true := by kernel_rfl) (hr : (Region.ready md ops listed).contains i = true := by kernel_rfl)
    (hy : x = true -> ∀ w, S w -> (execOp a.eval oi).run P w = .ok (.value v) w := by (intro hg w hSw; (try dsimp only at hSw); go_simp; try with_reducible rfl))
    (ha : a.put oi.dst (bif x then v else undef) = a' := by ((try simp only [Act.put, sA, s0, sS]); rfl))
    (hQ : ∀ c u a w, Q (.panic c) (a.put oi.dst u) w -> Q (.panic c) a w := by exact fun _ _ _ _ h => h) : wpAnyH P md ops Q S (fuel + 1) listed a w :=
  sG0 (g := true) i (by cases x <;> rfl) h hS hi hgd hv hs hf hr hy ha hQ
theorem sFT (i : Nat) (h : wpAnyH P md ops Q S fuel (listed.setIfInBounds i true) a' w)
    (hS : S w := by assumption) (hi : nth ops.toList i = some oi := by rfl) (hgd : oi.guard = some (j, true) := by rfl) (hv : ((ops[j]?).bind (·.dst)).bind (a.tmps[·]?) = some (bif !g then Value.bool x else undef) := by rfl)
    (hs : Region.noSelect ops = true := by kernel_rfl) (hf : Region.free md ops listed i = true := by kernel_rfl) (hr : (Region.ready md ops listed).contains i = true := by kernel_rfl)
    (hy : g = false -> x = true -> ∀ w, S w -> (execOp a.eval oi).run P w = .ok (.value v) w := by (intro hg hx w hSw; (try dsimp only at hSw); go_simp; try with_reducible rfl))
    (ha : a.put oi.dst (bif !g && x then v else undef) = a' := by ((try simp only [Act.put, sA, s0, sS]); rfl))
    (hQ : ∀ c u a w, Q (.panic c) (a.put oi.dst u) w -> Q (.panic c) a w := by exact fun _ _ _ _ h => h) : wpAnyH P md ops Q S (fuel + 1) listed a w :=
  sG0 (g := !g) i (by cases g <;> cases x <;> rfl) h hS hi hgd hv hs hf hr (fun h => by cases g <;> cases x <;> first | exact hy rfl rfl | cases h) ha hQ
theorem cS0 (i : Nat) (hq : (g && (x == want)) = q) (v : Value) (R : World -> Prop)
    (hc : q = true -> ∀ K : World -> Prop, Shut (∀ w', S w' -> R w' -> K w') -> Oper.wp P oi a w (fun a' w' => a' = a.put oi.dst v /\ K w') Q)
    (h : ∀ w', R w' -> S w' -> wpAnyH P md ops Q S fuel (listed.setIfInBounds i true) (a.put oi.dst (bif q then v else undef)) w')
    (h0 : R w) (hS : S w) (hi : nth ops.toList i = some oi) (hgd : oi.guard = some (j, want)) (hv : ((ops[j]?).bind (·.dst)).bind (a.tmps[·]?) = some (bif g then Value.bool x else undef))
    (hs : Region.noSelect ops = true) (hf : Region.free md ops listed i = true) (hr : Region.ready md ops listed = [i])
    (hQ : ∀ c u a w, Q (.panic c) (a.put oi.dst u) w -> Q (.panic c) a w) : wpAnyH P md ops Q S (fuel + 1) listed a w := by
  have hw := zhu (o := oi) hgd hv
  rw [hq] at hw
  cases q with
  | true => exact znY hi hr hw fun K hK => Oper.wp_mono (fun a1 w1 ⟨e, h1⟩ => by rw [e]; exact h1) (hc rfl (fun w' => K (a.put oi.dst v) w') fun w' hs' hr' => hK.out _ _ hs' fun _ => h w' hr' hs')
  | false => exact zl9 hi hs hf (by rw [hr]; simp) (fun c a w => hQ c _ a w) hw hS (h w h0 hS)
theorem cF (i : Nat) (v : Value) (R : World -> Prop) (hc : x = false -> ∀ K : World -> Prop, Shut (∀ w', S w' -> R w' -> K w') -> Oper.wp P oi a w (fun a' w' => a' = a.put oi.dst v /\ K w') Q)
    (h : ∀ w', R w' -> S w' -> wpAnyH P md ops Q S fuel (listed.setIfInBounds i true) (a.put oi.dst (bif !x then v else undef)) w')
    (h0 : R w) (hS : S w := by assumption) (hi : nth ops.toList i = some oi := by rfl) (hgd : oi.guard = some (j, false) := by rfl) (hv : ((ops[j]?).bind (·.dst)).bind (a.tmps[·]?) = some (Value.bool x) := by rfl)
    (hs : Region.noSelect ops = true := by kernel_rfl) (hf : Region.free md ops listed i = true := by kernel_rfl) (hr : Region.ready md ops listed = [i] := by kernel_rfl)
    (hQ : ∀ c u a w, Q (.panic c) (a.put oi.dst u) w -> Q (.panic c) a w := by exact fun _ _ _ _ h => h) : wpAnyH P md ops Q S (fuel + 1) listed a w :=
  cS0 (g := true) i (by cases x <;> rfl) v R (fun h => hc (by simpa using h)) h h0 hS hi hgd hv hs hf hr hQ
theorem cT (i : Nat) (v : Value) (R : World -> Prop) (hc : x = true -> ∀ K : World -> Prop, Shut (∀ w', S w' -> R w' -> K w') -> Oper.wp P oi a w (fun a' w' => a' = a.put oi.dst v /\ K w') Q)
    (h : ∀ w', R w' -> S w' -> wpAnyH P md ops Q S fuel (listed.setIfInBounds i true) (a.put oi.dst (bif x then v else undef)) w')
    (h0 : R w) (hS : S w := by assumption) (hi : nth ops.toList i = some oi := by rfl) (hgd : oi.guard = some (j, true) := by rfl) (hv : ((ops[j]?).bind (·.dst)).bind (a.tmps[·]?) = some (Value.bool x) := by rfl)
    (hs : Region.noSelect ops = true := by kernel_rfl) (hf : Region.free md ops listed i = true := by kernel_rfl) (hr : Region.ready md ops listed = [i] := by kernel_rfl)
    (hQ : ∀ c u a w, Q (.panic c) (a.put oi.dst u) w -> Q (.panic c) a w := by exact fun _ _ _ _ h => h) : wpAnyH P md ops Q S (fuel + 1) listed a w :=
  cS0 (g := true) i (by cases x <;> rfl) v R hc h h0 hS hi hgd hv hs hf hr hQ
theorem cFT (i : Nat) (v : Value) (R : World -> Prop) (hc : g = false -> x = true -> ∀ K : World -> Prop, Shut (∀ w', S w' -> R w' -> K w') -> Oper.wp P oi a w (fun a' w' => a' = a.put oi.dst v /\ K w') Q)
    (h : ∀ w', R w' -> S w' -> wpAnyH P md ops Q S fuel (listed.setIfInBounds i true) (a.put oi.dst (bif !g && x then v else undef)) w')
    (h0 : R w) (hS : S w := by assumption) (hi : nth ops.toList i = some oi := by rfl) (hgd : oi.guard = some (j, true) := by rfl) (hv : ((ops[j]?).bind (·.dst)).bind (a.tmps[·]?) = some (bif !g then Value.bool x else undef) := by rfl)
    (hs : Region.noSelect ops = true := by kernel_rfl) (hf : Region.free md ops listed i = true := by kernel_rfl) (hr : Region.ready md ops listed = [i] := by kernel_rfl)
    (hQ : ∀ c u a w, Q (.panic c) (a.put oi.dst u) w -> Q (.panic c) a w := by exact fun _ _ _ _ h => h) : wpAnyH P md ops Q S (fuel + 1) listed a w :=
  cS0 (g := !g) i (by cases g <;> cases x <;> rfl) v R (fun h => by cases g <;> cases x <;> first | exact hc rfl rfl | cases h) h h0 hS hi hgd hv hs hf hr hQ
end
end Go.Proofs.YtkfigdbbncjojaaGreat
