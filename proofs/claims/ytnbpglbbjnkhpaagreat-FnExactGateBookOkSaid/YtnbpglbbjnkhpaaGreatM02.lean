import Derived.WalkKit
import Derived.Laws.NewBlocks
import Derived.Laws.MakeOwn
import Derived.Laws.OwnMore
import Derived.Deep.Draws
import Derived.Deep.OwnRows
import Derived.MapKept
import Derived.Test.YtnbpglbbjnkhpaaGreatRows
import Derived.Test.YtnbpglbbjnkhpaaGreatM01
import Derived.WalkSpells
import Derived.WalkLawsBesides
import Derived.Deep.QuietTactic
import Derived.BigQuiet
namespace Go.Proofs.YtnbpglbbjnkhpaaGreat
open Go.RowKit
theorem ze {a b : Bool} (h : a = b) : Ending.returned (.bool a) = .returned (.bool b) := by rw [h]
theorem zo {k : IntKind} {a b : Int} (h : a = b) : Ending.returned (.int k a) = .returned (.int k b) := by rw [h]
def zL (t : Nat) (left : Int) : Int := if (t : Int) <= left then left - t else -1
theorem zM {t : Nat} {left : Int} (h : (t : Int) <= left) : zL t left = left - t := by simp [zL, h]
theorem zC {t : Nat} {left : Int} (h : ¬ (t : Int) <= left) : zL t left = -1 := by simp [zL, h]
theorem zaB {α : Type} (g : α -> Nat) (l : List α) (k : Nat) (h : k < l.length) : ((l.take (k + 1)).map g).sum = ((l.take k).map g).sum + g l[k] := by
  rw [List.take_succ_eq_append_getElem h, List.map_append, List.sum_append]; simp
theorem zbX {α : Type} (g : α -> Nat) (l : List α) (k : Nat) : ((l.take k).map g).sum <= (l.map g).sum := by
  conv => rhs; rw [<- List.take_append_drop k l]
  rw [List.map_append, List.sum_append]; omega
theorem zg7 {α : Type} (g : α -> Nat) (l : List α) (k : Nat) (h : k < l.length) : g l[k] <= (l.map g).sum := by
  have h1 := zaB g l k h
  have h2 := zbX g l (k + 1)
  omega
theorem jk {P : Program} (t e : TypeId) (z : Value) (size bytes : Nat) (ht : P.underlying t = some (.slice e)) (hinfo : (P.info? e).map (fun i => (i.zero, i.size, i.bytes)) = some (some z, size, bytes))
    (n : Nat) (hbytes : bytes * n <= 281474976710656) (h63 : n <= 9223372036854775807) (w : World) :
    (Instr.makeSlice t (.int .i64 (n : Int)) (.int .i64 (n : Int))).run P w = .ok (.slice (some ⟨w.heap.size, 0, none⟩) n n) (w.alloc (.cells (madeCells z.cells (n * size)) e)) := by
  obtain ⟨i, hi, hzz⟩ := Option.map_eq_some_iff.1 hinfo
  simp only [Prod.mk.injEq] at hzz
  obtain ⟨hz, hs, hb⟩ := hzz
  have hb' : (i.bytes : Int) * (n : Int) <= 281474976710656 := by
    have h : ((i.bytes * n : Nat) : Int) <= 281474976710656 := by rw [hb]; omega
    rwa [Int.natCast_mul] at h
  have hr := run_make (P := P) w t e i z ht hi hz .i64 .i64 n n (by omega) (Int.le_refl _) hb' (by omega)
  simp only [Int.toNat_natCast, hs] at hr
  exact hr
end Go.Proofs.YtnbpglbbjnkhpaaGreat

namespace Go.Proofs.YtnbpglbbjnkhpaaGreat
open Go.RowKit
set_option maxHeartbeats 400000 in
theorem yx (n lo hi : Int) (w : World) :
    Calls Tryz.prog 20 #[.int .i64 n, .int .i64 lo, .int .i64 hi] w fun e w' => e = .returned (.bool (decide (lo <= n) && decide (n <= hi))) /\ w' = w := by
  go_enter Tryz.func20, Tryz.ntmps20
  go_wp2
  all_goals
    go_ret
    refine ⟨ze ?_, rfl⟩
    simp; try omega
theorem zaH (n lo hi : Int) (w : World) (h1 : lo <= n) (h2 : n <= hi) :
    Calls Tryz.prog 20 #[.int .i64 n, .int .i64 lo, .int .i64 hi] w fun e w' => e = .returned (.bool true) /\ w' = w := by
  refine (yx n lo hi w).mono ?_
  rintro e w' ⟨rfl, rfl⟩
  exact ⟨ze (by simp; omega), rfl⟩
theorem zcg (n lo hi : Int) (w : World) (h1 : ¬ (lo <= n /\ n <= hi)) :
    Calls Tryz.prog 20 #[.int .i64 n, .int .i64 lo, .int .i64 hi] w fun e w' => e = .returned (.bool false) /\ w' = w := by
  refine (yx n lo hi w).mono ?_
  rintro e w' ⟨rfl, rfl⟩
  exact ⟨ze (by simp; omega), rfl⟩
set_option maxHeartbeats 400000 in
theorem zf8 (c : UInt8) (w : World) :
    Calls Tryz.prog 180 #[.int .u8 c.toNat] w fun e w' => e = .returned (.bool (Gate.digit c)) /\ w' = w := by
  go_enter Tryz.func180, Tryz.ntmps180
  go_wp2
  all_goals
    go_ret
    refine ⟨ze ?_, rfl⟩
    rw [Bool.eq_iff_iff]; simp [Gate.digit]; try omega
theorem zgk (c : UInt8) (w : World) (h : 48 <= (c.toNat : Int)) (h2 : (c.toNat : Int) <= 57) :
    Calls Tryz.prog 180 #[.int .u8 c.toNat] w fun e w' => e = .returned (.bool true) /\ w' = w := by
  refine (zf8 c w).mono ?_
  rintro e w' ⟨rfl, rfl⟩
  exact ⟨ze (by simp [Gate.digit]; omega), rfl⟩
theorem zb5 (c : UInt8) (w : World) (h : ¬ (48 <= (c.toNat : Int) /\ (c.toNat : Int) <= 57)) :
    Calls Tryz.prog 180 #[.int .u8 c.toNat] w fun e w' => e = .returned (.bool false) /\ w' = w := by
  refine (zf8 c w).mono ?_
  rintro e w' ⟨rfl, rfl⟩
  exact ⟨ze (by simp [Gate.digit]; omega), rfl⟩
end Go.Proofs.YtnbpglbbjnkhpaaGreat

namespace Go.Proofs.YtnbpglbbjnkhpaaGreat
open Go.RowKit
def zbz (ws : List ByteArray) : Nat := (ws.map ByteArray.size).sum
def qI (ws : List ByteArray) : Nat := ws.length + zbz ws
theorem zl0 (ws : List ByteArray) (k : Nat) (h : k < ws.length) : zbz (ws.take (k + 1)) = zbz (ws.take k) + ws[k].size := by
  unfold zbz; rw [List.take_succ_eq_append_getElem h, List.map_append, List.sum_append]; simp
theorem znx (ws : List ByteArray) (k : Nat) : zbz (ws.take k) <= zbz ws := by
  unfold zbz
  conv => rhs; rw [<- List.take_append_drop k ws]
  rw [List.map_append, List.sum_append]; omega
theorem zmE (ws : List ByteArray) (k : Nat) (h : ws.length <= k) : zbz (ws.take k) = zbz ws := by rw [List.take_of_length_le h]
set_option maxHeartbeats 400000 in
theorem zeg (a : Option Addr) (cap : Nat) (ws : List ByteArray) (left : Int) (w : World) (hw : zD w a ws) (h0 : 0 <= left) (h1 : left <= 1048576) :
    Calls Tryz.prog 85 #[.slice a ws.length cap, .int .i64 left] w fun e w' => e = .returned (.int .i64 (zL (qI ws) left)) /\ w' = w := by
  have hl := hw.len
  unfold maxLen at hl
  by_cases hfit : (ws.length : Int) <= left
  · go_enter Tryz.func85, Tryz.ntmps85
    go_wp2
    go_loop [1, 5] (fun l i => ∃ k : Nat, k <= ws.length /\ i = .int .i64 k /\ 0 <= left - ws.length - zbz (ws.take k) /\ l = .int .i64 (left - ws.length - zbz (ws.take k))) (fun _ i => ws.length - (intOf i).toNat)
    case atStart => exact ⟨0, Nat.zero_le _, rfl, by simp [zbz]; omega, by simp [zbz]⟩
    case round =>
      obtain ⟨k, hk, rfl, hpos, rfl⟩ := hrel
      by_cases hlt : k < ws.length
      · obtain ⟨b, off, rfl, hb, hc⟩ := hw.cells (by rintro rfl; simp at hlt)
        have hsm := hw.small _ (List.getElem_mem hlt)
        unfold maxLen at hsm
        clear hw
        have hck := hc k hlt
        have HS : Hid (zbz (ws.take (k + 1)) = zbz (ws.take k) + ws[k].size) := zl0 ws k hlt
        have hle := znx ws (k + 1)
        clear hc
        by_cases hneg : left - ws.length - zbz (ws.take k) - ws[k].size < 0
        · have HF : Hid (zL (qI ws) left = -1) := zC (by have := HS.out; unfold qI; omega)
          clear hle
          go_wp2
          go_ret
          exact ⟨zo HF.out.symm, rfl⟩
        · clear hle
          go_wp2
          go_round
          case rel => exact ⟨k + 1, by omega, by go_num, by rw [HS.out]; omega, by rw [HS.out]; go_num⟩
          case measure => simp [intOf]; omega
      · have HF : Hid (zL (qI ws) left = left - ws.length - zbz (ws.take k)) := by
          rw [zmE ws k (by omega)] at hpos ⊢
          have e : zL (qI ws) left = left - qI ws := zM (by unfold qI; omega)
          unfold Hid; rw [e]; unfold qI; omega
        clear hw
        go_wp2
        go_ret
        exact ⟨zo HF.out.symm, rfl⟩
  · have HF : Hid (zL (qI ws) left = -1) := zC (by unfold qI; omega)
    clear hw
    go_enter Tryz.func85, Tryz.ntmps85
    go_wp2
    go_ret
    exact ⟨zo HF.out.symm, rfl⟩
set_option maxHeartbeats 400000 in
theorem zcx (a a' : Option Addr) (cap cap' : Nat) (ws : List ByteArray) (w : World) (hw : zD w a ws) (hw' : zD w a' ws) :
    Calls Tryz.prog 132 #[.slice a ws.length cap, .slice a' ws.length cap'] w fun e w' => e = .returned (.bool true) /\ Below w.heap.size w w' := by
  have hl := hw.len
  unfold maxLen at hl
  have hnn : ((ws.length : Int) != ws.length) = false := by simp
  go_enter Tryz.func132, Tryz.ntmps132
  go_wp2
  go_loopw [5] (fun i wr => ∃ k : Nat, k <= ws.length /\ i = .int .i64 k /\ ∃ n, wr = w.drewN n) (fun i _ => ws.length - (intOf i).toNat)
  case atStart => exact ⟨0, Nat.zero_le _, rfl, 0, rfl⟩
  case round =>
    obtain ⟨k, hk, rfl, nd, rfl⟩ := hrel
    by_cases hlt : k < ws.length
    · obtain ⟨b, off, rfl, hb, hc⟩ := hw.cells (by rintro rfl; simp at hlt)
      obtain ⟨b', off', rfl, hb', hc'⟩ := hw'.cells (by rintro rfl; simp at hlt)
      clear hw hw'
      have hck := hc k hlt
      have hck' := hc' k hlt
      have hltI : (k : Int) < (ws.length : Int) := by omega
      clear hc hc'
      go_wp2
      go_quiet (fail)
      go_wp2
      exact ⟨⟨k + 1, by omega, by go_num, nd + nq, rfl⟩, by simp [intOf]; omega⟩
    · clear hw hw'
      go_wp2
      go_ret
      exact ⟨rfl, below_drewN (Below.refl _ _) nd⟩
set_option maxHeartbeats 1000000 in
theorem zgQ (nm : ByteArray) (kd ls ms : Int) (a a' : Option Addr) (cap cap' : Nat) (ws : List ByteArray) (to : ByteArray) (rl : Int) (mu fx : Bool) (df wg : ByteArray) (w : World) (hw : zD w a ws) (hw' : zD w a' ws) :
    Calls Tryz.prog 173 #[.agg #[.string nm, .int .i64 kd, .int .i64 ls, .int .i64 ms, .slice a ws.length cap, .string to, .int .i64 rl, .bool mu, .bool fx, .string df, .string wg], .agg #[.string nm, .int .i64 kd, .int .i64 ls, .int .i64 ms, .slice a' ws.length cap', .string to, .int .i64 rl, .bool mu, .bool fx, .string df, .string wg]] w
      fun e w' => e = .returned (.bool true) /\ Below w.heap.size w w' := by
  go_enter Tryz.func173, Tryz.ntmps173
  go_wp2_with (go_at_call 132; refine (zcx _ _ _ _ _ _ (by exact hw.mono (zB _ _ _)) (by exact hw'.mono (zB _ _ _))).mono ?_; rintro e w1 ⟨rfl, hb1⟩; have hc1 := (zn5 hb1).1; have hz1 := hb1.size; simp only [World.size_alloc] at hz1)
  go_ret
  exact ⟨rfl, (zB _ _ _).trans (hb1.mono (by simp; omega))⟩
def jT (nm : ByteArray) (ws : List ByteArray) (to df wg : ByteArray) : Nat := nm.size + qI ws + to.size + df.size + wg.size
theorem jI (a : Option Addr) (cap : Nat) (ws : List ByteArray) (left : Int) (w : World) (hw : zD w a ws) (h0 : 0 <= left) (h1 : left <= 1048576) (h : (qI ws : Int) <= left) :
    Calls Tryz.prog 85 #[.slice a ws.length cap, .int .i64 left] w fun e w' => e = .returned (.int .i64 (left - qI ws)) /\ w' = w := by
  refine (zeg a cap ws left w hw h0 h1).mono ?_
  rintro e w' ⟨rfl, rfl⟩
  exact ⟨zo (zM h), rfl⟩
theorem zc5 (a : Option Addr) (cap : Nat) (ws : List ByteArray) (left : Int) (w : World) (hw : zD w a ws) (h0 : 0 <= left) (h1 : left <= 1048576) (h : ¬ (qI ws : Int) <= left) :
    Calls Tryz.prog 85 #[.slice a ws.length cap, .int .i64 left] w fun e w' => e = .returned (.int .i64 (-1)) /\ w' = w := by
  refine (zeg a cap ws left w hw h0 h1).mono ?_
  rintro e w' ⟨rfl, rfl⟩
  exact ⟨zo (zC h), rfl⟩
set_option maxHeartbeats 1000000 in
theorem zds (nm : ByteArray) (kd ls ms : Int) (a : Option Addr) (cap : Nat) (ws : List ByteArray) (to : ByteArray) (rl : Int) (mu fx : Bool) (df wg : ByteArray) (left : Int) (w : World) (hw : zD w a ws) (h0 : 0 <= left) (h1 : left <= 1048576)
    (hnm : nm.size <= maxLen) (hto : to.size <= maxLen) (hdf : df.size <= maxLen) (hwg : wg.size <= maxLen) :
    Calls Tryz.prog 134 #[.agg #[.string nm, .int .i64 kd, .int .i64 ls, .int .i64 ms, .slice a ws.length cap, .string to, .int .i64 rl, .bool mu, .bool fx, .string df, .string wg], .int .i64 left] w fun e w' => e = .returned (.int .i64 (zL (jT nm ws to df wg) left)) /\ Below w.heap.size w w' := by
  unfold maxLen at hnm hto hdf hwg
  by_cases c1 : (nm.size : Int) <= left
  rotate_left
  · have HF : Hid (zL (jT nm ws to df wg) left = -1) := zC (by unfold jT; omega)
    go_enter Tryz.func134, Tryz.ntmps134
    go_wp2_with fail
    go_ret
    exact ⟨zo HF.out.symm, (Below.refl _ _).alloc (Nat.le_refl _) _⟩
  by_cases c2 : (qI ws : Int) <= left - nm.size
  rotate_left
  · have HF : Hid (zL (jT nm ws to df wg) left = -1) := zC (by unfold jT; omega)
    go_enter Tryz.func134, Tryz.ntmps134
    go_wp2_with (go_at_call 85; refine (zc5 _ _ _ _ _ (by exact hw.mono ((Below.refl _ _).alloc (Nat.le_refl _) _)) (by omega) (by omega) (by omega)).mono ?_; rintro e w1 ⟨rfl, rfl⟩)
    go_ret
    exact ⟨zo HF.out.symm, (Below.refl _ _).alloc (Nat.le_refl _) _⟩
  by_cases c3 : (to.size : Int) <= left - nm.size - qI ws
  rotate_left
  · have HF : Hid (zL (jT nm ws to df wg) left = -1) := zC (by unfold jT; omega)
    go_enter Tryz.func134, Tryz.ntmps134
    go_wp2_with (go_at_call 85; refine (jI _ _ _ _ _ (by exact hw.mono ((Below.refl _ _).alloc (Nat.le_refl _) _)) (by omega) (by omega) (by omega)).mono ?_; rintro e w1 ⟨rfl, rfl⟩)
    go_ret
    exact ⟨zo HF.out.symm, (Below.refl _ _).alloc (Nat.le_refl _) _⟩
  by_cases c4 : (df.size : Int) <= left - nm.size - qI ws - to.size
  rotate_left
  · have HF : Hid (zL (jT nm ws to df wg) left = -1) := zC (by unfold jT; omega)
    go_enter Tryz.func134, Tryz.ntmps134
    go_wp2_with (go_at_call 85; refine (jI _ _ _ _ _ (by exact hw.mono ((Below.refl _ _).alloc (Nat.le_refl _) _)) (by omega) (by omega) (by omega)).mono ?_; rintro e w1 ⟨rfl, rfl⟩)
    go_ret
    exact ⟨zo HF.out.symm, (Below.refl _ _).alloc (Nat.le_refl _) _⟩
  by_cases c5 : (wg.size : Int) <= left - nm.size - qI ws - to.size - df.size
  rotate_left
  · have HF : Hid (zL (jT nm ws to df wg) left = -1) := zC (by unfold jT; omega)
    go_enter Tryz.func134, Tryz.ntmps134
    go_wp2_with (go_at_call 85; refine (jI _ _ _ _ _ (by exact hw.mono ((Below.refl _ _).alloc (Nat.le_refl _) _)) (by omega) (by omega) (by omega)).mono ?_; rintro e w1 ⟨rfl, rfl⟩)
    go_ret
    exact ⟨zo HF.out.symm, (Below.refl _ _).alloc (Nat.le_refl _) _⟩
  · have HF : Hid (zL (jT nm ws to df wg) left = left - nm.size - qI ws - to.size - df.size - wg.size) := by
      have e : zL (jT nm ws to df wg) left = left - jT nm ws to df wg := zM (by unfold jT; omega)
      unfold Hid; rw [e]; unfold jT; omega
    go_enter Tryz.func134, Tryz.ntmps134
    go_wp2_with (go_at_call 85; refine (jI _ _ _ _ _ (by exact hw.mono ((Below.refl _ _).alloc (Nat.le_refl _) _)) (by omega) (by omega) (by omega)).mono ?_; rintro e w1 ⟨rfl, rfl⟩)
    go_ret
    exact ⟨zo HF.out.symm, (Below.refl _ _).alloc (Nat.le_refl _) _⟩
end Go.Proofs.YtnbpglbbjnkhpaaGreat

namespace Go.Proofs.YtnbpglbbjnkhpaaGreat
open Go.RowKit
theorem zdv.load {w : World} {b off : Nat} {f : Fld} {a : Option Addr} {cap : Nat} (h : zdv w b off f a cap) :
    w.cell? ⟨b, off, none⟩ = some (.string f.nm) /\ w.cell? ⟨b, off + 1, none⟩ = some (.int .i64 f.kd) /\ w.cell? ⟨b, off + 2, none⟩ = some (.int .i64 f.ls) /\ w.cell? ⟨b, off + 3, none⟩ = some (.int .i64 f.ms) /\
    w.cell? ⟨b, off + 4, none⟩ = some (.slice a f.ws.length cap) /\ w.cell? ⟨b, off + 5, none⟩ = some (.string f.to) /\ w.cell? ⟨b, off + 6, none⟩ = some (.int .i64 f.rl) /\ w.cell? ⟨b, off + 7, none⟩ = some (.bool f.mu) /\
    w.cell? ⟨b, off + 8, none⟩ = some (.bool f.fx) /\ w.cell? ⟨b, off + 9, none⟩ = some (.string f.df) /\ w.cell? ⟨b, off + 10, none⟩ = some (.string f.wg) :=
  ⟨h.cell 0 (by omega), h.cell 1 (by omega), h.cell 2 (by omega), h.cell 3 (by omega), h.cell 4 (by omega), h.cell 5 (by omega), h.cell 6 (by omega), h.cell 7 (by omega), h.cell 8 (by omega), h.cell 9 (by omega), h.cell 10 (by omega)⟩
end Go.Proofs.YtnbpglbbjnkhpaaGreat
