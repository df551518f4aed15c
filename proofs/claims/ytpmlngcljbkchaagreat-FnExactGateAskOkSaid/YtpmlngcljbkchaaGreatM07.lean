import Derived.Test.YtpmlngcljbkchaaGreatM04
import Derived.Test.YtpmlngcljbkchaaGreatM01
import Derived.Test.YtpmlngcljbkchaaGreatRows
import Derived.Test.YtpmlngcljbkchaaGreatM05
import Derived.ProofKit
import Derived.SliceStrings
namespace Go.Proofs.YtpmlngcljbkchaaGreat
open Go.RowKit

/-- What a mend holds. -/
structure Mnd where
  kd : ByteArray
  fd : ByteArray
  wh : ByteArray
  wi : ByteArray
  pt : ByteArray
  fr : ByteArray

def Mnd.cells (m : Mnd) : Array Value := #[.string m.kd, .string m.fd, .string m.wh, .string m.wi, .string m.pt, .string m.fr]

structure Mnd.Small (m : Mnd) : Prop where
  kd : m.kd.size ≤ maxLen
  fd : m.fd.size ≤ maxLen
  wh : m.wh.size ≤ maxLen
  wi : m.wi.size ≤ maxLen
  pt : m.pt.size ≤ maxLen
  fr : m.fr.size ≤ maxLen

/-- A slice of mends that lies in memory. -/
structure MndsAt (w : World) (a : Option Addr) (ms : List Mnd) : Prop where
  len : ms.length ≤ maxLen
  small : ∀ i (h : i < ms.length), ms[i].Small
  rows : ms ≠ [] → ∃ b off, a = some ⟨b, off, none⟩ ∧ b < w.heap.size ∧ ∀ i (h : i < ms.length), ∀ j, j < 6 → w.cell? ⟨b, off + i * 6 + j, none⟩ = ms[i].cells[j]?

theorem MndsAt.mono {w w' : World} {a : Option Addr} {ms : List Mnd} (h : MndsAt w a ms) (hl : Below w.heap.size w w') : MndsAt w' a ms :=
  ⟨h.len, h.small, fun hne => by
    obtain ⟨b, off, ha, hb, hr⟩ := h.rows hne
    exact ⟨b, off, ha, Nat.lt_of_lt_of_le hb hl.size, fun i hi j hj => (hl.cell (p := ⟨b, off + i * 6 + j, none⟩) hb).trans (hr i hi j hj)⟩⟩

/-- The six cells of a mend, in a later world. -/
theorem MndsAt.load {w w' : World} {a : Option Addr} {ms : List Mnd} (h : MndsAt w a ms) (hl : Below w.heap.size w w') (i : Nat) (hi : i < ms.length) : ∃ b off, a = some ⟨b, off, none⟩ ∧ b < w.heap.size ∧
    w'.cell? ⟨b, off + i * 6, none⟩ = some (.string ms[i].kd) ∧ w'.cell? ⟨b, off + i * 6 + 1, none⟩ = some (.string ms[i].fd) ∧ w'.cell? ⟨b, off + i * 6 + 2, none⟩ = some (.string ms[i].wh) ∧ w'.cell? ⟨b, off + i * 6 + 3, none⟩ = some (.string ms[i].wi) ∧ w'.cell? ⟨b, off + i * 6 + 4, none⟩ = some (.string ms[i].pt) ∧ w'.cell? ⟨b, off + i * 6 + 5, none⟩ = some (.string ms[i].fr) := by
  obtain ⟨b, off, ha, hb, hr⟩ := h.rows (by rintro rfl; simp at hi)
  have hc : ∀ j, j < 6 → w'.cell? ⟨b, off + i * 6 + j, none⟩ = ms[i].cells[j]? := fun j hj => (hl.cell (p := ⟨b, off + i * 6 + j, none⟩) hb).trans (hr i hi j hj)
  exact ⟨b, off, ha, hb, hc 0 (by omega), hc 1 (by omega), hc 2 (by omega), hc 3 (by omega), hc 4 (by omega), hc 5 (by omega)⟩

end Go.Proofs.YtpmlngcljbkchaaGreat

namespace Go.Proofs.YtpmlngcljbkchaaGreat
open Go.RowKit

def Gate.within (n lo hi : Int) : Bool := decide (lo ≤ n) && decide (n ≤ hi)

set_option maxHeartbeats 400000 in
theorem isWithin_any (n lo hi : Int) (w : World) :
    Calls Tryz.prog 52 #[.int .i64 n, .int .i64 lo, .int .i64 hi] w fun e w' => e = .returned (.bool (Gate.within n lo hi)) ∧ w' = w := by
  by_cases h1 : lo ≤ n
  · by_cases h2 : n ≤ hi
    · have HF : Hid (Gate.within n lo hi = true) := by unfold Hid Gate.within; simp [h1, h2]
      go_enter Tryz.func52, Tryz.ntmps52
      go_wp2_with fail
      go_ret
      exact ⟨ret_bool HF.out.symm, rfl⟩
    · have HF : Hid (Gate.within n lo hi = false) := by unfold Hid Gate.within; simp [h2]
      go_enter Tryz.func52, Tryz.ntmps52
      go_wp2_with fail
      go_ret
      exact ⟨ret_bool HF.out.symm, rfl⟩
  · have HF : Hid (Gate.within n lo hi = false) := by unfold Hid Gate.within; simp [h1]
    go_enter Tryz.func52, Tryz.ntmps52
    go_wp2_with fail
    go_ret
    exact ⟨ret_bool HF.out.symm, rfl⟩

end Go.Proofs.YtpmlngcljbkchaaGreat

namespace Go.Proofs.YtpmlngcljbkchaaGreat
open Go.RowKit

set_option maxHeartbeats 400000 in
theorem l1Byte_any (c : UInt8) (w : World) :
    Calls Tryz.prog 64 #[.int .u8 c.toNat] w fun e w' => e = .returned (.bool (Gate.nameByte c)) ∧ w' = w := by
  go_enter Tryz.func64, Tryz.ntmps64
  go_wp2
  all_goals
    go_ret
    refine ⟨ret_bool ?_, rfl⟩
    rw [Bool.eq_iff_iff]; simp [Gate.nameByte]; try omega

end Go.Proofs.YtpmlngcljbkchaaGreat

namespace Go.Proofs.YtpmlngcljbkchaaGreat
open Go.RowKit

def numRes (s : ByteArray) : Int := if Gate.decOk s = true then Gate.decS s else -1

theorem pow_small (k : Nat) (h : k ≤ 7) : (10 : Int) ^ k ≤ 10000000 := by
  have : k = 0 ∨ k = 1 ∨ k = 2 ∨ k = 3 ∨ k = 4 ∨ k = 5 ∨ k = 6 ∨ k = 7 := by omega
  rcases this with h | h | h | h | h | h | h | h <;> subst h <;> decide

set_option maxHeartbeats 800000 in
theorem l1Number_loop (s : ByteArray) (w : World) (h1 : 1 ≤ s.size) (h7 : s.size ≤ 7) (hz : s.size ≤ 1 ∨ ¬ (s[0].toNat : Int) = 48) :
    Calls Tryz.prog 103 #[.string s] w fun e w' => e = .returned (.int .i64 (numRes s)) ∧ w' = w := by
  have HF : Hid (Gate.decOk s = Gate.allDigit s) := Gate.decOk_all s h1 h7 hz
  rcases (show (s.size ≤ 1) ∨ (1 < s.size ∧ ¬ (s[0].toNat : Int) = 48) by rcases hz with h | h <;> omega) with hone | ⟨hmore, hz0⟩
  all_goals
    clear hz
    try have hz1 : ((s[0].toNat : Int) == 48) = false := by simpa using hz0
    try clear hz0
    go_enter Tryz.func103, Tryz.ntmps103
    go_wp2_with (go_at_call 38; refine (l1In_yes _ _ _ _ (by omega) (by omega)).mono ?_; rintro e w' ⟨rfl, rfl⟩)
    go_loop [3, 4] (fun n i => ∃ k : Nat, k ≤ s.size ∧ i = .int .i64 k ∧ (s.data.toList.take k).all Gate.digit = true ∧ n = .int .i64 (Gate.dec (s.data.toList.take k))) (fun _ i => s.size - (intOf i).toNat)
    case atStart => exact ⟨0, Nat.zero_le _, rfl, rfl, rfl⟩
    case round =>
      obtain ⟨k, hk, rfl, hall, rfl⟩ := hrel
      have hlen : (s.data.toList.take k).length ≤ k := List.length_take_le _ _
      obtain ⟨hd0, hd1⟩ := Gate.dec_bound _ hall k hlen
      by_cases hlt : k < s.size
      · have hp := pow_small k (by omega)
        have hd2 : Gate.dec (s.data.toList.take k) < 10000000 := by omega
        clear hp hd1 hlen
        have HS : Hid ((s.data.toList.take (k + 1)).all Gate.digit = (true && Gate.digit s[k])) := by rw [Gate.all_snoc _ s k hlt, hall]; rfl
        have HD : Hid (Gate.dec (s.data.toList.take (k + 1)) = Gate.dec (s.data.toList.take k) * 10 + ((s[k].toNat : Int) - 48)) := by rw [Gate.take_snoc s k hlt]; exact Gate.dec_snoc _ _
        have HN : Hid (Gate.digit s[k] = false → Gate.allDigit s = false) := fun h => Gate.all_not Gate.digit s k hlt h
        clear hall
        by_cases h48 : (s[k].toNat : Int) < 48
        · have HC : Hid (Gate.digit s[k] = false) := by simp [Gate.digit, Hid]; omega
          go_wp2
          go_ret
          exact ⟨ret_int (by unfold numRes; rw [HF.out, HN.out HC.out]; rfl), rfl⟩
        · by_cases h57 : 57 < (s[k].toNat : Int)
          · have HC : Hid (Gate.digit s[k] = false) := by simp [Gate.digit, Hid]; omega
            go_wp2
            go_ret
            exact ⟨ret_int (by unfold numRes; rw [HF.out, HN.out HC.out]; rfl), rfl⟩
          · have HC : Hid (Gate.digit s[k] = true) := by simp [Gate.digit, Hid]; omega
            go_wp2
            go_round
            case rel => exact ⟨k + 1, by omega, by go_num, by rw [HS.out, HC.out]; rfl, by rw [HD.out]; go_num⟩
            case measure => simp [intOf]; omega
      · have HA : Hid (Gate.allDigit s = true) := by unfold Gate.allDigit Hid; rw [← Gate.take_all s k (by omega)]; exact hall
        have HB : Hid (Gate.dec (s.data.toList.take k) = Gate.decS s) := by rw [Gate.take_all s k (by omega)]; rfl
        clear hall hd0 hd1 hlen
        go_wp2
        go_ret
        exact ⟨ret_int (by unfold numRes; rw [HF.out, HA.out, HB.out]; rfl), rfl⟩

set_option maxHeartbeats 400000 in
theorem l1Number_any (s : ByteArray) (w : World) (hs : s.size ≤ maxLen) :
    Calls Tryz.prog 103 #[.string s] w fun e w' => e = .returned (.int .i64 (numRes s)) ∧ w' = w := by
  unfold maxLen at hs
  by_cases h17 : 1 ≤ s.size ∧ s.size ≤ 7
  · obtain ⟨h1, h7⟩ := h17
    by_cases hz : 1 < s.size ∧ (s[0].toNat : Int) = 48
    · obtain ⟨hm, hz0⟩ := hz
      have HF : Hid (numRes s = -1) := by unfold numRes Hid; rw [Gate.decOk_no_zero s hm hz0]; rfl
      have hz1 : ((s[0].toNat : Int) == 48) = true := by simpa using hz0
      clear hz0
      go_enter Tryz.func103, Tryz.ntmps103
      go_wp2_with (go_at_call 38; refine (l1In_yes _ _ _ _ (by omega) (by omega)).mono ?_; rintro e w' ⟨rfl, rfl⟩)
      go_ret
      exact ⟨ret_int HF.out.symm, rfl⟩
    · exact l1Number_loop s w h1 h7 (by omega)
  · have HF : Hid (numRes s = -1) := by unfold numRes Hid; rw [Gate.decOk_no_len s h17]; rfl
    go_enter Tryz.func103, Tryz.ntmps103
    go_wp2_with (go_at_call 38; refine (l1In_no _ _ _ _ (by omega)).mono ?_; rintro e w' ⟨rfl, rfl⟩)
    go_ret
    exact ⟨ret_int HF.out.symm, rfl⟩

end Go.Proofs.YtpmlngcljbkchaaGreat

namespace Go.Proofs.YtpmlngcljbkchaaGreat
open Go.ChangeShapes Go.WideShapes Go.ChangeAt Go.RowKit

theorem Tryz.cellsStrings : Tryz.prog.cellsOf 27 = 1 := by kernel_rfl
theorem Tryz.cellsField : Tryz.prog.cellsOf 131 = 11 := by kernel_rfl

/-- A field of a shape, read. -/
theorem read_field {H : Type} {enc : TypeId × Value → H} {w : World} {base : Nat} {spare : Nat → Bool} {held : Bool} {fuel : Nat} {cs : List Value} {x : DataW H × List MemPlace}
    (h : DataW.trod enc Tryz.prog w base spare held fuel 131 cs = some x) :
    ∃ nm kd ls ms a cap ws to rl mu fx df wg, cs = [.string nm, .int .i64 kd, .int .i64 ls, .int .i64 ms, .slice a (List.length ws) cap, .string to, .int .i64 rl, .bool mu, .bool fx, .string df, .string wg] ∧ StrsAt w a ws ∧
      nm.size ≤ maxLen ∧ to.size ≤ maxLen ∧ df.size ≤ maxLen ∧ wg.size ≤ maxLen := by
  have hlen : cs.length = 11 := by
    obtain ⟨_, _, _, _, hl, _, _⟩ := DataW.trod_struct Tryz.underlying131 h
    rw [hl]; exact Tryz.cellsField
  match cs, hlen with
  | [c0, c1, c2, c3, c4, c5, c6, c7, c8, c9, c10], _ =>
    have hf := field_one Tryz.underlying131 h
    obtain ⟨_, _, f0⟩ := hf 0 9 0 c0 rfl Tryz.cellsString rfl
    obtain ⟨_, _, f1⟩ := hf 1 3 1 c1 rfl Tryz.cellsInt rfl
    obtain ⟨_, _, f2⟩ := hf 2 3 2 c2 rfl Tryz.cellsInt rfl
    obtain ⟨_, _, f3⟩ := hf 3 3 3 c3 rfl Tryz.cellsInt rfl
    obtain ⟨_, _, f4⟩ := hf 4 27 4 c4 rfl Tryz.cellsStrings rfl
    obtain ⟨_, _, f5⟩ := hf 5 9 5 c5 rfl Tryz.cellsString rfl
    obtain ⟨_, _, f6⟩ := hf 6 3 6 c6 rfl Tryz.cellsInt rfl
    obtain ⟨_, _, f7⟩ := hf 7 4 7 c7 rfl Tryz.cellsBool rfl
    obtain ⟨_, _, f8⟩ := hf 8 4 8 c8 rfl Tryz.cellsBool rfl
    obtain ⟨_, _, f9⟩ := hf 9 9 9 c9 rfl Tryz.cellsString rfl
    obtain ⟨_, _, f10⟩ := hf 10 9 10 c10 rfl Tryz.cellsString rfl
    obtain ⟨nm, e0, _, s0⟩ := DataW.trod_string Tryz.underlying9 f0
    obtain ⟨kd, e1, _, _⟩ := DataW.trod_int Tryz.underlying3 f1
    obtain ⟨ls, e2, _, _⟩ := DataW.trod_int Tryz.underlying3 f2
    obtain ⟨ms, e3, _, _⟩ := DataW.trod_int Tryz.underlying3 f3
    obtain ⟨a, cap, ws, e4, hS⟩ := read_strs Tryz.underlying27 Tryz.underlying9 Tryz.cellsString f4
    obtain ⟨to, e5, _, s5⟩ := DataW.trod_string Tryz.underlying9 f5
    obtain ⟨rl, e6, _, _⟩ := DataW.trod_int Tryz.underlying3 f6
    obtain ⟨mu, e7, _⟩ := DataW.trod_bool Tryz.underlying4 f7
    obtain ⟨fx, e8, _⟩ := DataW.trod_bool Tryz.underlying4 f8
    obtain ⟨df, e9, _, s9⟩ := DataW.trod_string Tryz.underlying9 f9
    obtain ⟨wg, e10, _, s10⟩ := DataW.trod_string Tryz.underlying9 f10
    simp only [List.cons.injEq, and_true] at e0 e1 e2 e3 e4 e5 e6 e7 e8 e9 e10
    subst e0 e1 e2 e3 e4 e5 e6 e7 e8 e9 e10
    exact ⟨nm, kd, ls, ms, a, cap, ws, to, rl, mu, fx, df, wg, rfl, hS, s0, s5, s9, s10⟩

end Go.Proofs.YtpmlngcljbkchaaGreat
