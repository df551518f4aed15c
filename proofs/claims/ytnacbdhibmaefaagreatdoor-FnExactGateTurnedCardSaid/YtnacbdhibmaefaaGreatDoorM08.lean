import Derived.Test.YtnacbdhibmaefaaGreatDoorM05
import Derived.Test.YtnacbdhibmaefaaGreatDoorM07
import Derived.Test.YtnacbdhibmaefaaGreatDoorM02
namespace Go.Proofs.YtnacbdhibmaefaaGreatDoor
open Go.RowKit

theorem shps_few {ss : List Shp} (h : (shpsSz ss : Int) ≤ 1048576) : ss.length ≤ 1048576 ∧ ∀ i (h : i < ss.length), ss[i].fs.length ≤ 1048576 ∧ ∀ j (h' : j < ss[i].fs.length), ss[i].fs[j].ws.length ≤ 1048576 := by
  unfold shpsSz at h
  refine ⟨by omega, fun i hi => ?_⟩
  have h1 : Shp.sz ss[i] ≤ sumS ss := sum_mem Shp.sz ss i hi
  unfold Shp.sz fldsSz at h1
  refine ⟨by omega, fun j hj => ?_⟩
  have h2 : Fld.sz ss[i].fs[j] ≤ sumF ss[i].fs := sum_mem Fld.sz ss[i].fs j hj
  unfold Fld.sz fldSz strsSz at h2
  omega

theorem ob_few {o : Ob} {l : Int} (h : (obSz o : Int) ≤ l) (hl : l ≤ 1048576) : o.vs.length ≤ 1048576 ∧ o.hs.length ≤ 1048576 := by
  unfold obSz strsSz at h
  omega

theorem ob_own {w w' : World} {o : Ob} {a a' : Option Addr} {bv bh : Nat} (ho : ObAt w o a a') (h1 : w'.heap[bv]? = some (.cells (strArr o.vs) 9)) (h2 : w'.heap[bh]? = some (.cells (strArr o.hs) 9)) : ObAt w' o (some ⟨bv, 0, none⟩) (some ⟨bh, 0, none⟩) :=
  ⟨ho.small, heap_strs h1 ho.vals.len ho.vals.small, heap_strs h2 ho.holds.len ho.holds.small⟩

end Go.Proofs.YtnacbdhibmaefaaGreatDoor

namespace Go.Proofs.YtnacbdhibmaefaaGreatDoor
open Go.RowKit

set_option maxHeartbeats 400000 in
theorem Index_any (a : Option Addr) (cap : Nat) (ws : List ByteArray) (v : ByteArray) (w : World) (hw : StrsAt w a ws) :
    Calls Tryz.prog 102 #[.slice a ws.length cap, .string v] w fun e w' => ∃ r : Int, e = .returned (.int .i64 r) ∧ decide (0 ≤ r) = Gate.has ws v ∧ w' = w := by
  have hl := hw.len
  unfold maxLen at hl
  by_cases hne : ws = []
  · subst hne
    go_enter Tryz.func102, Tryz.ntmps102
    go_wp2
    go_loop [8] (fun i => i = .int .i64 0) (fun i => 0)
    case atStart => rfl
    case round =>
      subst hrel
      go_wp2
      go_ret
      exact ⟨_, rfl, rfl, rfl⟩
  · obtain ⟨b, off, rfl, hb, hc⟩ := hw.cells hne
    clear hw
    have HL : Hid (0 < ws.length) := List.length_pos_iff.2 hne
    clear hne
    go_enter Tryz.func102, Tryz.ntmps102
    go_wp2
    go_loop [8] (fun i => ∃ k : Nat, k ≤ ws.length ∧ i = .int .i64 k ∧ Gate.has (ws.take k) v = false) (fun i => ws.length - (intOf i).toNat)
    case atStart => exact ⟨0, Nat.zero_le _, rfl, rfl⟩
    case round =>
      obtain ⟨k, hk, rfl, hall⟩ := hrel
      by_cases hlt : k < ws.length
      · have hck := hc k hlt
        clear hc
        have HS : Hid (Gate.has (ws.take (k + 1)) v = (false || decide (ws[k] = v))) := by rw [Gate.has_snoc ws v k hlt, hall]; rfl
        have HN : Hid (ws[k] = v → Gate.has ws v = true) := fun h => Gate.has_at ws v k hlt h
        clear hall
        by_cases he : ws[k] = v
        · have hbe : (v.toList == ws[k].toList) = true := by rw [Gate.beq_toList]; simpa using he.symm
          have HE : Hid (ws[k] = v) := he
          clear he
          go_wp2
          go_ret
          exact ⟨_, rfl, by rw [HN.out HE.out]; simp, rfl⟩
        · have hbe : (v.toList == ws[k].toList) = false := by rw [Gate.beq_toList]; simpa using fun h => he h.symm
          have HE : Hid (¬ ws[k] = v) := he
          clear he
          go_wp2
          go_round
          case rel => exact ⟨k + 1, by omega, by go_num, by rw [HS.out, decide_eq_false HE.out]; rfl⟩
          case measure => simp [intOf]; omega
      · have HA : Hid (Gate.has ws v = false) := by rw [← Gate.has_all ws v k (by omega)]; exact hall
        clear hall hc
        go_wp2
        go_ret
        exact ⟨_, rfl, by rw [HA.out]; rfl, rfl⟩

set_option maxHeartbeats 400000 in
theorem Contains_any (a : Option Addr) (cap : Nat) (ws : List ByteArray) (v : ByteArray) (w : World) (hw : StrsAt w a ws) :
    Calls Tryz.prog 101 #[.slice a ws.length cap, .string v] w fun e w' => e = .returned (.bool (Gate.has ws v)) ∧ w' = w := by
  go_enter Tryz.func101, Tryz.ntmps101
  go_wp2_with (go_at_call 102; refine (Index_any _ _ _ _ _ hw).mono ?_; rintro e w' ⟨r, rfl, hr, rfl⟩)
  go_ret
  exact ⟨rfl, rfl⟩

set_option maxHeartbeats 400000 in
theorem wordFits_any (nm : ByteArray) (kd ls ms : Int) (a : Option Addr) (cap : Nat) (ws : List ByteArray) (to : ByteArray) (rl : Int) (mu fx : Bool) (df wg : ByteArray) (v : ByteArray) (w : World) (hw : StrsAt w a ws) :
    Calls Tryz.prog 99 #[.agg #[.string nm, .int .i64 kd, .int .i64 ls, .int .i64 ms, .slice a ws.length cap, .string to, .int .i64 rl, .bool mu, .bool fx, .string df, .string wg], .string v] w
      fun e w' => e = .returned (.bool (Gate.has ws v)) ∧ Below w.heap.size w w' := by
  go_enter Tryz.func99, Tryz.ntmps99
  go_wp2_with (go_at_call 101; refine (Contains_any _ _ _ _ _ (hw.mono (by exact (Below.refl _ _).alloc (Nat.le_refl _) _))).mono ?_; rintro e w' ⟨rfl, rfl⟩)
  go_ret
  exact ⟨rfl, (Below.refl _ _).alloc (Nat.le_refl _) _⟩

set_option maxHeartbeats 400000 in
theorem linkFits_any (nm : ByteArray) (kd ls ms : Int) (sl : Value) (to : ByteArray) (rl : Int) (mu fx : Bool) (df wg : ByteArray) (v : ByteArray) (w : World) (hs : v.size ≤ maxLen) :
    Calls Tryz.prog 107 #[.agg #[.string nm, .int .i64 kd, .int .i64 ls, .int .i64 ms, sl, .string to, .int .i64 rl, .bool mu, .bool fx, .string df, .string wg], .string v] w
      fun e w' => e = .returned (.bool (Gate.nameOk v)) ∧ Below w.heap.size w w' := by
  go_enter Tryz.func107, Tryz.ntmps107
  go_wp2_with (go_at_call 29; refine (isName_any _ _ hs).mono ?_; rintro e w' ⟨rfl, rfl⟩)
  go_ret
  exact ⟨rfl, (Below.refl _ _).alloc (Nat.le_refl _) _⟩

set_option maxHeartbeats 400000 in
theorem textFits_any (nm : ByteArray) (kd ls ms : Int) (sl : Value) (to : ByteArray) (rl : Int) (mu fx : Bool) (df wg : ByteArray) (s : ByteArray) (w : World) (hs : s.size ≤ maxLen) :
    Calls Tryz.prog 104 #[.agg #[.string nm, .int .i64 kd, .int .i64 ls, .int .i64 ms, sl, .string to, .int .i64 rl, .bool mu, .bool fx, .string df, .string wg], .string s] w
      fun e w' => e = .returned (.bool (Gate.textFits ls ms s)) ∧ Below w.heap.size w w' := by
  unfold maxLen at hs
  by_cases h1 : (s.size : Int) < ls
  · go_enter Tryz.func104, Tryz.ntmps104
    go_wp2
    go_ret
    refine ⟨ret_bool ?_, (Below.refl _ _).alloc (Nat.le_refl _) _⟩
    unfold Gate.textFits; rw [decide_eq_false (by omega)]; rfl
  · by_cases h2 : ms < (s.size : Int)
    · go_enter Tryz.func104, Tryz.ntmps104
      go_wp2
      go_ret
      refine ⟨ret_bool ?_, (Below.refl _ _).alloc (Nat.le_refl _) _⟩
      unfold Gate.textFits; rw [decide_eq_false (show ¬ (s.size : Int) ≤ ms by omega)]; simp
    · have HF : Hid (Gate.textFits ls ms s = Gate.allPlain s) := by
        unfold Gate.textFits
        rw [decide_eq_true (show ls ≤ s.size by omega), decide_eq_true (show (s.size : Int) ≤ ms by omega)]; simp [Hid]
      go_enter Tryz.func104, Tryz.ntmps104
      go_wp2
      go_loop [20] (fun i => ∃ k : Nat, k ≤ s.size ∧ i = .int .i64 k ∧ (s.data.toList.take k).all Gate.plainByte = true) (fun i => s.size - (intOf i).toNat)
      case atStart => exact ⟨0, Nat.zero_le _, rfl, rfl⟩
      case round =>
        obtain ⟨k, hk, rfl, hall⟩ := hrel
        by_cases hlt : k < s.size
        · have HS : Hid ((s.data.toList.take (k + 1)).all Gate.plainByte = (true && Gate.plainByte s[k])) := by rw [Gate.all_snoc _ s k hlt, hall]; rfl
          have HN : Hid (Gate.plainByte s[k] = false → Gate.allPlain s = false) := fun h => Gate.all_not Gate.plainByte s k hlt h
          clear hall
          by_cases h33 : (s[k].toNat : Int) < 33
          · have HC : Hid (Gate.plainByte s[k] = false) := by simp [Gate.plainByte, Hid]; omega
            go_wp2
            go_ret
            exact ⟨ret_bool (HF.out.trans (HN.out HC.out)).symm, (Below.refl _ _).alloc (Nat.le_refl _) _⟩
          · by_cases h126 : 126 < (s[k].toNat : Int)
            · have HC : Hid (Gate.plainByte s[k] = false) := by simp [Gate.plainByte, Hid]; omega
              go_wp2
              go_ret
              exact ⟨ret_bool (HF.out.trans (HN.out HC.out)).symm, (Below.refl _ _).alloc (Nat.le_refl _) _⟩
            · have HC : Hid (Gate.plainByte s[k] = true) := by simp [Gate.plainByte, Hid]; omega
              go_wp2
              go_round
              case rel => exact ⟨k + 1, by omega, by go_num, by rw [HS.out, HC.out]; rfl⟩
              case measure => simp [intOf]; omega
        · have HA : Hid (Gate.allPlain s = true) := by unfold Gate.allPlain Hid; rw [← Gate.take_all s k (by omega)]; exact hall
          clear hall
          go_wp2
          go_ret
          exact ⟨ret_bool (HF.out.trans HA.out).symm, (Below.refl _ _).alloc (Nat.le_refl _) _⟩

end Go.Proofs.YtnacbdhibmaefaaGreatDoor

namespace Go.Proofs.YtnacbdhibmaefaaGreatDoor
open Go.RowKit

def numRes (s : ByteArray) : Int := if Gate.decOk s = true then Gate.decS s else -1

theorem pow_small (k : Nat) (h : k ≤ 7) : (10 : Int) ^ k ≤ 10000000 := by
  have : k = 0 ∨ k = 1 ∨ k = 2 ∨ k = 3 ∨ k = 4 ∨ k = 5 ∨ k = 6 ∨ k = 7 := by omega
  rcases this with h | h | h | h | h | h | h | h <;> subst h <;> decide

set_option maxHeartbeats 800000 in
theorem l1Number_loop (s : ByteArray) (w : World) (h1 : 1 ≤ s.size) (h7 : s.size ≤ 7) (hz : s.size ≤ 1 ∨ ¬ (s[0].toNat : Int) = 48) :
    Calls Tryz.prog 64 #[.string s] w fun e w' => e = .returned (.int .i64 (numRes s)) ∧ w' = w := by
  have HF : Hid (Gate.decOk s = Gate.allDigit s) := Gate.decOk_all s h1 h7 hz
  rcases (show (s.size ≤ 1) ∨ (1 < s.size ∧ ¬ (s[0].toNat : Int) = 48) by rcases hz with h | h <;> omega) with hone | ⟨hmore, hz0⟩
  all_goals
    clear hz
    try have hz1 : ((s[0].toNat : Int) == 48) = false := by simpa using hz0
    try clear hz0
    go_enter Tryz.func64, Tryz.ntmps64
    go_wp2_with (go_at_call 41; refine (l1In_yes _ _ _ _ (by omega) (by omega)).mono ?_; rintro e w' ⟨rfl, rfl⟩)
    go_loop [3, 4] (fun n i => ∃ k : Nat, k ≤ s.size ∧ i = .int .i64 k ∧ (s.data.toList.take k).all Gate.digit = true ∧ n = .int .i64 (Gate.dec (s.data.toList.take k))) (fun _ i => s.size - (intOf i).toNat)
    case atStart => exact ⟨0, Nat.zero_le _, rfl, rfl, rfl⟩
    case round =>
      obtain ⟨k, hk, rfl, hall, rfl⟩ := hrel
      have hlen : (s.data.toList.take k).length ≤ k := List.length_take_le _ _
      obtain ⟨hd0, hd1⟩ := Gate.dec_bound _ hall k hlen
      by_cases hlt : k < s.size
      · have hp := pow_small k (by omega)
        have hd2 : Gate.dec (s.data.toList.take k) < 10000000 := by omega
        clear hp hd1 hlen
        have HS : Hid ((s.data.toList.take (k + 1)).all Gate.digit = (true && Gate.digit s[k])) := by rw [Gate.all_snoc _ s k hlt, hall]; rfl
        have HD : Hid (Gate.dec (s.data.toList.take (k + 1)) = Gate.dec (s.data.toList.take k) * 10 + ((s[k].toNat : Int) - 48)) := by rw [Gate.take_snoc s k hlt]; exact Gate.dec_snoc _ _
        have HN : Hid (Gate.digit s[k] = false → Gate.allDigit s = false) := fun h => Gate.all_not Gate.digit s k hlt h
        clear hall
        by_cases h48 : (s[k].toNat : Int) < 48
        · have HC : Hid (Gate.digit s[k] = false) := by simp [Gate.digit, Hid]; omega
          go_wp2
          go_ret
          exact ⟨ret_int (by unfold numRes; rw [HF.out, HN.out HC.out]; rfl), rfl⟩
        · by_cases h57 : 57 < (s[k].toNat : Int)
          · have HC : Hid (Gate.digit s[k] = false) := by simp [Gate.digit, Hid]; omega
            go_wp2
            go_ret
            exact ⟨ret_int (by unfold numRes; rw [HF.out, HN.out HC.out]; rfl), rfl⟩
          · have HC : Hid (Gate.digit s[k] = true) := by simp [Gate.digit, Hid]; omega
            go_wp2
            go_round
            case rel => exact ⟨k + 1, by omega, by go_num, by rw [HS.out, HC.out]; rfl, by rw [HD.out]; go_num⟩
            case measure => simp [intOf]; omega
      · have HA : Hid (Gate.allDigit s = true) := by unfold Gate.allDigit Hid; rw [← Gate.take_all s k (by omega)]; exact hall
        have HB : Hid (Gate.dec (s.data.toList.take k) = Gate.decS s) := by rw [Gate.take_all s k (by omega)]; rfl
        clear hall hd0 hd1 hlen
        go_wp2
        go_ret
        exact ⟨ret_int (by unfold numRes; rw [HF.out, HA.out, HB.out]; rfl), rfl⟩

set_option maxHeartbeats 400000 in
theorem l1Number_any (s : ByteArray) (w : World) (hs : s.size ≤ maxLen) :
    Calls Tryz.prog 64 #[.string s] w fun e w' => e = .returned (.int .i64 (numRes s)) ∧ w' = w := by
  unfold maxLen at hs
  by_cases h17 : 1 ≤ s.size ∧ s.size ≤ 7
  · obtain ⟨h1, h7⟩ := h17
    by_cases hz : 1 < s.size ∧ (s[0].toNat : Int) = 48
    · obtain ⟨hm, hz0⟩ := hz
      have HF : Hid (numRes s = -1) := by unfold numRes Hid; rw [Gate.decOk_no_zero s hm hz0]; rfl
      have hz1 : ((s[0].toNat : Int) == 48) = true := by simpa using hz0
      clear hz0
      go_enter Tryz.func64, Tryz.ntmps64
      go_wp2_with (go_at_call 41; refine (l1In_yes _ _ _ _ (by omega) (by omega)).mono ?_; rintro e w' ⟨rfl, rfl⟩)
      go_ret
      exact ⟨ret_int HF.out.symm, rfl⟩
    · exact l1Number_loop s w h1 h7 (by omega)
  · have HF : Hid (numRes s = -1) := by unfold numRes Hid; rw [Gate.decOk_no_len s h17]; rfl
    go_enter Tryz.func64, Tryz.ntmps64
    go_wp2_with (go_at_call 41; refine (l1In_no _ _ _ _ (by omega)).mono ?_; rintro e w' ⟨rfl, rfl⟩)
    go_ret
    exact ⟨ret_int HF.out.symm, rfl⟩

end Go.Proofs.YtnacbdhibmaefaaGreatDoor
