import Derived.Test.YtfapkhgallmkdaaGreatM07
import Derived.Test.YtfapkhgallmkdaaGreatM06
namespace Go.Proofs.YtfapkhgallmkdaaGreat
open Go.RowKit
set_option maxHeartbeats 400000 in
theorem zaO (ls ms lo hi : Int) (w : World) :
    Calls Tryz.prog 150 #[.int .i64 ls, .int .i64 ms, .int .i64 lo, .int .i64 hi] w fun e w' => e = .returned (.bool (Gate.jk ls ms lo hi)) /\ w' = w := by
  go_enter Tryz.func150, Tryz.ntmps150
  go_wp2
  all_goals
    go_ret
    refine ⟨ze ?_, rfl⟩
    rw [Bool.eq_iff_iff]; simp [Gate.jk]; try omega
set_option maxHeartbeats 400000 in
theorem zhG (nm : ByteArray) (kd ls ms : Int) (a : Option Addr) (n cap : Nat) (to : ByteArray) (rl : Int) (mu fx : Bool) (df wg : ByteArray) (w : World) :
    Calls Tryz.prog 240 #[.agg #[.string nm, .int .i64 kd, .int .i64 ls, .int .i64 ms, .slice a n cap, .string to, .int .i64 rl, .bool mu, .bool fx, .string df, .string wg]] w fun e w' => e = .returned (.bool (Gate.qP 1 ls ms n to rl wg)) /\ Below w.heap.size w w' := by
  go_enter Tryz.func240, Tryz.ntmps240
  go_wp2
  all_goals
    go_ret
    refine ⟨ze ?_, (Below.refl _ _).alloc (Nat.le_refl _) _⟩
    simp_all [Gate.qP]
    try (rw [Bool.eq_iff_iff]; simp)
set_option maxHeartbeats 400000 in
theorem zkk (nm : ByteArray) (kd ls ms : Int) (a : Option Addr) (n cap : Nat) (to : ByteArray) (rl : Int) (mu fx : Bool) (df wg : ByteArray) (w : World) :
    Calls Tryz.prog 243 #[.agg #[.string nm, .int .i64 kd, .int .i64 ls, .int .i64 ms, .slice a n cap, .string to, .int .i64 rl, .bool mu, .bool fx, .string df, .string wg]] w fun e w' => e = .returned (.bool (Gate.qP 2 ls ms n to rl wg)) /\ Below w.heap.size w w' := by
  go_enter Tryz.func243, Tryz.ntmps243
  go_wp2
  all_goals
    go_ret
    refine ⟨ze ?_, (Below.refl _ _).alloc (Nat.le_refl _) _⟩
    simp_all [Gate.qP]
    try (rw [Bool.eq_iff_iff]; simp)
set_option maxHeartbeats 400000 in
theorem zj4 (nm : ByteArray) (kd ls ms : Int) (a : Option Addr) (n cap : Nat) (to : ByteArray) (rl : Int) (mu fx : Bool) (df wg : ByteArray) (w : World) :
    Calls Tryz.prog 248 #[.agg #[.string nm, .int .i64 kd, .int .i64 ls, .int .i64 ms, .slice a n cap, .string to, .int .i64 rl, .bool mu, .bool fx, .string df, .string wg]] w fun e w' => e = .returned (.bool (Gate.qP 3 ls ms n to rl wg)) /\ Below w.heap.size w w' := by
  go_enter Tryz.func248, Tryz.ntmps248
  go_wp2
  all_goals
    go_ret
    refine ⟨ze ?_, (Below.refl _ _).alloc (Nat.le_refl _) _⟩
    simp_all [Gate.qP]
    try (rw [Bool.eq_iff_iff]; simp)
set_option maxHeartbeats 400000 in
theorem zkv (nm : ByteArray) (kd ls ms : Int) (a : Option Addr) (n cap : Nat) (to : ByteArray) (rl : Int) (mu fx : Bool) (df wg : ByteArray) (w : World) :
    Calls Tryz.prog 251 #[.agg #[.string nm, .int .i64 kd, .int .i64 ls, .int .i64 ms, .slice a n cap, .string to, .int .i64 rl, .bool mu, .bool fx, .string df, .string wg]] w fun e w' => e = .returned (.bool (Gate.qP 4 ls ms n to rl wg)) /\ Below w.heap.size w w' := by
  go_enter Tryz.func251, Tryz.ntmps251
  go_wp2
  all_goals
    go_ret
    refine ⟨ze ?_, (Below.refl _ _).alloc (Nat.le_refl _) _⟩
    simp_all [Gate.qP]
    try (rw [Bool.eq_iff_iff]; simp)
set_option maxHeartbeats 400000 in
theorem zgu (nm : ByteArray) (ls ms : Int) (a : Option Addr) (cap : Nat) (ws : List ByteArray) (to : ByteArray) (rl : Int) (mu fx : Bool) (df wg : ByteArray) (a0 : Option Addr) (cap0 : Nat) (ss : List Shp) (w : World) (hwg : wg.size <= maxLen) :
    Calls Tryz.prog 242 #[.agg #[.string nm, .int .i64 1, .int .i64 ls, .int .i64 ms, .slice a ws.length cap, .string to, .int .i64 rl, .bool mu, .bool fx, .string df, .string wg], .slice a0 ss.length cap0] w fun e w' => e = .returned (.bool (Gate.yY ss ⟨nm, 1, ls, ms, ws, to, rl, mu, fx, df, wg⟩)) /\ Below w.heap.size w w' := by
  have HF : Hid (Gate.yY ss ⟨nm, 1, ls, ms, ws, to, rl, mu, fx, df, wg⟩ = (Gate.jk ls ms 0 1000000 && (wg.toList.isEmpty || Gate.zy wg))) := by simp [Gate.yY, Hid]
  by_cases hr : Gate.jk ls ms 0 1000000 = true
  · by_cases he : wg.toList.isEmpty = true
    · go_enter Tryz.func242, Tryz.ntmps242
      go_wp2_with (go_at_call 150; refine (zaO _ _ _ _ _).mono ?_; rintro e w' ⟨rfl, rfl⟩)
      go_ret
      exact ⟨ze (by rw [HF.out, hr, he]; rfl), (Below.refl _ _).alloc (Nat.le_refl _) _⟩
    · have he' : wg.toList.isEmpty = false := by simpa using he
      clear he
      go_enter Tryz.func242, Tryz.ntmps242
      go_wp2_with (first | (go_at_call 150; refine (zaO _ _ _ _ _).mono ?_; rintro e w' ⟨rfl, rfl⟩) | (go_at_call 134; refine (zN _ _ hwg).mono ?_; rintro e w' ⟨rfl, rfl⟩))
      go_ret
      exact ⟨ze (by rw [HF.out, hr, he']; rfl), (Below.refl _ _).alloc (Nat.le_refl _) _⟩
  · have hr' : Gate.jk ls ms 0 1000000 = false := by simpa using hr
    clear hr
    go_enter Tryz.func242, Tryz.ntmps242
    go_wp2_with (go_at_call 150; refine (zaO _ _ _ _ _).mono ?_; rintro e w' ⟨rfl, rfl⟩)
    go_ret
    exact ⟨ze (by rw [HF.out, hr']; rfl), (Below.refl _ _).alloc (Nat.le_refl _) _⟩
set_option maxHeartbeats 400000 in
theorem ziR (nm : ByteArray) (ls ms : Int) (a : Option Addr) (cap : Nat) (ws : List ByteArray) (to : ByteArray) (rl : Int) (mu fx : Bool) (df wg : ByteArray) (a0 : Option Addr) (cap0 : Nat) (ss : List Shp) (w : World) :
    Calls Tryz.prog 250 #[.agg #[.string nm, .int .i64 3, .int .i64 ls, .int .i64 ms, .slice a ws.length cap, .string to, .int .i64 rl, .bool mu, .bool fx, .string df, .string wg], .slice a0 ss.length cap0] w fun e w' => e = .returned (.bool (Gate.yY ss ⟨nm, 3, ls, ms, ws, to, rl, mu, fx, df, wg⟩)) /\ Below w.heap.size w w' := by
  have HF : Hid (Gate.yY ss ⟨nm, 3, ls, ms, ws, to, rl, mu, fx, df, wg⟩ = Gate.jk ls ms 1 40) := by simp [Gate.yY, Hid]
  go_enter Tryz.func250, Tryz.ntmps250
  go_wp2_with (go_at_call 150; refine (zaO _ _ _ _ _).mono ?_; rintro e w' ⟨rfl, rfl⟩)
  go_ret
  exact ⟨ze HF.out.symm, (Below.refl _ _).alloc (Nat.le_refl _) _⟩
set_option maxHeartbeats 400000 in
theorem ziD (nm : ByteArray) (ls ms : Int) (a : Option Addr) (cap : Nat) (ws : List ByteArray) (to : ByteArray) (rl : Int) (mu fx : Bool) (df wg : ByteArray) (a0 : Option Addr) (cap0 : Nat) (ss : List Shp) (w : World) (hw : zC w a ws) :
    Calls Tryz.prog 245 #[.agg #[.string nm, .int .i64 2, .int .i64 ls, .int .i64 ms, .slice a ws.length cap, .string to, .int .i64 rl, .bool mu, .bool fx, .string df, .string wg], .slice a0 ss.length cap0] w fun e w' => e = .returned (.bool (Gate.yY ss ⟨nm, 2, ls, ms, ws, to, rl, mu, fx, df, wg⟩)) /\ Below w.heap.size w w' := by
  have HF : Hid (Gate.yY ss ⟨nm, 2, ls, ms, ws, to, rl, mu, fx, df, wg⟩ = (decide (1 <= ws.length) && decide (ws.length <= 6) && Gate.asc ws)) := by simp [Gate.yY, Hid]
  have hl := hw.len
  unfold maxLen at hl
  by_cases h1 : 0 < ws.length
  · by_cases h6 : ws.length <= 6
    · go_enter Tryz.func245, Tryz.ntmps245
      go_wp2_with (go_at_call 216; refine (ziq _ _ _ _ (by exact hw.mono ((Below.refl _ _).alloc (Nat.le_refl _) _))).mono ?_; rintro e w' ⟨rfl, rfl⟩)
      go_ret
      exact ⟨ze (by rw [HF.out, decide_eq_true (show 1 <= ws.length by omega), decide_eq_true h6]; rfl), (Below.refl _ _).alloc (Nat.le_refl _) _⟩
    · go_enter Tryz.func245, Tryz.ntmps245
      go_wp2_with fail
      go_ret
      exact ⟨ze (by rw [HF.out, decide_eq_true (show 1 <= ws.length by omega), decide_eq_false (show ¬ ws.length <= 6 by omega)]; rfl), (Below.refl _ _).alloc (Nat.le_refl _) _⟩
  · go_enter Tryz.func245, Tryz.ntmps245
    go_wp2_with fail
    go_ret
    exact ⟨ze (by rw [HF.out, decide_eq_false (show ¬ 1 <= ws.length by omega)]; rfl), (Below.refl _ _).alloc (Nat.le_refl _) _⟩
end Go.Proofs.YtfapkhgallmkdaaGreat

namespace Go.Proofs.YtfapkhgallmkdaaGreat
open Go.RowKit
theorem zg6 {a b : Int} {p q : Bool} (h : a = b) (h2 : p = q) : Ending.returned (.tuple #[.int .i64 a, .bool p]) = .returned (.tuple #[.int .i64 b, .bool q]) := by rw [h, h2]
def jV (s : ByteArray) : Int := if Gate.jS s = true then Gate.zeE s else 0
set_option maxHeartbeats 800000 in
theorem zim (s : ByteArray) (w : World) (h1 : 1 <= s.size) (h7 : s.size <= 7) (hz : s.size <= 1 \/ ¬ (s[0].toNat : Int) = 48) :
    Calls Tryz.prog 219 #[.string s] w fun e w' => e = .returned (.tuple #[.int .i64 (jV s), .bool (Gate.jS s)]) /\ w' = w := by
  have HF : Hid (Gate.jS s = Gate.zao s) := Gate.zjB s h1 h7 hz
  have hne : s.toList.isEmpty = false := by rw [Gate.zq]; exact decide_eq_false (by omega)
  rcases (show (¬ (s[0].toNat : Int) = 48) \/ (s.size <= 1 /\ (s[0].toNat : Int) = 48) by rcases hz with h | h <;> omega) with hz0 | ⟨hone, hz0⟩
  all_goals
    clear hz
    first
      | (have hz1 : ((s[0].toNat : Int) == 48) = true := by simpa using hz0)
      | (have hz1 : ((s[0].toNat : Int) == 48) = false := by simpa using hz0)
    clear hz0
    go_enter Tryz.func219, Tryz.ntmps219
    go_wp2
    go_loop [4, 25] (fun n i => ∃ k : Nat, k <= s.size /\ i = .int .i64 k /\ (s.data.toList.take k).all Gate.digit = true /\ n = .int .i64 (Gate.dec (s.data.toList.take k))) (fun _ i => s.size - (intOf i).toNat)
    case atStart => exact ⟨0, Nat.zero_le _, rfl, rfl, rfl⟩
    case round =>
      obtain ⟨k, hk, rfl, hall, rfl⟩ := hrel
      have hlen : (s.data.toList.take k).length <= k := List.length_take_le _ _
      obtain ⟨hd0, hd1⟩ := Gate.zd0 _ hall k hlen
      by_cases hlt : k < s.size
      · have hp := zjw k (by omega)
        have hd2 : Gate.dec (s.data.toList.take k) < 10000000 := by omega
        clear hp hd1 hlen
        have HS : Hid ((s.data.toList.take (k + 1)).all Gate.digit = (true && Gate.digit s[k])) := by rw [Gate.zbr _ s k hlt, hall]; rfl
        have HD : Hid (Gate.dec (s.data.toList.take (k + 1)) = Gate.dec (s.data.toList.take k) * 10 + ((s[k].toNat : Int) - 48)) := by rw [Gate.zfu s k hlt]; exact Gate.zls _ _
        have HN : Hid (Gate.digit s[k] = false -> Gate.zao s = false) := fun h => Gate.zc2 Gate.digit s k hlt h
        clear hall
        by_cases hd : 48 <= (s[k].toNat : Int) /\ (s[k].toNat : Int) <= 57
        · have HC : Hid (Gate.digit s[k] = true) := by simp [Gate.digit, Hid]; omega
          obtain ⟨h48, h57⟩ := hd
          go_wp2_with (go_at_call 202; refine (zgb _ _ h48 h57).mono ?_; rintro e w' ⟨rfl, rfl⟩)
          go_round
          case rel => exact ⟨k + 1, by omega, by go_num, by rw [HS.out, HC.out]; rfl, by rw [HD.out]⟩
          case measure => simp [intOf]; omega
        · have HC : Hid (Gate.digit s[k] = false) := by simp [Gate.digit, Hid]; omega
          have HDD : Hid (¬ (48 <= (s[k].toNat : Int) /\ (s[k].toNat : Int) <= 57)) := hd
          clear hd
          go_wp2_with (go_at_call 202; refine (zb7 _ _ HDD.out).mono ?_; rintro e w' ⟨rfl, rfl⟩)
          go_ret2
          exact ⟨zg6 (by unfold jV; rw [HF.out, HN.out HC.out]; rfl) (by rw [HF.out, HN.out HC.out]), rfl⟩
      · have HA : Hid (Gate.zao s = true) := by unfold Gate.zao Hid; rw [<- Gate.zaS s k (by omega)]; exact hall
        have HB : Hid (Gate.dec (s.data.toList.take k) = Gate.zeE s) := by rw [Gate.zaS s k (by omega)]; rfl
        clear hall hd0 hd1 hlen
        go_wp2
        go_ret2
        exact ⟨zg6 (by unfold jV; rw [HF.out, HA.out, HB.out]; rfl) (by rw [HF.out, HA.out]), rfl⟩
set_option maxHeartbeats 400000 in
theorem zcn (s : ByteArray) (w : World) (hs : s.size <= maxLen) :
    Calls Tryz.prog 219 #[.string s] w fun e w' => e = .returned (.tuple #[.int .i64 (jV s), .bool (Gate.jS s)]) /\ w' = w := by
  unfold maxLen at hs
  by_cases h0 : s.size = 0
  · rw [Gate.zck s h0]
    go_enter Tryz.func219, Tryz.ntmps219
    go_wp2
    go_ret2
    exact ⟨rfl, rfl⟩
  have hne : s.toList.isEmpty = false := by rw [Gate.zq]; simp [h0]
  by_cases h7 : s.size <= 7
  · by_cases hz : 1 < s.size /\ (s[0].toNat : Int) = 48
    · obtain ⟨hm, hz0⟩ := hz
      have HF : Hid (Gate.jS s = false) := Gate.zd7 s hm hz0
      have hz1 : ((s[0].toNat : Int) == 48) = true := by simpa using hz0
      clear hz0
      go_enter Tryz.func219, Tryz.ntmps219
      go_wp2
      go_ret2
      exact ⟨zg6 (by unfold jV; rw [HF.out]; rfl) HF.out.symm, rfl⟩
    · exact zim s w (by omega) h7 (by omega)
  · have HF : Hid (Gate.jS s = false) := Gate.zcW s (by omega)
    go_enter Tryz.func219, Tryz.ntmps219
    go_wp2
    go_ret2
    exact ⟨zg6 (by unfold jV; rw [HF.out]; rfl) HF.out.symm, rfl⟩
end Go.Proofs.YtfapkhgallmkdaaGreat
