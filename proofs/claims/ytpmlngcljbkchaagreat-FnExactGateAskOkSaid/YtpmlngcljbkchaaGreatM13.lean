import Derived.Test.YtpmlngcljbkchaaGreatM11
import Derived.Test.YtpmlngcljbkchaaGreatM06
import Derived.Deep.QuietTactic
import Derived.BigQuiet
import Derived.Test.YtpmlngcljbkchaaGreatM05
import Derived.Test.YtpmlngcljbkchaaGreatM10
namespace Go.Proofs.YtpmlngcljbkchaaGreat
open Go.RowKit

set_option maxHeartbeats 1000000 in
theorem l1Ascending_any (a : Option Addr) (cap : Nat) (ws : List ByteArray) (w : World) (hw : StrsAt w a ws) :
    Calls Tryz.prog 43 #[.slice a ws.length cap] w fun e w' => e = .returned (.bool (Gate.asc ws)) ∧ ∃ n, w' = w.drewN n := by
  have hl := hw.len
  unfold maxLen at hl
  go_enter Tryz.func43, Tryz.ntmps43
  go_wp2
  go_loopw [3] (fun i wr => ∃ k : Nat, k ≤ ws.length ∧ i = .int .i64 k ∧ Gate.up (Gate.ascAt ws) k = true ∧ ∃ n, wr = w.drewN n) (fun i _ => ws.length - (intOf i).toNat)
  case atStart => exact ⟨0, Nat.zero_le _, rfl, rfl, 0, rfl⟩
  case round =>
    obtain ⟨k, hk, rfl, hup, hwr⟩ := hrel
    have HW : Hid (∃ n, wr = w.drewN n) := hwr
    by_cases hlt : k < ws.length
    · obtain ⟨b, off, rfl, hb, hc0⟩ := hw.cells (by rintro rfl; simp at hlt)
      have hc : ∀ i (h : i < ws.length), wr.cell? ⟨b, off + i, none⟩ = some (.string ws[i]) := by obtain ⟨n, rfl⟩ := hwr; exact hc0
      have hsm := hw.small _ (List.getElem_mem hlt)
      clear hw hc0 hwr
      have hck := hc k hlt
      have hltI : (k : Int) < (ws.length : Int) := by omega
      by_cases hn : Gate.nameOk ws[k] = true
      · have hn' := hn
        by_cases hk0 : k = 0
        · have HF : Hid (Gate.up (Gate.ascAt ws) (k + 1) = true) := by subst hk0; unfold Hid; rw [Gate.up_succ, Gate.ascAt_first hlt hn]; rfl
          have hg : decide (0 < k) = false := by simp; omega
          clear hn hc hup hk0
          go_wp2
          go_quiet ((go_at_call 37; exact Calls.quiet_of_same (as_bool hn' (l1NameOk_any _ _ hsm))))
          go_wp2
          obtain ⟨n, rfl⟩ := HW.out
          exact ⟨⟨k + 1, by omega, by go_num, HF.out, n + nq, by simp⟩, by simp [intOf]; omega⟩
        · obtain ⟨m, rfl⟩ : ∃ m, k = m + 1 := ⟨k - 1, by omega⟩
          have hcm := hc m (by omega)
          have HU : Hid (Gate.up (Gate.ascAt ws) (m + 1 + 1) = Gate.less ws[m] ws[m + 1]) := by unfold Hid; rw [Gate.up_succ, hup, Gate.ascAt_more hlt hn]; rfl
          have HN : Hid (Gate.less ws[m] ws[m + 1] = false → Gate.asc ws = false) := fun h => Gate.up_not hlt (by rw [Gate.ascAt_more hlt hn]; exact h)
          clear hn hc hup hk0
          by_cases hls : Gate.less ws[m] ws[m + 1] = true
          · have hls' : Op.bytesLess ws[m].toList ws[m + 1].toList = true := hls
            have HLS : Hid (Gate.less ws[m] ws[m + 1] = true) := hls
            clear hls
            go_wp2
            go_quiet ((go_at_call 37; exact Calls.quiet_of_same (as_bool hn' (l1NameOk_any _ _ hsm))))
            go_wp2
            obtain ⟨n, rfl⟩ := HW.out
            exact ⟨⟨m + 1 + 1, by omega, by go_num, by rw [HU.out, HLS.out], n + nq, by simp⟩, by simp [intOf]; omega⟩
          · have hls' : Op.bytesLess ws[m].toList ws[m + 1].toList = false := by simpa [Gate.less] using hls
            have HLS : Hid (Gate.less ws[m] ws[m + 1] = false) := hls'
            clear hls
            go_wp2
            go_quiet ((go_at_call 37; exact Calls.quiet_of_same (as_bool hn' (l1NameOk_any _ _ hsm))))
            go_wp2
            go_ret
            refine ⟨ret_bool (HN.out HLS.out).symm, ?_⟩
            obtain ⟨n, rfl⟩ := HW.out
            exact ⟨n + nq, by simp⟩
      · have hn' : Gate.nameOk ws[k] = false := by simpa using hn
        have HF : Hid (Gate.asc ws = false) := Gate.up_not hlt (Gate.ascAt_name hlt hn')
        clear hn hc hup
        go_wp2
        go_quiet ((go_at_call 37; exact Calls.quiet_of_same (as_bool hn' (l1NameOk_any _ _ hsm))))
        go_wp2
        go_ret
        refine ⟨ret_bool HF.out.symm, ?_⟩
        obtain ⟨n, rfl⟩ := HW.out
        exact ⟨n + nq, by simp⟩
    · have HF : Hid (Gate.asc ws = true) := by
        have e : k = ws.length := by omega
        subst e; exact hup
      clear hw hup hwr
      go_wp2
      go_ret
      exact ⟨ret_bool HF.out.symm, HW.out⟩

end Go.Proofs.YtpmlngcljbkchaaGreat

namespace Go.Proofs.YtpmlngcljbkchaaGreat
open Go.RowKit

set_option maxHeartbeats 400000 in
theorem Index_any (a : Option Addr) (cap : Nat) (ws : List ByteArray) (v : ByteArray) (w : World) (hw : StrsAt w a ws) :
    Calls Tryz.prog 163 #[.slice a ws.length cap, .string v] w fun e w' => ∃ r : Int, e = .returned (.int .i64 r) ∧ decide (0 ≤ r) = Gate.has ws v ∧ w' = w := by
  have hl := hw.len
  unfold maxLen at hl
  by_cases hne : ws = []
  · subst hne
    go_enter Tryz.func163, Tryz.ntmps163
    go_wp2
    go_loop [8] (fun i => i = .int .i64 0) (fun i => 0)
    case atStart => rfl
    case round =>
      subst hrel
      go_wp2
      go_ret
      exact ⟨_, rfl, rfl, rfl⟩
  · obtain ⟨b, off, rfl, hb, hc⟩ := hw.cells hne
    clear hw
    have HL : Hid (0 < ws.length) := List.length_pos_iff.2 hne
    clear hne
    go_enter Tryz.func163, Tryz.ntmps163
    go_wp2
    go_loop [8] (fun i => ∃ k : Nat, k ≤ ws.length ∧ i = .int .i64 k ∧ Gate.has (ws.take k) v = false) (fun i => ws.length - (intOf i).toNat)
    case atStart => exact ⟨0, Nat.zero_le _, rfl, rfl⟩
    case round =>
      obtain ⟨k, hk, rfl, hall⟩ := hrel
      by_cases hlt : k < ws.length
      · have hck := hc k hlt
        clear hc
        have HS : Hid (Gate.has (ws.take (k + 1)) v = (false || decide (ws[k] = v))) := by rw [Gate.has_snoc ws v k hlt, hall]; rfl
        have HN : Hid (ws[k] = v → Gate.has ws v = true) := fun h => Gate.has_at ws v k hlt h
        clear hall
        by_cases he : ws[k] = v
        · have hbe : (v.toList == ws[k].toList) = true := by rw [Gate.beq_toList]; simpa using he.symm
          have HE : Hid (ws[k] = v) := he
          clear he
          go_wp2
          go_ret
          exact ⟨_, rfl, by rw [HN.out HE.out]; simp, rfl⟩
        · have hbe : (v.toList == ws[k].toList) = false := by rw [Gate.beq_toList]; simpa using fun h => he h.symm
          have HE : Hid (¬ ws[k] = v) := he
          clear he
          go_wp2
          go_round
          case rel => exact ⟨k + 1, by omega, by go_num, by rw [HS.out, decide_eq_false HE.out]; rfl⟩
          case measure => simp [intOf]; omega
      · have HA : Hid (Gate.has ws v = false) := by rw [← Gate.has_all ws v k (by omega)]; exact hall
        clear hall hc
        go_wp2
        go_ret
        exact ⟨_, rfl, by rw [HA.out]; rfl, rfl⟩

set_option maxHeartbeats 400000 in
theorem Contains_any (a : Option Addr) (cap : Nat) (ws : List ByteArray) (v : ByteArray) (w : World) (hw : StrsAt w a ws) :
    Calls Tryz.prog 162 #[.slice a ws.length cap, .string v] w fun e w' => e = .returned (.bool (Gate.has ws v)) ∧ w' = w := by
  go_enter Tryz.func162, Tryz.ntmps162
  go_wp2_with (go_at_call 163; refine (Index_any _ _ _ _ _ hw).mono ?_; rintro e w' ⟨r, rfl, hr, rfl⟩)
  go_ret
  exact ⟨rfl, rfl⟩

set_option maxHeartbeats 400000 in
theorem wordFits_any (nm : ByteArray) (kd ls ms : Int) (a : Option Addr) (cap : Nat) (ws : List ByteArray) (to : ByteArray) (rl : Int) (mu fx : Bool) (df wg : ByteArray) (v : ByteArray) (w : World) (hw : StrsAt w a ws) :
    Calls Tryz.prog 160 #[.agg #[.string nm, .int .i64 kd, .int .i64 ls, .int .i64 ms, .slice a ws.length cap, .string to, .int .i64 rl, .bool mu, .bool fx, .string df, .string wg], .string v] w
      fun e w' => e = .returned (.bool (Gate.has ws v)) ∧ Below w.heap.size w w' := by
  go_enter Tryz.func160, Tryz.ntmps160
  go_wp2_with (go_at_call 162; refine (Contains_any _ _ _ _ _ (hw.mono (by exact (Below.refl _ _).alloc (Nat.le_refl _) _))).mono ?_; rintro e w' ⟨rfl, rfl⟩)
  go_ret
  exact ⟨rfl, (Below.refl _ _).alloc (Nat.le_refl _) _⟩

set_option maxHeartbeats 400000 in
theorem linkFits_any (nm : ByteArray) (kd ls ms : Int) (sl : Value) (to : ByteArray) (rl : Int) (mu fx : Bool) (df wg : ByteArray) (v : ByteArray) (w : World) (hs : v.size ≤ maxLen) :
    Calls Tryz.prog 168 #[.agg #[.string nm, .int .i64 kd, .int .i64 ls, .int .i64 ms, sl, .string to, .int .i64 rl, .bool mu, .bool fx, .string df, .string wg], .string v] w
      fun e w' => e = .returned (.bool (Gate.nameOk v)) ∧ Below w.heap.size w w' := by
  go_enter Tryz.func168, Tryz.ntmps168
  go_wp2_with (go_at_call 51; refine (isName_any _ _ hs).mono ?_; rintro e w' ⟨rfl, rfl⟩)
  go_ret
  exact ⟨rfl, (Below.refl _ _).alloc (Nat.le_refl _) _⟩

set_option maxHeartbeats 400000 in
theorem textFits_any (nm : ByteArray) (kd ls ms : Int) (sl : Value) (to : ByteArray) (rl : Int) (mu fx : Bool) (df wg : ByteArray) (s : ByteArray) (w : World) (hs : s.size ≤ maxLen) :
    Calls Tryz.prog 165 #[.agg #[.string nm, .int .i64 kd, .int .i64 ls, .int .i64 ms, sl, .string to, .int .i64 rl, .bool mu, .bool fx, .string df, .string wg], .string s] w
      fun e w' => e = .returned (.bool (Gate.textFits ls ms s)) ∧ Below w.heap.size w w' := by
  unfold maxLen at hs
  by_cases h1 : (s.size : Int) < ls
  · go_enter Tryz.func165, Tryz.ntmps165
    go_wp2
    go_ret
    refine ⟨ret_bool ?_, (Below.refl _ _).alloc (Nat.le_refl _) _⟩
    unfold Gate.textFits; rw [decide_eq_false (by omega)]; rfl
  · by_cases h2 : ms < (s.size : Int)
    · go_enter Tryz.func165, Tryz.ntmps165
      go_wp2
      go_ret
      refine ⟨ret_bool ?_, (Below.refl _ _).alloc (Nat.le_refl _) _⟩
      unfold Gate.textFits; rw [decide_eq_false (show ¬ (s.size : Int) ≤ ms by omega)]; simp
    · have HF : Hid (Gate.textFits ls ms s = Gate.allPlain s) := by
        unfold Gate.textFits
        rw [decide_eq_true (show ls ≤ s.size by omega), decide_eq_true (show (s.size : Int) ≤ ms by omega)]; simp [Hid]
      go_enter Tryz.func165, Tryz.ntmps165
      go_wp2
      go_loop [20] (fun i => ∃ k : Nat, k ≤ s.size ∧ i = .int .i64 k ∧ (s.data.toList.take k).all Gate.plainByte = true) (fun i => s.size - (intOf i).toNat)
      case atStart => exact ⟨0, Nat.zero_le _, rfl, rfl⟩
      case round =>
        obtain ⟨k, hk, rfl, hall⟩ := hrel
        by_cases hlt : k < s.size
        · have HS : Hid ((s.data.toList.take (k + 1)).all Gate.plainByte = (true && Gate.plainByte s[k])) := by rw [Gate.all_snoc _ s k hlt, hall]; rfl
          have HN : Hid (Gate.plainByte s[k] = false → Gate.allPlain s = false) := fun h => Gate.all_not Gate.plainByte s k hlt h
          clear hall
          by_cases h33 : (s[k].toNat : Int) < 33
          · have HC : Hid (Gate.plainByte s[k] = false) := by simp [Gate.plainByte, Hid]; omega
            go_wp2
            go_ret
            exact ⟨ret_bool (HF.out.trans (HN.out HC.out)).symm, (Below.refl _ _).alloc (Nat.le_refl _) _⟩
          · by_cases h126 : 126 < (s[k].toNat : Int)
            · have HC : Hid (Gate.plainByte s[k] = false) := by simp [Gate.plainByte, Hid]; omega
              go_wp2
              go_ret
              exact ⟨ret_bool (HF.out.trans (HN.out HC.out)).symm, (Below.refl _ _).alloc (Nat.le_refl _) _⟩
            · have HC : Hid (Gate.plainByte s[k] = true) := by simp [Gate.plainByte, Hid]; omega
              go_wp2
              go_round
              case rel => exact ⟨k + 1, by omega, by go_num, by rw [HS.out, HC.out]; rfl⟩
              case measure => simp [intOf]; omega
        · have HA : Hid (Gate.allPlain s = true) := by unfold Gate.allPlain Hid; rw [← Gate.take_all s k (by omega)]; exact hall
          clear hall
          go_wp2
          go_ret
          exact ⟨ret_bool (HF.out.trans HA.out).symm, (Below.refl _ _).alloc (Nat.le_refl _) _⟩

end Go.Proofs.YtpmlngcljbkchaaGreat

namespace Go.Proofs.YtpmlngcljbkchaaGreat
open Go.ChangeShapes Go.WideShapes Go.ChangeAt Go.RowKit

theorem Tryz.cellsTeam : Tryz.prog.cellsOf 75 = 2 := by kernel_rfl

section
variable {H : Type} {enc : TypeId × Value → H} {w : World} {base : Nat} {spare : Nat → Bool} {held : Bool}

theorem read_team {fuel : Nat} {cs : List Value} {x : DataW H × List MemPlace} (h : DataW.trod enc Tryz.prog w base spare held fuel 75 cs = some x) :
    ∃ m : Tm, cs = m.cells.toList ∧ m.Small := by
  have hlen : cs.length = 2 := by
    obtain ⟨_, _, _, _, hl, _, _⟩ := DataW.trod_struct Tryz.underlying75 h
    rw [hl]; exact Tryz.cellsTeam
  match cs, hlen with
  | [c0, c1], _ =>
    have hf := field_one Tryz.underlying75 h
    obtain ⟨_, _, f0⟩ := hf 0 9 0 c0 rfl Tryz.cellsString rfl
    obtain ⟨_, _, f1⟩ := hf 1 9 1 c1 rfl Tryz.cellsString rfl
    obtain ⟨x0, e0, _, s0⟩ := DataW.trod_string Tryz.underlying9 f0
    obtain ⟨x1, e1, _, s1⟩ := DataW.trod_string Tryz.underlying9 f1
    simp only [List.cons.injEq, and_true] at e0 e1
    subst e0 e1
    exact ⟨⟨x0, x1⟩, rfl, s0, s1⟩

theorem read_teams {fuel : Nat} {cs : List Value} {x : DataW H × List MemPlace} (h : DataW.trod enc Tryz.prog w base spare held fuel 24 cs = some x) :
    ∃ a cap ts, cs = [.slice a (List.length ts) cap] ∧ TmsAt w a ts := by
  obtain ⟨a, len, cap, rfl, hm, hr⟩ := read_rows Tryz.underlying24 Tryz.cellsTeam (by omega) h
  rcases Nat.eq_zero_or_pos len with h0 | hp
  · subst h0
    exact ⟨a, cap, [], rfl, ⟨by simp [maxLen], fun i h => absurd h (by simp), fun h => absurd rfl h⟩⟩
  · obtain ⟨b, off, rfl, hb, hrow⟩ := hr hp
    have hf : ∀ i, i < len → ∃ m : Tm, m.Small ∧ ∀ j, j < 2 → w.cell? ⟨b, off + i * 2 + j, none⟩ = m.cells[j]? := by
      intro i hi
      obtain ⟨es, n, y, hel, hcell, hy⟩ := hrow i hi
      obtain ⟨m, rfl, hs⟩ := read_team hy
      exact ⟨m, hs, fun j hj => by rw [hcell j hj]; simp⟩
    obtain ⟨ms, hl, hms⟩ := list_of len hf
    exact ⟨_, cap, ms, by rw [hl], ⟨by omega, fun i hi => (hms i hi).1, fun _ => ⟨b, off, rfl, hb, fun i hi => (hms i hi).2⟩⟩⟩
end

end Go.Proofs.YtpmlngcljbkchaaGreat
