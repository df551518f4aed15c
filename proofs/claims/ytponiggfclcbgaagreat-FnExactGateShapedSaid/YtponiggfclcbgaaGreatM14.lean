import Derived.Test.YtponiggfclcbgaaGreatM11
import Derived.Test.YtponiggfclcbgaaGreatM13
namespace Go.Proofs.YtponiggfclcbgaaGreat
open Go.RowKit

set_option maxHeartbeats 400000 in
theorem specFits_1 (nm : ByteArray) (ls ms : Int) (a : Option Addr) (cap : Nat) (ws : List ByteArray) (to : ByteArray) (rl : Int) (mu fx : Bool) (df wg : ByteArray) (v : ByteArray) (w : World) (hv : v.size ≤ maxLen) :
    Calls Tryz.prog 93 #[.agg #[.string nm, .int .i64 1, .int .i64 ls, .int .i64 ms, .slice a ws.length cap, .string to, .int .i64 rl, .bool mu, .bool fx, .string df, .string wg], .string v] w
      fun e w' => e = .returned (.bool (Gate.fits 1 ls ms ws v)) ∧ Below w.heap.size w w' := by
  rw [Gate.fits_num]
  by_cases hd : Gate.decOk v = true
  · have HE : Hid (numRes v = Gate.decS v) := by unfold numRes Hid; rw [hd]; rfl
    have HF : Hid (Gate.numFits ls ms v = (decide (ls ≤ numRes v) && decide (numRes v ≤ ms))) := by rw [HE.out]; exact Gate.numFits_yes _ _ _ hd
    have h0 : 0 ≤ numRes v := by rw [HE.out]; exact Gate.decS_nonneg v hd
    go_enter Tryz.func93, Tryz.ntmps93
    go_wp2_with (first
      | (go_at_call 117; refine (l1Number_any _ _ hv).mono ?_; rintro e w' ⟨rfl, rfl⟩)
      | (go_at_call 113; refine (l1In_any _ _ _ _).mono ?_; rintro e w' ⟨rfl, rfl⟩))
    go_ret
    exact ⟨ret_bool HF.out.symm, (Below.refl _ _).alloc (Nat.le_refl _) _⟩
  · have hd' : Gate.decOk v = false := by simpa using hd
    have HF : Hid (Gate.numFits ls ms v = false) := Gate.numFits_no _ _ _ hd'
    have h0 : numRes v < 0 := by unfold numRes; rw [hd']; simp
    go_enter Tryz.func93, Tryz.ntmps93
    go_wp2_with (first
      | (go_at_call 117; refine (l1Number_any _ _ hv).mono ?_; rintro e w' ⟨rfl, rfl⟩)
      | (go_at_call 113; refine (l1In_any _ _ _ _).mono ?_; rintro e w' ⟨rfl, rfl⟩))
    go_ret
    exact ⟨ret_bool HF.out.symm, (Below.refl _ _).alloc (Nat.le_refl _) _⟩

set_option maxHeartbeats 400000 in
theorem specFits_2 (nm : ByteArray) (ls ms : Int) (a : Option Addr) (cap : Nat) (ws : List ByteArray) (to : ByteArray) (rl : Int) (mu fx : Bool) (df wg : ByteArray) (v : ByteArray) (w : World) (hws : StrsAt w a ws) :
    Calls Tryz.prog 93 #[.agg #[.string nm, .int .i64 2, .int .i64 ls, .int .i64 ms, .slice a ws.length cap, .string to, .int .i64 rl, .bool mu, .bool fx, .string df, .string wg], .string v] w
      fun e w' => e = .returned (.bool (Gate.fits 2 ls ms ws v)) ∧ Below w.heap.size w w' := by
  by_cases hz : v.size = 0
  · rw [Gate.fits_empty _ _ _ _ _ hz]
    have hne : v.toList.isEmpty = true := by rw [Gate.isEmpty_of_size]; simp [hz]
    clear hz hws
    go_enter Tryz.func93, Tryz.ntmps93
    go_wp2_with fail
    go_ret
    exact ⟨rfl, (Below.refl _ _).alloc (Nat.le_refl _) _⟩
  · rw [Gate.fits_2 _ _ _ _ hz]
    have hne : v.toList.isEmpty = false := by rw [Gate.isEmpty_of_size]; simp [hz]
    go_enter Tryz.func93, Tryz.ntmps93
    go_wp2_with (go_at_call 94; refine (l1Has_any _ _ _ _ _ (by exact hws.mono ((Below.refl _ _).alloc (Nat.le_refl _) _))).mono ?_; rintro e w' ⟨rfl, rfl⟩)
    go_ret
    exact ⟨rfl, (Below.refl _ _).alloc (Nat.le_refl _) _⟩

set_option maxHeartbeats 400000 in
theorem specFits_4 (nm : ByteArray) (ls ms : Int) (a : Option Addr) (cap : Nat) (ws : List ByteArray) (to : ByteArray) (rl : Int) (mu fx : Bool) (df wg : ByteArray) (v : ByteArray) (w : World) (hv : v.size ≤ maxLen) :
    Calls Tryz.prog 93 #[.agg #[.string nm, .int .i64 4, .int .i64 ls, .int .i64 ms, .slice a ws.length cap, .string to, .int .i64 rl, .bool mu, .bool fx, .string df, .string wg], .string v] w
      fun e w' => e = .returned (.bool (Gate.fits 4 ls ms ws v)) ∧ Below w.heap.size w w' := by
  rw [Gate.fits_link]
  go_enter Tryz.func93, Tryz.ntmps93
  go_wp2_with (go_at_call 90; refine (l1NameOk_any _ _ hv).mono ?_; rintro e w' ⟨rfl, rfl⟩)
  go_ret
  exact ⟨rfl, (Below.refl _ _).alloc (Nat.le_refl _) _⟩

set_option maxHeartbeats 400000 in
theorem specFits_other (nm : ByteArray) (kd ls ms : Int) (a : Option Addr) (cap : Nat) (ws : List ByteArray) (to : ByteArray) (rl : Int) (mu fx : Bool) (df wg : ByteArray) (v : ByteArray) (w : World) (h1 : kd ≠ 1) (h2 : kd ≠ 2) (h3 : kd ≠ 3) (h4 : kd ≠ 4) :
    Calls Tryz.prog 93 #[.agg #[.string nm, .int .i64 kd, .int .i64 ls, .int .i64 ms, .slice a ws.length cap, .string to, .int .i64 rl, .bool mu, .bool fx, .string df, .string wg], .string v] w
      fun e w' => e = .returned (.bool (Gate.fits kd ls ms ws v)) ∧ Below w.heap.size w w' := by
  rw [Gate.fits_other kd ls ms ws v h1 h2 h3 h4]
  have e1 : (kd == 1) = false := by simpa using h1
  have e2 : (kd == 2) = false := by simpa using h2
  have e3 : (kd == 3) = false := by simpa using h3
  have e4 : (kd == 4) = false := by simpa using h4
  clear h1 h2 h3 h4
  go_enter Tryz.func93, Tryz.ntmps93
  go_wp2_with fail
  go_ret
  exact ⟨rfl, (Below.refl _ _).alloc (Nat.le_refl _) _⟩

set_option maxHeartbeats 800000 in
theorem specFits_3 (nm : ByteArray) (ls ms : Int) (a : Option Addr) (cap : Nat) (ws : List ByteArray) (to : ByteArray) (rl : Int) (mu fx : Bool) (df wg : ByteArray) (v : ByteArray) (w : World) (hv : v.size ≤ maxLen) :
    Calls Tryz.prog 93 #[.agg #[.string nm, .int .i64 3, .int .i64 ls, .int .i64 ms, .slice a ws.length cap, .string to, .int .i64 rl, .bool mu, .bool fx, .string df, .string wg], .string v] w
      fun e w' => e = .returned (.bool (Gate.fits 3 ls ms ws v)) ∧ Below w.heap.size w w' := by
  unfold maxLen at hv
  go_enter Tryz.func93, Tryz.ntmps93
  go_wp2_with fail
  go_loop [6] (fun i => ∃ k : Nat, k ≤ v.size ∧ i = .int .i64 k ∧ (v.data.toList.take k).all Gate.plainByte = true) (fun i => v.size - (intOf i).toNat)
  case atStart => exact ⟨0, Nat.zero_le _, rfl, rfl⟩
  case round =>
    obtain ⟨k, hk, rfl, hall⟩ := hrel
    by_cases hlt : k < v.size
    · have HS : Hid ((v.data.toList.take (k + 1)).all Gate.plainByte = (true && Gate.plainByte v[k])) := by rw [Gate.all_snoc _ v k hlt, hall]; rfl
      have HN : Hid (Gate.plainByte v[k] = false → Gate.fits 3 ls ms ws v = false) := fun h => Gate.fits_text_not ls ms ws v (Gate.all_not Gate.plainByte v k hlt h)
      clear hall
      by_cases h33 : 33 ≤ (v[k].toNat : Int) ∧ (v[k].toNat : Int) ≤ 126
      · have HC : Hid (Gate.plainByte v[k] = true) := by simp [Gate.plainByte, Hid]; omega
        obtain ⟨ha, hb⟩ := h33
        go_wp2_with (go_at_call 113; refine (l1In_yes _ _ _ _ (by omega) (by omega)).mono ?_; rintro e w' ⟨rfl, rfl⟩)
        go_round
        case rel => exact ⟨k + 1, by omega, by go_num, by rw [HS.out, HC.out]; rfl⟩
        case measure => simp [intOf]; omega
      · have HC : Hid (Gate.plainByte v[k] = false) := by simp [Gate.plainByte, Hid]; omega
        have HD : Hid (¬ (33 ≤ (v[k].toNat : Int) ∧ (v[k].toNat : Int) ≤ 126)) := h33
        clear h33
        have hby : (v[k].toNat : Int) < 256 := by have := v[k].toNat_lt; omega
        go_wp2_with (go_at_call 113; refine (l1In_no _ _ _ _ (by have := HD.out; omega)).mono ?_; rintro e w' ⟨rfl, rfl⟩)
        go_ret
        exact ⟨ret_bool (HN.out HC.out).symm, (Below.refl _ _).alloc (Nat.le_refl _) _⟩
    · have HA : Hid (Gate.allPlain v = true) := by unfold Gate.allPlain Hid; rw [← Gate.take_all v k (by omega)]; exact hall
      clear hall
      by_cases hz : v.size = 0
      · have HF : Hid (Gate.fits 3 ls ms ws v = false) := Gate.fits_empty _ _ _ _ _ hz
        have hne : v.toList.isEmpty = true := by rw [Gate.isEmpty_of_size]; simp [hz]
        clear hz
        go_wp2_with fail
        go_ret
        exact ⟨ret_bool HF.out.symm, (Below.refl _ _).alloc (Nat.le_refl _) _⟩
      · have HF : Hid (Gate.fits 3 ls ms ws v = (decide (ls ≤ v.size) && decide ((v.size : Int) ≤ ms))) := Gate.fits_text_all ls ms ws v HA.out hz
        have hne : v.toList.isEmpty = false := by rw [Gate.isEmpty_of_size]; simp [hz]
        go_wp2_with (go_at_call 113; refine (l1In_any _ _ _ _).mono ?_; rintro e w' ⟨rfl, rfl⟩)
        go_ret
        exact ⟨ret_bool HF.out.symm, (Below.refl _ _).alloc (Nat.le_refl _) _⟩

theorem specFits_any (nm : ByteArray) (kd ls ms : Int) (a : Option Addr) (cap : Nat) (ws : List ByteArray) (to : ByteArray) (rl : Int) (mu fx : Bool) (df wg : ByteArray) (v : ByteArray) (w : World) (hv : v.size ≤ maxLen) (hws : StrsAt w a ws) :
    Calls Tryz.prog 93 #[.agg #[.string nm, .int .i64 kd, .int .i64 ls, .int .i64 ms, .slice a ws.length cap, .string to, .int .i64 rl, .bool mu, .bool fx, .string df, .string wg], .string v] w
      fun e w' => e = .returned (.bool (Gate.fits kd ls ms ws v)) ∧ Below w.heap.size w w' := by
  by_cases h1 : kd = 1
  · subst h1; exact specFits_1 nm ls ms a cap ws to rl mu fx df wg v w hv
  by_cases h2 : kd = 2
  · subst h2; exact specFits_2 nm ls ms a cap ws to rl mu fx df wg v w hws
  by_cases h3 : kd = 3
  · subst h3; exact specFits_3 nm ls ms a cap ws to rl mu fx df wg v w hv
  by_cases h4 : kd = 4
  · subst h4; exact specFits_4 nm ls ms a cap ws to rl mu fx df wg v w hv
  exact specFits_other nm kd ls ms a cap ws to rl mu fx df wg v w h1 h2 h3 h4

end Go.Proofs.YtponiggfclcbgaaGreat

namespace Go.Proofs.YtponiggfclcbgaaGreat
open Go.RowKit

set_option maxHeartbeats 1000000 in
theorem specBare_1 (nm : ByteArray) (ls ms : Int) (a : Option Addr) (n cap : Nat) (to : ByteArray) (rl : Int) (mu fx : Bool) (df wg : ByteArray) (w : World) :
    Calls Tryz.prog 115 #[.agg #[.string nm, .int .i64 1, .int .i64 ls, .int .i64 ms, .slice a n cap, .string to, .int .i64 rl, .bool mu, .bool fx, .string df, .string wg]] w fun e w' => e = .returned (.bool (Gate.bareOf 1 ls ms n to rl wg)) ∧ Below w.heap.size w w' := by
  go_enter Tryz.func115, Tryz.ntmps115
  go_wp2
  all_goals
    go_ret
    refine ⟨ret_bool ?_, (Below.refl _ _).alloc (Nat.le_refl _) _⟩
    simp_all [Gate.bareOf]
    try first | omega | (intros; omega) | (rw [Bool.eq_iff_iff]; simp)

set_option maxHeartbeats 1000000 in
theorem specBare_2 (nm : ByteArray) (ls ms : Int) (a : Option Addr) (n cap : Nat) (to : ByteArray) (rl : Int) (mu fx : Bool) (df wg : ByteArray) (w : World) :
    Calls Tryz.prog 115 #[.agg #[.string nm, .int .i64 2, .int .i64 ls, .int .i64 ms, .slice a n cap, .string to, .int .i64 rl, .bool mu, .bool fx, .string df, .string wg]] w fun e w' => e = .returned (.bool (Gate.bareOf 2 ls ms n to rl wg)) ∧ Below w.heap.size w w' := by
  go_enter Tryz.func115, Tryz.ntmps115
  go_wp2
  all_goals
    go_ret
    refine ⟨ret_bool ?_, (Below.refl _ _).alloc (Nat.le_refl _) _⟩
    simp_all [Gate.bareOf]
    try first | omega | (intros; omega) | (rw [Bool.eq_iff_iff]; simp)

set_option maxHeartbeats 1000000 in
theorem specBare_3 (nm : ByteArray) (ls ms : Int) (a : Option Addr) (n cap : Nat) (to : ByteArray) (rl : Int) (mu fx : Bool) (df wg : ByteArray) (w : World) :
    Calls Tryz.prog 115 #[.agg #[.string nm, .int .i64 3, .int .i64 ls, .int .i64 ms, .slice a n cap, .string to, .int .i64 rl, .bool mu, .bool fx, .string df, .string wg]] w fun e w' => e = .returned (.bool (Gate.bareOf 3 ls ms n to rl wg)) ∧ Below w.heap.size w w' := by
  go_enter Tryz.func115, Tryz.ntmps115
  go_wp2
  all_goals
    go_ret
    refine ⟨ret_bool ?_, (Below.refl _ _).alloc (Nat.le_refl _) _⟩
    simp_all [Gate.bareOf]
    try first | omega | (intros; omega) | (rw [Bool.eq_iff_iff]; simp)

set_option maxHeartbeats 1000000 in
theorem specBare_4 (nm : ByteArray) (ls ms : Int) (a : Option Addr) (n cap : Nat) (to : ByteArray) (rl : Int) (mu fx : Bool) (df wg : ByteArray) (w : World) :
    Calls Tryz.prog 115 #[.agg #[.string nm, .int .i64 4, .int .i64 ls, .int .i64 ms, .slice a n cap, .string to, .int .i64 rl, .bool mu, .bool fx, .string df, .string wg]] w fun e w' => e = .returned (.bool (Gate.bareOf 4 ls ms n to rl wg)) ∧ Below w.heap.size w w' := by
  go_enter Tryz.func115, Tryz.ntmps115
  go_wp2
  all_goals
    go_ret
    refine ⟨ret_bool ?_, (Below.refl _ _).alloc (Nat.le_refl _) _⟩
    simp_all [Gate.bareOf]
    try first | omega | (intros; omega) | (rw [Bool.eq_iff_iff]; simp)

set_option maxHeartbeats 1000000 in
theorem specBare_other (nm : ByteArray) (kd ls ms : Int) (a : Option Addr) (n cap : Nat) (to : ByteArray) (rl : Int) (mu fx : Bool) (df wg : ByteArray) (w : World) (h1 : kd ≠ 1) (h2 : kd ≠ 2) (h3 : kd ≠ 3) (h4 : kd ≠ 4) :
    Calls Tryz.prog 115 #[.agg #[.string nm, .int .i64 kd, .int .i64 ls, .int .i64 ms, .slice a n cap, .string to, .int .i64 rl, .bool mu, .bool fx, .string df, .string wg]] w fun e w' => ∃ b, e = .returned (.bool b) ∧ Below w.heap.size w w' := by
  have e1 : (kd == 1) = false := by simpa using h1
  have e2 : (kd == 2) = false := by simpa using h2
  have e3 : (kd == 3) = false := by simpa using h3
  have e4 : (kd == 4) = false := by simpa using h4
  have n1 : (kd != 1) = true := by simpa using h1
  have n2 : (kd != 2) = true := by simpa using h2
  clear h1 h2 h3 h4
  go_enter Tryz.func115, Tryz.ntmps115
  go_wp2
  all_goals
    go_ret
    exact ⟨_, rfl, (Below.refl _ _).alloc (Nat.le_refl _) _⟩

def ShapeRes (ss : List Shp) (v : ByteArray) (e : Ending) : Prop :=
  (Gate.hasKind ss v = false → e = .returned (.int .i64 (-1))) ∧ (Gate.hasKind ss v = true → ∃ k, ∃ h : k < ss.length, e = .returned (.int .i64 (k : Nat)) ∧ Gate.shapeOf ss v = ss[k])

set_option maxHeartbeats 400000 in
theorem l1Shape_any (a : Option Addr) (cap : Nat) (ss : List Shp) (v : ByteArray) (w : World) (hw : ShpsAt w a ss) :
    Calls Tryz.prog 65 #[.slice a ss.length cap, .string v] w fun e w' => ShapeRes ss v e ∧ w' = w := by
  have hl := hw.len
  unfold maxLen at hl
  go_enter Tryz.func65, Tryz.ntmps65
  go_wp2
  go_loop [5] (fun i => ∃ k : Nat, k ≤ ss.length ∧ i = .int .i64 k ∧ Gate.hasKind (ss.take k) v = false) (fun i => ss.length - (intOf i).toNat)
  case atStart => exact ⟨0, Nat.zero_le _, rfl, rfl⟩
  case round =>
    obtain ⟨k, hk, rfl, hno⟩ := hrel
    by_cases hlt : k < ss.length
    · obtain ⟨b, off, rfl, hb, hr⟩ := hw.rows (by rintro rfl; simp at hlt)
      obtain ⟨fa, fcap, hs⟩ := hr k hlt
      have hck := hs.kind
      clear hw hr hs
      by_cases he : ss[k].kd = v
      · have hbe : (ss[k].kd.toList == v.toList) = true := by rw [Gate.beq_toList]; simpa using he
        have HA : Hid (Gate.hasKind ss v = true) := Gate.hasKind_at ss v k hlt he
        have HB : Hid (Gate.shapeOf ss v = ss[k]) := Gate.shapeOf_at ss v k hlt hno he
        clear he hno
        go_wp2
        go_ret
        exact ⟨⟨fun h => (by rw [HA.out] at h; cases h), fun _ => ⟨k, hlt, rfl, HB.out⟩⟩, rfl⟩
      · have hbe : (ss[k].kd.toList == v.toList) = false := by rw [Gate.beq_toList]; simpa using he
        have HS : Hid (Gate.hasKind (ss.take (k + 1)) v = false) := by unfold Hid; rw [Gate.hasKind_snoc ss v k hlt, hno, decide_eq_false he]; rfl
        clear he hno
        go_wp2
        go_round
        case rel => exact ⟨k + 1, by omega, by go_num, HS.out⟩
        case measure => simp [intOf]; omega
    · have HA : Hid (Gate.hasKind ss v = false) := by rw [← Gate.hasKind_all ss v k (by omega)]; exact hno
      clear hno hw
      go_wp2
      go_ret
      exact ⟨⟨fun _ => rfl, fun h => by rw [HA.out] at h; cases h⟩, rfl⟩

theorem l1Shape_no (a : Option Addr) (cap : Nat) (ss : List Shp) (v : ByteArray) (w : World) (hw : ShpsAt w a ss) (h : Gate.hasKind ss v = false) :
    Calls Tryz.prog 65 #[.slice a ss.length cap, .string v] w fun e w' => e = .returned (.int .i64 (-1)) ∧ w' = w := by
  refine (l1Shape_any a cap ss v w hw).mono ?_
  rintro e w' ⟨⟨h1, _⟩, rfl⟩
  exact ⟨h1 h, rfl⟩

theorem l1Shape_yes (a : Option Addr) (cap : Nat) (ss : List Shp) (v : ByteArray) (w : World) (hw : ShpsAt w a ss) (h : Gate.hasKind ss v = true) :
    Calls Tryz.prog 65 #[.slice a ss.length cap, .string v] w fun e w' => ∃ k, ∃ h : k < ss.length, e = .returned (.int .i64 (k : Nat)) ∧ Gate.shapeOf ss v = ss[k] ∧ w' = w := by
  refine (l1Shape_any a cap ss v w hw).mono ?_
  rintro e w' ⟨⟨_, h2⟩, rfl⟩
  obtain ⟨k, hk, he, hs⟩ := h2 h
  exact ⟨k, hk, he, hs, rfl⟩

end Go.Proofs.YtponiggfclcbgaaGreat

namespace Go.Proofs.YtponiggfclcbgaaGreat
open Go.RowKit

set_option maxHeartbeats 2000000 in
theorem specField_1 (a0 : Option Addr) (cap0 : Nat) (ss : List Shp) (nm : ByteArray) (ls ms : Int) (a : Option Addr) (cap : Nat) (ws : List ByteArray) (to : ByteArray) (rl : Int) (mu fx : Bool) (df wg : ByteArray) (w : World) (hnm : nm.size ≤ maxLen) (hdf : df.size ≤ maxLen) (hwg : wg.size ≤ maxLen) (hws : StrsAt w a ws) :
    Calls Tryz.prog 91 #[.slice a0 ss.length cap0, .agg #[.string nm, .int .i64 1, .int .i64 ls, .int .i64 ms, .slice a ws.length cap, .string to, .int .i64 rl, .bool mu, .bool fx, .string df, .string wg]] w
      fun e w' => e = .returned (.bool (Gate.nameOk nm && Gate.fieldOk ss ⟨nm, 1, ls, ms, ws, to, rl, mu, fx, df, wg⟩)) ∧ Below w.heap.size w w' := by
  have HO : Hid ((Gate.nameOk nm && Gate.fieldOk ss ⟨nm, 1, ls, ms, ws, to, rl, mu, fx, df, wg⟩) = (Gate.nameOk nm && (Gate.bareOf 1 ls ms ws.length to rl wg && Gate.soundOf ss ⟨nm, 1, ls, ms, ws, to, rl, mu, fx, df, wg⟩ && (df.toList.isEmpty || Gate.fits 1 ls ms ws df)))) := rfl
  generalize (Gate.nameOk nm && Gate.fieldOk ss ⟨nm, 1, ls, ms, ws, to, rl, mu, fx, df, wg⟩) = res at HO
  by_cases hn : Gate.nameOk nm = true
  rotate_left
  · have HNm : Hid (Gate.nameOk nm = false) := by simpa [Hid] using hn
    clear hn
    go_enter Tryz.func91, Tryz.ntmps91
    go_wp2_with fail
    refine (as_bool HNm.out (l1NameOk_any _ _ hnm)).mono ?_
    rintro e w1 ⟨rfl, rfl⟩
    go_wp2_with fail
    go_ret
    exact ⟨ret_bool (by rw [HO.out, HNm.out]; rfl), (Below.refl _ _).alloc (Nat.le_refl _) _⟩
  have HNm : Hid (Gate.nameOk nm = true) := hn
  clear hn
  by_cases hbare : Gate.bareOf 1 ls ms ws.length to rl wg = true
  rotate_left
  · have HBare : Hid (Gate.bareOf 1 ls ms ws.length to rl wg = false) := by simpa [Hid] using hbare
    clear hbare
    go_enter Tryz.func91, Tryz.ntmps91
    go_wp2_with fail
    refine (as_bool HNm.out (l1NameOk_any _ _ hnm)).mono ?_
    rintro e w1 ⟨rfl, rfl⟩
    go_wp2_with fail
    refine (as_bool HBare.out (specBare_1 _ _ _ _ _ _ _ _ _ _ _ _ _)).mono ?_
    rintro e w2 ⟨rfl, hb2⟩
    have hX2 := box_later (box_new w _ _) (by simp) hb2
    have hz2 : w.heap.size < w2.heap.size := by have := hb2.size; simp at this; omega
    have hB2 : Below w.heap.size w w2 := ((Below.refl _ _).alloc (Nat.le_refl _) _).trans (hb2.mono (by simp))
    clear hb2
    go_wp2_with fail
    go_ret
    exact ⟨ret_bool (by rw [HO.out, HNm.out, HBare.out]; rfl), hB2⟩
  have HBare : Hid (Gate.bareOf 1 ls ms ws.length to rl wg = true) := hbare
  clear hbare
  by_cases hd : df.toList.isEmpty = true
  · have HD : Hid (df.toList.isEmpty = true) := hd
    have HR : Hid (res = Gate.soundOf ss ⟨nm, 1, ls, ms, ws, to, rl, mu, fx, df, wg⟩) := by unfold Hid; rw [HO.out, HNm.out, HBare.out, hd]; simp
    clear HO
    go_enter Tryz.func91, Tryz.ntmps91
    go_wp2_with fail
    refine (as_bool HNm.out (l1NameOk_any _ _ hnm)).mono ?_
    rintro e w1 ⟨rfl, rfl⟩
    go_wp2_with fail
    refine (as_bool HBare.out (specBare_1 _ _ _ _ _ _ _ _ _ _ _ _ _)).mono ?_
    rintro e w2 ⟨rfl, hb2⟩
    have hX2 := box_later (box_new w _ _) (by simp) hb2
    have hz2 : w.heap.size < w2.heap.size := by have := hb2.size; simp at this; omega
    have hB2 : Below w.heap.size w w2 := ((Below.refl _ _).alloc (Nat.le_refl _) _).trans (hb2.mono (by simp))
    clear hb2
    go_wp2_with (go_at_call 90; refine (l1NameOk_any _ _ hwg).mono ?_; rintro e w5 ⟨rfl, rfl⟩)
    all_goals
      go_ret
      refine ⟨ret_bool ?_, hB2⟩
      rw [HR.out]
      simp_all [Gate.soundOf, Gate.rangeOk]
      try omega
  have hd' : df.toList.isEmpty = false := by simpa using hd
  have HD : Hid (df.toList.isEmpty = false) := hd'
  clear hd
  by_cases hfit : Gate.fits 1 ls ms ws df = true
  rotate_left
  · have HFit : Hid (Gate.fits 1 ls ms ws df = false) := by simpa [Hid] using hfit
    clear hfit
    go_enter Tryz.func91, Tryz.ntmps91
    go_wp2_with fail
    refine (as_bool HNm.out (l1NameOk_any _ _ hnm)).mono ?_
    rintro e w1 ⟨rfl, rfl⟩
    go_wp2_with fail
    refine (as_bool HBare.out (specBare_1 _ _ _ _ _ _ _ _ _ _ _ _ _)).mono ?_
    rintro e w2 ⟨rfl, hb2⟩
    have hX2 := box_later (box_new w _ _) (by simp) hb2
    have hz2 : w.heap.size < w2.heap.size := by have := hb2.size; simp at this; omega
    have hB2 : Below w.heap.size w w2 := ((Below.refl _ _).alloc (Nat.le_refl _) _).trans (hb2.mono (by simp))
    clear hb2
    go_wp2_with fail
    refine (as_bool HFit.out (specFits_any _ _ _ _ _ _ _ _ _ _ _ _ _ _ _ hdf (hws.mono hB2))).mono ?_
    rintro e w3 ⟨rfl, hb3⟩
    have hX3 := box_later hX2 hz2 hb3
    have hz3 : w.heap.size < w3.heap.size := by have := hb3.size; omega
    have hB3 : Below w.heap.size w w3 := hB2.trans (hb3.mono (by omega))
    clear hb3 hX2 hz2 hB2
    go_wp2_with fail
    go_ret
    exact ⟨ret_bool (by rw [HO.out, HNm.out, HBare.out, HD.out, HFit.out]; simp), hB3⟩
  · have HFit : Hid (Gate.fits 1 ls ms ws df = true) := hfit
    have HR : Hid (res = Gate.soundOf ss ⟨nm, 1, ls, ms, ws, to, rl, mu, fx, df, wg⟩) := by unfold Hid; rw [HO.out, HNm.out, HBare.out, HD.out, hfit]; simp
    clear hfit HO
    go_enter Tryz.func91, Tryz.ntmps91
    go_wp2_with fail
    refine (as_bool HNm.out (l1NameOk_any _ _ hnm)).mono ?_
    rintro e w1 ⟨rfl, rfl⟩
    go_wp2_with fail
    refine (as_bool HBare.out (specBare_1 _ _ _ _ _ _ _ _ _ _ _ _ _)).mono ?_
    rintro e w2 ⟨rfl, hb2⟩
    have hX2 := box_later (box_new w _ _) (by simp) hb2
    have hz2 : w.heap.size < w2.heap.size := by have := hb2.size; simp at this; omega
    have hB2 : Below w.heap.size w w2 := ((Below.refl _ _).alloc (Nat.le_refl _) _).trans (hb2.mono (by simp))
    clear hb2
    go_wp2_with fail
    refine (as_bool HFit.out (specFits_any _ _ _ _ _ _ _ _ _ _ _ _ _ _ _ hdf (hws.mono hB2))).mono ?_
    rintro e w3 ⟨rfl, hb3⟩
    have hX3 := box_later hX2 hz2 hb3
    have hz3 : w.heap.size < w3.heap.size := by have := hb3.size; omega
    have hB3 : Below w.heap.size w w3 := hB2.trans (hb3.mono (by omega))
    clear hb3 hX2 hz2 hB2
    go_wp2_with (go_at_call 90; refine (l1NameOk_any _ _ hwg).mono ?_; rintro e w5 ⟨rfl, rfl⟩)
    all_goals
      go_ret
      refine ⟨ret_bool ?_, hB3⟩
      rw [HR.out]
      simp_all [Gate.soundOf, Gate.rangeOk]
      try omega

end Go.Proofs.YtponiggfclcbgaaGreat
