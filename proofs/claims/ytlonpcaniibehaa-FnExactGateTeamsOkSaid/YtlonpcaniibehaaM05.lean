import Derived.Test.YtlonpcaniibehaaM04
namespace Go.Proofs.Ytlonpcaniibehaa
open Go.RowKit

set_option maxHeartbeats 400000 in
theorem l1NameOk_any (s : ByteArray) (w : World) (hs : s.size ≤ maxLen) :
    Calls Try.prog 31 #[.string s] w fun e w' => e = .returned (.bool (Gate.nameOk s)) ∧ w' = w := by
  unfold maxLen at hs
  by_cases hb : 1 ≤ s.size ∧ s.size ≤ 16
  · obtain ⟨hb1, hb2⟩ := hb
    go_enter Try.func31, Try.ntmps31
    go_wp2_with (go_at_call 50; refine (l1In_yes _ _ _ _ (by omega) (by omega)).mono ?_; rintro e w' ⟨rfl, rfl⟩)
    go_loop [3] (fun i => ∃ k : Nat, k ≤ s.size ∧ i = .int .i64 k ∧ (s.data.toList.take k).all Gate.nameByte = true) (fun i => s.size - (intOf i).toNat)
    case atStart => exact ⟨0, Nat.zero_le _, rfl, rfl⟩
    case round =>
      obtain ⟨k, hk, rfl, hall⟩ := hrel
      by_cases hlt : k < s.size
      · have HS : Hid ((s.data.toList.take (k + 1)).all Gate.nameByte = (true && Gate.nameByte s[k])) := by rw [Gate.all_snoc _ s k hlt, hall]; rfl
        have HN := fun h => Gate.all_not Gate.nameByte s k hlt h
        have HN' : Hid (Gate.nameByte s[k] = false → Gate.allName s = false) := HN
        clear HN hall
        by_cases hc : Gate.nameByte s[k] = true
        · go_wp2_with (go_at_call 51; refine (l1Byte_any _ _).mono ?_; rintro e w' ⟨rfl, rfl⟩)
          go_round
          case rel => exact ⟨k + 1, by omega, by go_num, by rw [HS.out, hc]; rfl⟩
          case measure => simp [intOf]; omega
        · have hc' : Gate.nameByte s[k] = false := by simpa using hc
          clear hc
          go_wp2_with (go_at_call 51; refine (l1Byte_any _ _).mono ?_; rintro e w' ⟨rfl, rfl⟩)
          go_ret
          refine ⟨ret_bool ?_, rfl⟩
          simp [Gate.nameOk, HN'.out hc']
      · have HA : Hid (Gate.allName s = true) := by unfold Gate.allName Hid; rw [← Gate.take_all s k (by omega)]; exact hall
        clear hall
        go_wp2
        go_ret
        refine ⟨ret_bool ?_, rfl⟩
        simp only [Gate.nameOk, HA.out]; simp; omega
  · go_enter Try.func31, Try.ntmps31
    go_wp2_with (go_at_call 50; refine (l1In_no _ _ _ _ (by omega)).mono ?_; rintro e w' ⟨rfl, rfl⟩)
    go_ret
    refine ⟨ret_bool ?_, rfl⟩
    simp [Gate.nameOk]; omega

set_option maxHeartbeats 400000 in
theorem isNameBytes_any (s : ByteArray) (w : World) (hs : s.size ≤ maxLen) :
    Calls Try.prog 52 #[.string s] w fun e w' => e = .returned (.bool (Gate.allName s)) ∧ w' = w := by
  unfold maxLen at hs
  go_enter Try.func52, Try.ntmps52
  go_wp2
  go_loop [7] (fun i => ∃ k : Nat, k ≤ s.size ∧ i = .int .i64 k ∧ (s.data.toList.take k).all Gate.nameByte = true) (fun i => s.size - (intOf i).toNat)
  case atStart => exact ⟨0, Nat.zero_le _, rfl, rfl⟩
  case round =>
    obtain ⟨k, hk, rfl, hall⟩ := hrel
    by_cases hlt : k < s.size
    · have HS : Hid ((s.data.toList.take (k + 1)).all Gate.nameByte = (true && Gate.nameByte s[k])) := by rw [Gate.all_snoc _ s k hlt, hall]; rfl
      have HN : Hid (Gate.nameByte s[k] = false → Gate.allName s = false) := fun h => Gate.all_not Gate.nameByte s k hlt h
      clear hall
      by_cases hd : 48 ≤ (s[k].toNat : Int) ∧ (s[k].toNat : Int) ≤ 57
      · have HC : Hid (Gate.nameByte s[k] = true) := by simp [Gate.nameByte, Hid]; omega
        obtain ⟨hd1, hd2⟩ := hd
        go_wp2_with (go_at_call 63; refine (isDigit_yes _ _ hd1 hd2).mono ?_; rintro e w' ⟨rfl, rfl⟩)
        go_round
        case rel => exact ⟨k + 1, by omega, by go_num, by rw [HS.out, HC.out]; rfl⟩
        case measure => simp [intOf]; omega
      · have HD : Hid (¬ (48 ≤ (s[k].toNat : Int) ∧ (s[k].toNat : Int) ≤ 57)) := hd
        clear hd
        by_cases h45 : (s[k].toNat : Int) = 45
        · have HC : Hid (Gate.nameByte s[k] = true) := by simp [Gate.nameByte, Hid]; omega
          have h45' : ((s[k].toNat : Int) != 45) = false := by simp [h45]
          clear h45
          go_wp2_with (go_at_call 63; refine (isDigit_no _ _ HD.out).mono ?_; rintro e w' ⟨rfl, rfl⟩)
          go_round
          case rel => exact ⟨k + 1, by omega, by go_num, by rw [HS.out, HC.out]; rfl⟩
          case measure => simp [intOf]; omega
        · have h45' : ((s[k].toNat : Int) != 45) = true := by simp [h45]
          by_cases h97 : (s[k].toNat : Int) < 97
          · have HC : Hid (Gate.nameByte s[k] = false) := by have := HD.out; simp [Gate.nameByte, Hid]; omega
            clear h45
            go_wp2_with (go_at_call 63; refine (isDigit_no _ _ HD.out).mono ?_; rintro e w' ⟨rfl, rfl⟩)
            go_ret
            exact ⟨ret_bool (HN.out HC.out).symm, rfl⟩
          · by_cases h122 : 122 < (s[k].toNat : Int)
            · have HC : Hid (Gate.nameByte s[k] = false) := by have := HD.out; simp [Gate.nameByte, Hid]; omega
              clear h45
              go_wp2_with (go_at_call 63; refine (isDigit_no _ _ HD.out).mono ?_; rintro e w' ⟨rfl, rfl⟩)
              go_ret
              exact ⟨ret_bool (HN.out HC.out).symm, rfl⟩
            · have HC : Hid (Gate.nameByte s[k] = true) := by simp [Gate.nameByte, Hid]; omega
              clear h45
              go_wp2_with (go_at_call 63; refine (isDigit_no _ _ HD.out).mono ?_; rintro e w' ⟨rfl, rfl⟩)
              go_round
              case rel => exact ⟨k + 1, by omega, by go_num, by rw [HS.out, HC.out]; rfl⟩
              case measure => simp [intOf]; omega
    · have HA : Hid (Gate.allName s = true) := by unfold Gate.allName Hid; rw [← Gate.take_all s k (by omega)]; exact hall
      clear hall
      go_wp2
      go_ret
      exact ⟨ret_bool HA.out.symm, rfl⟩

set_option maxHeartbeats 400000 in
theorem isName_any (s : ByteArray) (w : World) (hs : s.size ≤ maxLen) :
    Calls Try.prog 33 #[.string s] w fun e w' => e = .returned (.bool (Gate.nameOk s)) ∧ w' = w := by
  have hs' := hs
  unfold maxLen at hs'
  by_cases h0 : s.size = 0
  · rw [Gate.empty_of_size s h0]
    go_enter Try.func33, Try.ntmps33
    go_wp2
    go_ret
    exact ⟨rfl, rfl⟩
  · have hne : s.toList.isEmpty = false := by rw [Gate.isEmpty_of_size]; simp [h0]
    by_cases h16 : s.size ≤ 16
    · have HF : Hid (Gate.nameOk s = Gate.allName s) := by
        simp only [Hid, Gate.nameOk]; rw [decide_eq_true (show 1 ≤ s.size by omega), decide_eq_true h16]; simp
      go_enter Try.func33, Try.ntmps33
      go_wp2_with (go_at_call 52; refine (isNameBytes_any _ _ hs).mono ?_; rintro e w' ⟨rfl, rfl⟩)
      go_ret
      exact ⟨ret_bool HF.out.symm, rfl⟩
    · go_enter Try.func33, Try.ntmps33
      go_wp2_with (go_at_call 52; refine (isNameBytes_any _ _ hs).mono ?_; rintro e w' ⟨rfl, rfl⟩)
      go_ret
      refine ⟨ret_bool ?_, rfl⟩
      simp only [Gate.nameOk]; rw [decide_eq_false h16]; simp

end Go.Proofs.Ytlonpcaniibehaa

namespace Go.Proofs.Ytlonpcaniibehaa
open Go.RowKit

theorem any_take_snoc {α : Type} (p : α → Bool) (l : List α) (k : Nat) (h : k < l.length) : (l.take (k + 1)).any p = ((l.take k).any p || p l[k]) := by
  rw [List.take_succ_eq_append_getElem h, List.any_append]; simp
theorem any_at {α : Type} (p : α → Bool) (l : List α) (k : Nat) (h : k < l.length) (hp : p l[k] = true) : l.any p = true := by
  rw [List.any_eq_true]; exact ⟨l[k], List.getElem_mem h, hp⟩

/-- A function value of one captured box, called at each team: what it answers. -/
def TeamFn (P : Program) (fid : Nat) (q : Value) (ts : List Tm) (w : World) (p : Tm → Bool) : Prop :=
  ∀ w1, Below w.heap.size w w1 → ∀ i (h : i < ts.length), Calls P fid #[.agg ts[i].cells, q] w1 fun e w' => e = .returned (.bool (p ts[i])) ∧ Below w1.heap.size w1 w'

set_option maxHeartbeats 1000000 in
theorem IndexFuncT_any (a : Option Addr) (cap : Nat) (ts : List Tm) (q : Value) (p : Tm → Bool) (w : World) (hw : TmsAt w a ts) (hf : TeamFn Try.prog 53 q ts w p) :
    Calls Try.prog 54 #[.slice a ts.length cap, .func (.func 53) #[] #[q]] w fun e w' => ∃ r : Int, e = .returned (.int .i64 r) ∧ decide (0 ≤ r) = ts.any p ∧ Below w.heap.size w w' := by
  have hl := hw.len
  unfold maxLen at hl
  go_enter Try.func54, Try.ntmps54
  go_wp2_with fail
  go_loopw [8] (fun i wr => ∃ k : Nat, k ≤ ts.length ∧ i = .int .i64 k ∧ (ts.take k).any p = false ∧ Below w.heap.size w wr) (fun i _ => ts.length - (intOf i).toNat)
  case atStart => exact ⟨0, Nat.zero_le _, rfl, rfl, Below.refl _ _⟩
  case round =>
    obtain ⟨k, hk, rfl, hno, hB⟩ := hrel
    by_cases hlt : k < ts.length
    · obtain ⟨b, off, rfl, hb, c0, c1⟩ := hw.load hB k hlt
      have hltI : (k : Int) < (ts.length : Int) := by omega
      have hc := hf wr hB k hlt
      clear hw hf
      by_cases he : p ts[k] = true
      · have HA : Hid (ts.any p = true) := any_at p ts k hlt he
        have HE : Hid (p ts[k] = true) := he
        clear he hno
        go_wp2_with fail
        refine (as_bool HE.out hc).mono ?_
        rintro e w2 ⟨rfl, hb2⟩
        go_wp2_with fail
        go_ret
        exact ⟨_, rfl, by rw [HA.out]; simp, hB.trans (hb2.mono hB.size)⟩
      · have he' : p ts[k] = false := by simpa using he
        have HS : Hid ((ts.take (k + 1)).any p = false) := by unfold Hid; rw [any_take_snoc p ts k hlt, hno, he']; rfl
        have HE : Hid (p ts[k] = false) := he'
        clear he he' hno
        go_wp2_with fail
        refine (as_bool HE.out hc).mono ?_
        rintro e w2 ⟨rfl, hb2⟩
        go_wp2_with fail
        exact ⟨⟨k + 1, by omega, by go_num, HS.out, hB.trans (hb2.mono hB.size)⟩, by simp [intOf]; omega⟩
    · have HA : Hid (ts.any p = false) := by unfold Hid; rw [← hno, List.take_of_length_le (by omega)]
      clear hno hw hf
      go_wp2_with fail
      go_ret
      exact ⟨_, rfl, by rw [HA.out]; rfl, hB⟩

set_option maxHeartbeats 400000 in
theorem ContainsFuncT_any (a : Option Addr) (cap : Nat) (ts : List Tm) (q : Value) (p : Tm → Bool) (w : World) (hw : TmsAt w a ts) (hf : TeamFn Try.prog 53 q ts w p) :
    Calls Try.prog 35 #[.slice a ts.length cap, .func (.func 53) #[] #[q]] w fun e w' => e = .returned (.bool (ts.any p)) ∧ Below w.heap.size w w' := by
  go_enter Try.func35, Try.ntmps35
  go_wp2_with fail
  refine (IndexFuncT_any _ _ _ _ _ _ hw hf).mono ?_
  rintro e w2 ⟨r, rfl, hr, hb2⟩
  go_wp2_with fail
  go_ret
  exact ⟨rfl, hb2⟩

set_option maxHeartbeats 1000000 in
theorem IndexFuncU_any (a : Option Addr) (cap : Nat) (ts : List Tm) (q : Value) (p : Tm → Bool) (w : World) (hw : TmsAt w a ts) (hf : TeamFn Try.prog 36 q ts w p) :
    Calls Try.prog 54 #[.slice a ts.length cap, .func (.func 36) #[] #[q]] w fun e w' => ∃ r : Int, e = .returned (.int .i64 r) ∧ decide (0 ≤ r) = ts.any p ∧ Below w.heap.size w w' := by
  have hl := hw.len
  unfold maxLen at hl
  go_enter Try.func54, Try.ntmps54
  go_wp2_with fail
  go_loopw [8] (fun i wr => ∃ k : Nat, k ≤ ts.length ∧ i = .int .i64 k ∧ (ts.take k).any p = false ∧ Below w.heap.size w wr) (fun i _ => ts.length - (intOf i).toNat)
  case atStart => exact ⟨0, Nat.zero_le _, rfl, rfl, Below.refl _ _⟩
  case round =>
    obtain ⟨k, hk, rfl, hno, hB⟩ := hrel
    by_cases hlt : k < ts.length
    · obtain ⟨b, off, rfl, hb, c0, c1⟩ := hw.load hB k hlt
      have hltI : (k : Int) < (ts.length : Int) := by omega
      have hc := hf wr hB k hlt
      clear hw hf
      by_cases he : p ts[k] = true
      · have HA : Hid (ts.any p = true) := any_at p ts k hlt he
        have HE : Hid (p ts[k] = true) := he
        clear he hno
        go_wp2_with fail
        refine (as_bool HE.out hc).mono ?_
        rintro e w2 ⟨rfl, hb2⟩
        go_wp2_with fail
        go_ret
        exact ⟨_, rfl, by rw [HA.out]; simp, hB.trans (hb2.mono hB.size)⟩
      · have he' : p ts[k] = false := by simpa using he
        have HS : Hid ((ts.take (k + 1)).any p = false) := by unfold Hid; rw [any_take_snoc p ts k hlt, hno, he']; rfl
        have HE : Hid (p ts[k] = false) := he'
        clear he he' hno
        go_wp2_with fail
        refine (as_bool HE.out hc).mono ?_
        rintro e w2 ⟨rfl, hb2⟩
        go_wp2_with fail
        exact ⟨⟨k + 1, by omega, by go_num, HS.out, hB.trans (hb2.mono hB.size)⟩, by simp [intOf]; omega⟩
    · have HA : Hid (ts.any p = false) := by unfold Hid; rw [← hno, List.take_of_length_le (by omega)]
      clear hno hw hf
      go_wp2_with fail
      go_ret
      exact ⟨_, rfl, by rw [HA.out]; rfl, hB⟩

set_option maxHeartbeats 400000 in
theorem ContainsFuncU_any (a : Option Addr) (cap : Nat) (ts : List Tm) (q : Value) (p : Tm → Bool) (w : World) (hw : TmsAt w a ts) (hf : TeamFn Try.prog 36 q ts w p) :
    Calls Try.prog 35 #[.slice a ts.length cap, .func (.func 36) #[] #[q]] w fun e w' => e = .returned (.bool (ts.any p)) ∧ Below w.heap.size w w' := by
  go_enter Try.func35, Try.ntmps35
  go_wp2_with fail
  refine (IndexFuncU_any _ _ _ _ _ _ hw hf).mono ?_
  rintro e w2 ⟨r, rfl, hr, hb2⟩
  go_wp2_with fail
  go_ret
  exact ⟨rfl, hb2⟩

set_option maxHeartbeats 400000 in
theorem isTeamFn_any (t : Tm) (v : ByteArray) (bn : Nat) (w : World) (hb : bn < w.heap.size) (hn : w.cell? ⟨bn, 0, none⟩ = some (.string v)) :
    Calls Try.prog 53 #[.agg t.cells, .pointer (some ⟨bn, 0, none⟩)] w fun e w' => e = .returned (.bool (t.nm.toList == v.toList)) ∧ Below w.heap.size w w' := by
  unfold Tm.cells
  go_enter Try.func53, Try.ntmps53
  go_wp2_with fail
  go_ret
  exact ⟨rfl, (Below.refl _ _).alloc (Nat.le_refl _) _⟩

theorem isTeamFn_fn (ts : List Tm) (v : ByteArray) (bn : Nat) (w : World) (hb : bn < w.heap.size) (hn : w.cell? ⟨bn, 0, none⟩ = some (.string v)) :
    TeamFn Try.prog 53 (.pointer (some ⟨bn, 0, none⟩)) ts w (fun t => decide (t.nm = v)) := fun w1 hB i hi => by
  refine (isTeamFn_any ts[i] v bn w1 (Nat.lt_of_lt_of_le hb hB.size) ((hB.cell (p := ⟨bn, 0, none⟩) hb).trans hn)).mono ?_
  rintro e w' ⟨rfl, hb'⟩
  exact ⟨ret_bool (Gate.beq_toList _ _), hb'⟩

set_option maxHeartbeats 400000 in
theorem isTeam_any (a : Option Addr) (cap : Nat) (ts : List Tm) (v : ByteArray) (w : World) (hw : TmsAt w a ts) :
    Calls Try.prog 34 #[.slice a ts.length cap, .string v] w fun e w' => e = .returned (.bool (Gate.hasTeam ts v)) ∧ Below w.heap.size w w' := by
  go_enter Try.func34, Try.ntmps34
  go_wp2_with fail
  refine (ContainsFuncT_any _ _ _ _ _ _ (hw.mono ((Below.refl _ _).alloc (Nat.le_refl _) _)) (isTeamFn_fn ts v _ _ (by simp) (by rw [World.cell?_alloc_at _ _ _ _ rfl]; rfl))).mono ?_
  rintro e w2 ⟨rfl, hb2⟩
  go_wp2_with fail
  go_ret
  exact ⟨rfl, ((Below.refl _ _).alloc (Nat.le_refl _) _).trans (hb2.mono (by simp))⟩

set_option maxHeartbeats 800000 in
theorem isTooDeep_any (a : Option Addr) (cap : Nat) (ts : List Tm) (t : Tm) (w : World) (hw : TmsAt w a ts) :
    Calls Try.prog 37 #[.slice a ts.length cap, .agg t.cells] w fun e w' => e = .returned (.bool (!Gate.deepOk ts t)) ∧ Below w.heap.size w w' := by
  unfold Tm.cells
  go_enter Try.func37, Try.ntmps37
  go_wp2_with fail
  go_loopw [5, 8] (fun p i wr => ∃ (k : Nat) (z : ByteArray), k ≤ 4 ∧ p = .string z ∧ i = .int .i64 k ∧ Gate.climb ts 4 t.ov = Gate.climb ts (4 - k) z ∧ Below w.heap.size w wr) (fun _ i _ => 4 - (intOf i).toNat)
  case atStart => exact ⟨0, t.ov, Nat.zero_le _, rfl, rfl, rfl, (Below.refl _ _).alloc (Nat.le_refl _) _⟩
  case round =>
    obtain ⟨k, z, hk, rfl, rfl, hz, hB⟩ := hrel
    by_cases hlt : k < 4
    · have hltI : (k : Int) < 4 := by omega
      have HZ : Hid (Gate.climb ts 4 t.ov = Gate.climb ts (4 - (k + 1)) (Gate.over ts z)) := by
        obtain ⟨m, hm⟩ : ∃ m, 4 - k = m + 1 := ⟨3 - k, by omega⟩
        rw [Hid, hz, hm, show 4 - (k + 1) = m by omega]; rfl
      clear hz
      go_wp2_with fail
      refine (overOf_any _ _ _ _ _ (hw.mono hB)).mono ?_
      rintro e w1 ⟨rfl, hb1⟩
      have hB1 := hB.trans (hb1.mono hB.size)
      clear hb1
      go_wp2_with fail
      exact ⟨⟨k + 1, Gate.over ts z, by omega, rfl, by go_num, HZ.out, hB1⟩, by simp [intOf]; omega⟩
    · have HF : Hid (Gate.deepOk ts t = z.toList.isEmpty) := by
        have e : 4 - k = 0 := by omega
        rw [e] at hz
        unfold Hid Gate.deepOk
        rw [hz, Gate.isEmpty_of_size]; rfl
      clear hz
      go_wp2_with fail
      go_ret
      exact ⟨ret_bool (by rw [HF.out]), hB⟩

set_option maxHeartbeats 400000 in
theorem deepFn_any (a : Option Addr) (cap : Nat) (ts : List Tm) (t : Tm) (bn : Nat) (w : World) (hw : TmsAt w a ts) (hb : bn < w.heap.size) (hn : w.cell? ⟨bn, 0, none⟩ = some (.slice a ts.length cap)) :
    Calls Try.prog 36 #[.agg t.cells, .pointer (some ⟨bn, 0, none⟩)] w fun e w' => e = .returned (.bool (!Gate.deepOk ts t)) ∧ Below w.heap.size w w' := by
  unfold Tm.cells
  go_enter Try.func36, Try.ntmps36
  go_wp2_with fail
  refine (isTooDeep_any _ _ _ t _ (hw.mono ((Below.refl _ _).alloc (Nat.le_refl _) _))).mono ?_
  rintro e w2 ⟨rfl, hb2⟩
  go_wp2_with fail
  go_ret
  exact ⟨rfl, ((Below.refl _ _).alloc (Nat.le_refl _) _).trans (hb2.mono (by simp))⟩

theorem deepFn_fn (a : Option Addr) (cap : Nat) (ts : List Tm) (bn : Nat) (w : World) (hw : TmsAt w a ts) (hb : bn < w.heap.size) (hn : w.cell? ⟨bn, 0, none⟩ = some (.slice a ts.length cap)) :
    TeamFn Try.prog 36 (.pointer (some ⟨bn, 0, none⟩)) ts w (fun t => !Gate.deepOk ts t) := fun w1 hB i _ =>
  deepFn_any a cap ts ts[i] bn w1 (hw.mono hB) (Nat.lt_of_lt_of_le hb hB.size) ((hB.cell (p := ⟨bn, 0, none⟩) hb).trans hn)

end Go.Proofs.Ytlonpcaniibehaa

namespace Go.Proofs.Ytlonpcaniibehaa
open Go.RowKit

theorem Gate.any_deep (ts : List Tm) : (!(ts.any fun t => !Gate.deepOk ts t)) = Gate.up (Gate.deepAt ts) ts.length := by
  rw [Bool.eq_iff_iff, Gate.up_eq_true]
  simp only [Bool.not_eq_true', List.any_eq_false]
  constructor
  · intro h i hi
    have := h ts[i] (List.getElem_mem hi)
    unfold Gate.deepAt
    rw [Gate.getD_at ts i _ hi]
    simpa using this
  · intro h x hx
    obtain ⟨k, hk, rfl⟩ := List.mem_iff_getElem.1 hx
    have := h k hk
    unfold Gate.deepAt at this
    rw [Gate.getD_at ts k _ hk] at this
    simp [this]

theorem Gate.teamAt_at (ts : List Tm) (k : Nat) (h : k < ts.length) (b : Bool) (hb : (decide (k = 0) || Gate.less (ts.getD (k - 1) Gate.noTeam).nm ts[k].nm) = b) :
    Gate.teamAt ts k = (Gate.nameOk ts[k].nm && b && (ts[k].ov.toList.isEmpty || Gate.hasTeam ts ts[k].ov)) := by
  unfold Gate.teamAt; rw [Gate.getD_at ts k _ h, hb]

set_option maxHeartbeats 4000000 in
theorem implTeamsOk_any (a : Option Addr) (cap : Nat) (ts : List Tm) (w : World) (hw : TmsAt w a ts) :
    Calls Try.prog 13 #[.slice a ts.length cap] w fun e w' => e = .returned (.bool (Gate.teamsOk ts)) ∧ Below w.heap.size w w' := by
  have hl := hw.len
  unfold maxLen at hl
  by_cases h12 : ts.length ≤ 12
  rotate_left
  · have HF : Hid (Gate.teamsOk ts = false) := by simp [Hid, Gate.teamsOk, h12]
    clear hw
    go_enter Try.func13, Try.ntmps13
    go_wp2_with fail
    go_ret
    exact ⟨ret_bool HF.out.symm, (Below.refl _ _).alloc (Nat.le_refl _) _⟩
  have HG : Hid (Gate.teamsOk ts = (Gate.up (Gate.teamAt ts) ts.length && Gate.up (Gate.deepAt ts) ts.length)) := by simp [Hid, Gate.teamsOk, h12]
  have h12I : (ts.length : Int) ≤ 12 := by omega
  go_enter Try.func13, Try.ntmps13
  go_wp2_with fail
  have hB00 : Below w.heap.size w (w.alloc (.cells #[.slice a ts.length cap] 25)) := (Below.refl _ _).alloc (Nat.le_refl _) _
  have hX00 := box_new w #[.slice a ts.length cap] 25
  have hz00 : w.heap.size < (w.alloc (.cells #[.slice a ts.length cap] 25)).heap.size := by simp
  obtain ⟨w0, hw0⟩ : ∃ w0, w0 = w.alloc (.cells #[.slice a ts.length cap] 25) := ⟨_, rfl⟩
  rw [← hw0] at hB00 hX00 hz00 ⊢
  have HW0 : Hid (TmsAt w0 a ts) := hw.mono hB00
  have HB00 : Hid (Below w.heap.size w w0) := hB00
  clear hw0 hw hB00
  go_loopw [10] (fun i wr => ∃ k : Nat, k ≤ ts.length ∧ i = .int .i64 k ∧ Gate.up (Gate.teamAt ts) k = true ∧ Below w0.heap.size w0 wr) (fun i _ => ts.length - (intOf i).toNat)
  case atStart => exact ⟨0, Nat.zero_le _, rfl, rfl, Below.refl _ _⟩
  case round =>
    obtain ⟨k, hk, rfl, hup, hB⟩ := hrel
    have hsz := hB.size
    have hX := box_later hX00 hz00 hB
    have hX0 : wr.cell? ⟨w.heap.size, 0, none⟩ = some (.slice a ts.length cap) := hX 0
    have hzr : w.heap.size < wr.heap.size := by omega
    have HBr : Hid (Below w.heap.size w wr) := HB00.out.trans (hB.mono (by omega))
    clear hX hX00
    by_cases hlt : k < ts.length
    · obtain ⟨b, off, rfl, hb, c0, c1⟩ := HW0.out.load hB k hlt
      have hbr : b < wr.heap.size := by omega
      have hsm := HW0.out.small k hlt
      have hsn := hsm.nm
      have HS : Hid (Gate.teamAt ts k = true → Gate.up (Gate.teamAt ts) (k + 1) = true) := fun h => by rw [Gate.up_succ, hup, h]; rfl
      have HN : Hid (Gate.teamAt ts k = false → Gate.teamsOk ts = false) := fun h => by rw [HG.out, Gate.up_not hlt h]; rfl
      have hltI : (k : Int) < (ts.length : Int) := by omega
      have HB : Hid (Below w0.heap.size w0 wr) := hB
      clear hup hsm hB
      by_cases hn : Gate.nameOk ts[k].nm = true
      rotate_left
      · have HNm : Hid (Gate.nameOk ts[k].nm = false) := by simpa [Hid] using hn
        have HF : Hid (Gate.teamAt ts k = false) := by unfold Hid; rw [Gate.teamAt_at ts k hlt _ rfl, HNm.out]; rfl
        clear hn
        go_wp2_with fail
        go_quiet ((go_at_call 33; exact Calls.quiet_of_same (as_bool HNm.out (isName_any _ _ hsn))))
        go_wp2_with fail
        go_ret
        exact ⟨ret_bool (HN.out HF.out).symm, below_drewN (HBr.out.alloc (by omega) _) _⟩
      have HNm : Hid (Gate.nameOk ts[k].nm = true) := hn
      clear hn
      by_cases hbad : 0 < k ∧ Gate.less (ts.getD (k - 1) Gate.noTeam).nm ts[k].nm = false
      · obtain ⟨hkpos, hls⟩ := hbad
        have HF : Hid (Gate.teamAt ts k = false) := by
          unfold Hid; rw [Gate.teamAt_at ts k hlt false (by rw [hls, decide_eq_false (show ¬ k = 0 by omega)]; rfl)]; simp
        obtain ⟨m, rfl⟩ : ∃ m, k = m + 1 := ⟨k - 1, by omega⟩
        rw [Nat.add_sub_cancel, Gate.getD_at ts m _ (by omega)] at hls
        obtain ⟨b', off', e', hb', d0, d1⟩ := HW0.out.load HB.out m (by omega)
        simp only [Option.some.injEq, Addr.mk.injEq] at e'
        obtain ⟨rfl, rfl, _⟩ := e'
        have hls' : Op.bytesLess ts[m].nm.toList ts[m + 1].nm.toList = false := hls
        have hmI : (m : Int) < 12 := by omega
        have hm0 : (0 : Int) ≤ (m : Int) := by omega
        have hml : (m : Int) < (ts.length : Int) := by omega
        have hmw : IntKind.i64.wrap (m : Int) = m := by rw [IntKind.wrap_i64]; omega
        clear hls
        go_wp2_with fail
        go_quiet ((go_at_call 33; exact Calls.quiet_of_same (as_bool HNm.out (isName_any _ _ hsn))))
        go_wp2_with fail
        go_ret
        exact ⟨ret_bool (HN.out HF.out).symm, below_drewN (HBr.out.alloc (by omega) _) _⟩
      have hgd : (decide (k = 0) || Gate.less (ts.getD (k - 1) Gate.noTeam).nm ts[k].nm) = true := by
        by_cases hk0 : k = 0
        · simp [hk0]
        · cases hq : Gate.less (ts.getD (k - 1) Gate.noTeam).nm ts[k].nm
          · exact absurd ⟨by omega, hq⟩ hbad
          · simp
      have HA : Hid (Gate.teamAt ts k = (ts[k].ov.toList.isEmpty || Gate.hasTeam ts ts[k].ov)) := by
        unfold Hid; rw [Gate.teamAt_at ts k hlt true hgd, HNm.out]; rfl
      have hgood : (decide (0 < k) = false) ∨ (decide (0 < k) = true ∧ ∃ m, k = m + 1 ∧ ∃ h : m < ts.length, Op.bytesLess ts[m].nm.toList ts[k].nm.toList = true ∧ wr.cell? ⟨b, off + m * 2, none⟩ = some (.string ts[m].nm)) := by
        by_cases hk0 : k = 0
        · exact Or.inl (by simp; omega)
        · refine Or.inr ⟨by simp; omega, k - 1, by omega, by omega, ?_, ?_⟩
          · rw [decide_eq_false hk0, Gate.getD_at ts (k - 1) _ (by omega)] at hgd
            exact hgd
          · obtain ⟨b', off', e', hb', d0, d1⟩ := HW0.out.load HB.out (k - 1) (by omega)
            simp only [Option.some.injEq, Addr.mk.injEq] at e'
            obtain ⟨rfl, rfl, _⟩ := e'
            exact d0
      clear hbad hgd
      have HBx : Hid (∀ (ob : Obj) (n : Nat), Below wr.heap.size wr ((wr.alloc ob).drewN n)) := fun ob n => below_drewN ((Below.refl _ _).alloc (Nat.le_refl _) _) _
      by_cases hov : ts[k].ov.toList.isEmpty = true
      · have HT : Hid (Gate.teamAt ts k = true) := by unfold Hid; rw [HA.out, hov]; rfl
        rcases hgood with hg | ⟨hg, m, rfl, hm, hls', d0⟩
        · go_wp2_with fail
          go_quiet ((go_at_call 33; exact Calls.quiet_of_same (as_bool HNm.out (isName_any _ _ hsn))))
          go_wp2_with fail
          exact ⟨⟨k + 1, by omega, by go_num, HS.out HT.out, HB.out.trans ((HBx.out _ _).mono hsz)⟩, by simp [intOf]; omega⟩
        · have hmI : (m : Int) < 12 := by omega
          have hm0 : (0 : Int) ≤ (m : Int) := by omega
          have hml : (m : Int) < (ts.length : Int) := by omega
          have hmw : IntKind.i64.wrap (m : Int) = m := by rw [IntKind.wrap_i64]; omega
          go_wp2_with fail
          go_quiet ((go_at_call 33; exact Calls.quiet_of_same (as_bool HNm.out (isName_any _ _ hsn))))
          go_wp2_with fail
          exact ⟨⟨m + 1 + 1, by omega, by go_num, HS.out HT.out, HB.out.trans ((HBx.out _ _).mono hsz)⟩, by simp [intOf]; omega⟩
      · have hov' : ts[k].ov.toList.isEmpty = false := by simpa using hov
        clear hov
        by_cases hit : Gate.hasTeam ts ts[k].ov = true
        · have HI : Hid (Gate.hasTeam ts ts[k].ov = true) := hit
          have HT : Hid (Gate.teamAt ts k = true) := by unfold Hid; rw [HA.out, hit]; simp
          clear hit
          rcases hgood with hg | ⟨hg, m, rfl, hm, hls', d0⟩
          · go_wp2_with fail
            go_quiet ((go_at_call 33; exact Calls.quiet_of_same (as_bool HNm.out (isName_any _ _ hsn))))
            go_wp2_with fail
            refine (as_bool HI.out (isTeam_any _ _ ts _ _ ((HW0.out.mono HB.out).mono (HBx.out _ _)))).mono ?_
            rintro e w3 ⟨rfl, hb3⟩
            have hB3 : Below w0.heap.size w0 w3 := (HB.out.trans ((HBx.out _ _).mono hsz)).trans (hb3.mono (by simp; omega))
            clear hb3
            go_wp2_with fail
            exact ⟨⟨k + 1, by omega, by go_num, HS.out HT.out, hB3⟩, by simp [intOf]; omega⟩
          · have hmI : (m : Int) < 12 := by omega
            have hm0 : (0 : Int) ≤ (m : Int) := by omega
            have hml : (m : Int) < (ts.length : Int) := by omega
            have hmw : IntKind.i64.wrap (m : Int) = m := by rw [IntKind.wrap_i64]; omega
            go_wp2_with fail
            go_quiet ((go_at_call 33; exact Calls.quiet_of_same (as_bool HNm.out (isName_any _ _ hsn))))
            go_wp2_with fail
            refine (as_bool HI.out (isTeam_any _ _ ts _ _ ((HW0.out.mono HB.out).mono (HBx.out _ _)))).mono ?_
            rintro e w3 ⟨rfl, hb3⟩
            have hB3 : Below w0.heap.size w0 w3 := (HB.out.trans ((HBx.out _ _).mono hsz)).trans (hb3.mono (by simp; omega))
            clear hb3
            go_wp2_with fail
            exact ⟨⟨m + 1 + 1, by omega, by go_num, HS.out HT.out, hB3⟩, by simp [intOf]; omega⟩
        · have HI : Hid (Gate.hasTeam ts ts[k].ov = false) := by simpa [Hid] using hit
          have HF : Hid (Gate.teamAt ts k = false) := by unfold Hid; rw [HA.out, HI.out, hov']; rfl
          clear hit
          rcases hgood with hg | ⟨hg, m, rfl, hm, hls', d0⟩
          · go_wp2_with fail
            go_quiet ((go_at_call 33; exact Calls.quiet_of_same (as_bool HNm.out (isName_any _ _ hsn))))
            go_wp2_with fail
            refine (as_bool HI.out (isTeam_any _ _ ts _ _ ((HW0.out.mono HB.out).mono (HBx.out _ _)))).mono ?_
            rintro e w3 ⟨rfl, hb3⟩
            have hB3 : Below w.heap.size w w3 := (HBr.out.trans ((HBx.out _ _).mono (by omega))).trans (hb3.mono (by simp; omega))
            clear hb3
            go_wp2_with fail
            go_ret
            exact ⟨ret_bool (HN.out HF.out).symm, hB3⟩
          · have hmI : (m : Int) < 12 := by omega
            have hm0 : (0 : Int) ≤ (m : Int) := by omega
            have hml : (m : Int) < (ts.length : Int) := by omega
            have hmw : IntKind.i64.wrap (m : Int) = m := by rw [IntKind.wrap_i64]; omega
            go_wp2_with fail
            go_quiet ((go_at_call 33; exact Calls.quiet_of_same (as_bool HNm.out (isName_any _ _ hsn))))
            go_wp2_with fail
            refine (as_bool HI.out (isTeam_any _ _ ts _ _ ((HW0.out.mono HB.out).mono (HBx.out _ _)))).mono ?_
            rintro e w3 ⟨rfl, hb3⟩
            have hB3 : Below w.heap.size w w3 := (HBr.out.trans ((HBx.out _ _).mono (by omega))).trans (hb3.mono (by simp; omega))
            clear hb3
            go_wp2_with fail
            go_ret
            exact ⟨ret_bool (HN.out HF.out).symm, hB3⟩
    · have HF : Hid (Gate.teamsOk ts = !(ts.any fun t => !Gate.deepOk ts t)) := by
        have e : k = ts.length := by omega
        subst e; rw [Hid, HG.out, hup, Gate.any_deep]; rfl
      have HWr : Hid (TmsAt wr a ts) := HW0.out.mono hB
      clear hup hB
      go_wp2_with fail
      refine (ContainsFuncU_any _ _ ts _ _ _ HWr.out (deepFn_fn _ _ ts _ _ HWr.out hzr hX0)).mono ?_
      rintro e w3 ⟨rfl, hb3⟩
      have hB3 : Below w.heap.size w w3 := HBr.out.trans (hb3.mono (by omega))
      clear hb3
      go_wp2_with fail
      go_ret
      exact ⟨ret_bool HF.out.symm, hB3⟩

end Go.Proofs.Ytlonpcaniibehaa
