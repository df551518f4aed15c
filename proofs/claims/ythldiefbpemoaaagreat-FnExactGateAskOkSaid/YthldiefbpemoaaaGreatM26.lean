import Derived.Test.YthldiefbpemoaaaGreatM25
import Derived.Test.YthldiefbpemoaaaGreatM23
import Derived.Test.YthldiefbpemoaaaGreatM15
namespace Go.Proofs.YthldiefbpemoaaaGreat.Gate

theorem shapes_at {ss : List Shp} (h : shapesOk ss = true) (i : Nat) (hi : i < ss.length) : shapeAt ss i = true := by
  unfold shapesOk at h
  rw [Bool.and_eq_true] at h
  exact up_at hi h.2

theorem kinds_less {ss : List Shp} (h : shapesOk ss = true) : ∀ (j : Nat) (hj : j < ss.length) (i : Nat) (hi : i < j), less (ss[i]'(by omega)).kd ss[j].kd = true := by
  intro j
  induction j with
  | zero => intro _ i hi; omega
  | succ j ih =>
    intro hj i hi
    have h1 := shapes_at h (j + 1) hj
    rw [shapeAt_more ss j hj] at h1
    simp only [Bool.and_eq_true] at h1
    have h2 := h1.1.2
    rcases Nat.lt_or_ge i j with hlt | hge
    · exact bytesLess_trans _ _ _ (ih (by omega) i hlt) h2
    · have e : i = j := by omega
      subst e; exact h2

theorem shapeOf_self {ss : List Shp} (h : shapesOk ss = true) (i : Nat) (hi : i < ss.length) : shapeOf ss ss[i].kd = ss[i] := by
  refine shapeOf_at ss _ i hi ?_ rfl
  unfold hasKind
  rw [List.any_eq_false]
  intro x hx
  obtain ⟨k, hk, rfl⟩ := List.mem_iff_getElem.1 hx
  have hk' : k < i := by simp at hk; omega
  have h1 := kinds_less h i hi k hk'
  simp only [List.getElem_take, decide_eq_true_eq]
  intro e
  unfold less at h1
  rw [e, bytesLess_irrefl] at h1
  cases h1

theorem fields_few {ss : List Shp} (h : shapesOk ss = true) (i : Nat) (hi : i < ss.length) : ss[i].fs.length ≤ 6 := by
  have h1 := shapes_at h i hi
  unfold shapeAt at h1
  rw [getD_at ss i _ hi] at h1
  simp only [Bool.and_eq_true] at h1
  have h2 := h1.2
  unfold fieldsOk at h2
  simp only [Bool.and_eq_true, decide_eq_true_eq] at h2
  exact h2.1

/-- A mend is as it must be. -/
def mendAt (ss : List Shp) (m : Mnd) : Bool := hasKind ss m.kd && mendOk (shapeOf ss m.kd).fs m
/-- The fields of each kind can be put in a row. -/
def rowOk (ms : List Mnd) (s : Shp) : Bool := (walkAll (readsN s ms) s.fs.length).1
def mendsOk (ss : List Shp) (ms : List Mnd) : Bool := decide (ms.length ≤ 12) && shapesOk ss && ms.all (mendAt ss) && ss.all (rowOk ms)

theorem reads_ok {ss : List Shp} {ms : List Mnd} (h : shapesOk ss = true) (hm : ms.all (mendAt ss) = true) (i : Nat) (hi : i < ss.length) : ∀ q, q < ss[i].fs.length → ∀ x ∈ readsI ss[i] ms q, 0 ≤ x ∧ x < ss[i].fs.length := by
  intro q _ x hx
  unfold readsI at hx
  obtain ⟨m, hmm, hx⟩ := List.mem_flatMap.1 hx
  by_cases ht : turns m ss[i] q = true
  · rw [if_pos ht] at hx
    obtain ⟨v, hv, rfl⟩ := List.mem_map.1 hx
    unfold turns at ht
    simp only [Bool.and_eq_true, decide_eq_true_eq] at ht
    have h1 := List.all_eq_true.1 hm m hmm
    unfold mendAt at h1
    rw [ht.1, shapeOf_self h i hi] at h1
    simp only [Bool.and_eq_true] at h1
    have h2 := h1.2
    unfold mendOk at h2
    simp only [Bool.and_eq_true] at h2
    have h3 := List.all_eq_true.1 h2.1.2 v hv
    unfold nameFits at h3
    simp only [Bool.and_eq_true] at h3
    rcases field_cases ss[i].fs v with ⟨_, h5⟩ | ⟨k, hk, h4, _⟩
    · rw [plain_none h5] at h3; exact absurd h3.2 (by simp)
    · rw [h4]; omega
  · rw [if_neg ht] at hx; cases hx

end Go.Proofs.YthldiefbpemoaaaGreat.Gate

namespace Go.Proofs.YthldiefbpemoaaaGreat
open Go.RowKit

set_option maxHeartbeats 400000 in
theorem specFits_1 (nm : ByteArray) (ls ms : Int) (a : Option Addr) (cap : Nat) (ws : List ByteArray) (to : ByteArray) (rl : Int) (mu fx : Bool) (df wg : ByteArray) (v : ByteArray) (w : World) (hv : v.size ≤ maxLen) :
    Calls Tryz.prog 80 #[.agg #[.string nm, .int .i64 1, .int .i64 ls, .int .i64 ms, .slice a ws.length cap, .string to, .int .i64 rl, .bool mu, .bool fx, .string df, .string wg], .string v] w
      fun e w' => e = .returned (.bool (Gate.fits 1 ls ms ws v)) ∧ Below w.heap.size w w' := by
  rw [Gate.fits_num]
  by_cases hd : Gate.decOk v = true
  · have HE : Hid (numRes v = Gate.decS v) := by unfold numRes Hid; rw [hd]; rfl
    have HF : Hid (Gate.numFits ls ms v = (decide (ls ≤ numRes v) && decide (numRes v ≤ ms))) := by rw [HE.out]; exact Gate.numFits_yes _ _ _ hd
    have h0 : 0 ≤ numRes v := by rw [HE.out]; exact Gate.decS_nonneg v hd
    go_enter Tryz.func80, Tryz.ntmps80
    go_wp2_with (first
      | (go_at_call 103; refine (l1Number_any _ _ hv).mono ?_; rintro e w' ⟨rfl, rfl⟩)
      | (go_at_call 38; refine (l1In_any _ _ _ _).mono ?_; rintro e w' ⟨rfl, rfl⟩))
    go_ret
    exact ⟨ret_bool HF.out.symm, (Below.refl _ _).alloc (Nat.le_refl _) _⟩
  · have hd' : Gate.decOk v = false := by simpa using hd
    have HF : Hid (Gate.numFits ls ms v = false) := Gate.numFits_no _ _ _ hd'
    have h0 : numRes v < 0 := by unfold numRes; rw [hd']; simp
    go_enter Tryz.func80, Tryz.ntmps80
    go_wp2_with (first
      | (go_at_call 103; refine (l1Number_any _ _ hv).mono ?_; rintro e w' ⟨rfl, rfl⟩)
      | (go_at_call 38; refine (l1In_any _ _ _ _).mono ?_; rintro e w' ⟨rfl, rfl⟩))
    go_ret
    exact ⟨ret_bool HF.out.symm, (Below.refl _ _).alloc (Nat.le_refl _) _⟩

set_option maxHeartbeats 400000 in
theorem specFits_2 (nm : ByteArray) (ls ms : Int) (a : Option Addr) (cap : Nat) (ws : List ByteArray) (to : ByteArray) (rl : Int) (mu fx : Bool) (df wg : ByteArray) (v : ByteArray) (w : World) (hws : StrsAt w a ws) :
    Calls Tryz.prog 80 #[.agg #[.string nm, .int .i64 2, .int .i64 ls, .int .i64 ms, .slice a ws.length cap, .string to, .int .i64 rl, .bool mu, .bool fx, .string df, .string wg], .string v] w
      fun e w' => e = .returned (.bool (Gate.fits 2 ls ms ws v)) ∧ Below w.heap.size w w' := by
  by_cases hz : v.size = 0
  · rw [Gate.fits_empty _ _ _ _ _ hz]
    have hne : v.toList.isEmpty = true := by rw [Gate.isEmpty_of_size]; simp [hz]
    clear hz hws
    go_enter Tryz.func80, Tryz.ntmps80
    go_wp2_with fail
    go_ret
    exact ⟨rfl, (Below.refl _ _).alloc (Nat.le_refl _) _⟩
  · rw [Gate.fits_2 _ _ _ _ hz]
    have hne : v.toList.isEmpty = false := by rw [Gate.isEmpty_of_size]; simp [hz]
    go_enter Tryz.func80, Tryz.ntmps80
    go_wp2_with (go_at_call 82; refine (l1Has_any _ _ _ _ _ (by exact hws.mono ((Below.refl _ _).alloc (Nat.le_refl _) _))).mono ?_; rintro e w' ⟨rfl, rfl⟩)
    go_ret
    exact ⟨rfl, (Below.refl _ _).alloc (Nat.le_refl _) _⟩

set_option maxHeartbeats 400000 in
theorem specFits_4 (nm : ByteArray) (ls ms : Int) (a : Option Addr) (cap : Nat) (ws : List ByteArray) (to : ByteArray) (rl : Int) (mu fx : Bool) (df wg : ByteArray) (v : ByteArray) (w : World) (hv : v.size ≤ maxLen) :
    Calls Tryz.prog 80 #[.agg #[.string nm, .int .i64 4, .int .i64 ls, .int .i64 ms, .slice a ws.length cap, .string to, .int .i64 rl, .bool mu, .bool fx, .string df, .string wg], .string v] w
      fun e w' => e = .returned (.bool (Gate.fits 4 ls ms ws v)) ∧ Below w.heap.size w w' := by
  rw [Gate.fits_link]
  go_enter Tryz.func80, Tryz.ntmps80
  go_wp2_with (go_at_call 37; refine (l1NameOk_any _ _ hv).mono ?_; rintro e w' ⟨rfl, rfl⟩)
  go_ret
  exact ⟨rfl, (Below.refl _ _).alloc (Nat.le_refl _) _⟩

set_option maxHeartbeats 400000 in
theorem specFits_other (nm : ByteArray) (kd ls ms : Int) (a : Option Addr) (cap : Nat) (ws : List ByteArray) (to : ByteArray) (rl : Int) (mu fx : Bool) (df wg : ByteArray) (v : ByteArray) (w : World) (h1 : kd ≠ 1) (h2 : kd ≠ 2) (h3 : kd ≠ 3) (h4 : kd ≠ 4) :
    Calls Tryz.prog 80 #[.agg #[.string nm, .int .i64 kd, .int .i64 ls, .int .i64 ms, .slice a ws.length cap, .string to, .int .i64 rl, .bool mu, .bool fx, .string df, .string wg], .string v] w
      fun e w' => e = .returned (.bool (Gate.fits kd ls ms ws v)) ∧ Below w.heap.size w w' := by
  rw [Gate.fits_other kd ls ms ws v h1 h2 h3 h4]
  have e1 : (kd == 1) = false := by simpa using h1
  have e2 : (kd == 2) = false := by simpa using h2
  have e3 : (kd == 3) = false := by simpa using h3
  have e4 : (kd == 4) = false := by simpa using h4
  clear h1 h2 h3 h4
  go_enter Tryz.func80, Tryz.ntmps80
  go_wp2_with fail
  go_ret
  exact ⟨rfl, (Below.refl _ _).alloc (Nat.le_refl _) _⟩

set_option maxHeartbeats 800000 in
theorem specFits_3 (nm : ByteArray) (ls ms : Int) (a : Option Addr) (cap : Nat) (ws : List ByteArray) (to : ByteArray) (rl : Int) (mu fx : Bool) (df wg : ByteArray) (v : ByteArray) (w : World) (hv : v.size ≤ maxLen) :
    Calls Tryz.prog 80 #[.agg #[.string nm, .int .i64 3, .int .i64 ls, .int .i64 ms, .slice a ws.length cap, .string to, .int .i64 rl, .bool mu, .bool fx, .string df, .string wg], .string v] w
      fun e w' => e = .returned (.bool (Gate.fits 3 ls ms ws v)) ∧ Below w.heap.size w w' := by
  unfold maxLen at hv
  go_enter Tryz.func80, Tryz.ntmps80
  go_wp2_with fail
  go_loop [6] (fun i => ∃ k : Nat, k ≤ v.size ∧ i = .int .i64 k ∧ (v.data.toList.take k).all Gate.plainByte = true) (fun i => v.size - (intOf i).toNat)
  case atStart => exact ⟨0, Nat.zero_le _, rfl, rfl⟩
  case round =>
    obtain ⟨k, hk, rfl, hall⟩ := hrel
    by_cases hlt : k < v.size
    · have HS : Hid ((v.data.toList.take (k + 1)).all Gate.plainByte = (true && Gate.plainByte v[k])) := by rw [Gate.all_snoc _ v k hlt, hall]; rfl
      have HN : Hid (Gate.plainByte v[k] = false → Gate.fits 3 ls ms ws v = false) := fun h => Gate.fits_text_not ls ms ws v (Gate.all_not Gate.plainByte v k hlt h)
      clear hall
      by_cases h33 : 33 ≤ (v[k].toNat : Int) ∧ (v[k].toNat : Int) ≤ 126
      · have HC : Hid (Gate.plainByte v[k] = true) := by simp [Gate.plainByte, Hid]; omega
        obtain ⟨ha, hb⟩ := h33
        go_wp2_with (go_at_call 38; refine (l1In_yes _ _ _ _ (by omega) (by omega)).mono ?_; rintro e w' ⟨rfl, rfl⟩)
        go_round
        case rel => exact ⟨k + 1, by omega, by go_num, by rw [HS.out, HC.out]; rfl⟩
        case measure => simp [intOf]; omega
      · have HC : Hid (Gate.plainByte v[k] = false) := by simp [Gate.plainByte, Hid]; omega
        have HD : Hid (¬ (33 ≤ (v[k].toNat : Int) ∧ (v[k].toNat : Int) ≤ 126)) := h33
        clear h33
        have hby : (v[k].toNat : Int) < 256 := by have := v[k].toNat_lt; omega
        go_wp2_with (go_at_call 38; refine (l1In_no _ _ _ _ (by have := HD.out; omega)).mono ?_; rintro e w' ⟨rfl, rfl⟩)
        go_ret
        exact ⟨ret_bool (HN.out HC.out).symm, (Below.refl _ _).alloc (Nat.le_refl _) _⟩
    · have HA : Hid (Gate.allPlain v = true) := by unfold Gate.allPlain Hid; rw [← Gate.take_all v k (by omega)]; exact hall
      clear hall
      by_cases hz : v.size = 0
      · have HF : Hid (Gate.fits 3 ls ms ws v = false) := Gate.fits_empty _ _ _ _ _ hz
        have hne : v.toList.isEmpty = true := by rw [Gate.isEmpty_of_size]; simp [hz]
        clear hz
        go_wp2_with fail
        go_ret
        exact ⟨ret_bool HF.out.symm, (Below.refl _ _).alloc (Nat.le_refl _) _⟩
      · have HF : Hid (Gate.fits 3 ls ms ws v = (decide (ls ≤ v.size) && decide ((v.size : Int) ≤ ms))) := Gate.fits_text_all ls ms ws v HA.out hz
        have hne : v.toList.isEmpty = false := by rw [Gate.isEmpty_of_size]; simp [hz]
        go_wp2_with (go_at_call 38; refine (l1In_any _ _ _ _).mono ?_; rintro e w' ⟨rfl, rfl⟩)
        go_ret
        exact ⟨ret_bool HF.out.symm, (Below.refl _ _).alloc (Nat.le_refl _) _⟩

theorem specFits_any (nm : ByteArray) (kd ls ms : Int) (a : Option Addr) (cap : Nat) (ws : List ByteArray) (to : ByteArray) (rl : Int) (mu fx : Bool) (df wg : ByteArray) (v : ByteArray) (w : World) (hv : v.size ≤ maxLen) (hws : StrsAt w a ws) :
    Calls Tryz.prog 80 #[.agg #[.string nm, .int .i64 kd, .int .i64 ls, .int .i64 ms, .slice a ws.length cap, .string to, .int .i64 rl, .bool mu, .bool fx, .string df, .string wg], .string v] w
      fun e w' => e = .returned (.bool (Gate.fits kd ls ms ws v)) ∧ Below w.heap.size w w' := by
  by_cases h1 : kd = 1
  · subst h1; exact specFits_1 nm ls ms a cap ws to rl mu fx df wg v w hv
  by_cases h2 : kd = 2
  · subst h2; exact specFits_2 nm ls ms a cap ws to rl mu fx df wg v w hws
  by_cases h3 : kd = 3
  · subst h3; exact specFits_3 nm ls ms a cap ws to rl mu fx df wg v w hv
  by_cases h4 : kd = 4
  · subst h4; exact specFits_4 nm ls ms a cap ws to rl mu fx df wg v w hv
  exact specFits_other nm kd ls ms a cap ws to rl mu fx df wg v w h1 h2 h3 h4

end Go.Proofs.YthldiefbpemoaaaGreat

namespace Go.Proofs.YthldiefbpemoaaaGreat
open Go.RowKit

set_option maxHeartbeats 1000000 in
theorem specBare_1 (nm : ByteArray) (ls ms : Int) (a : Option Addr) (n cap : Nat) (to : ByteArray) (rl : Int) (mu fx : Bool) (df wg : ByteArray) (w : World) :
    Calls Tryz.prog 102 #[.agg #[.string nm, .int .i64 1, .int .i64 ls, .int .i64 ms, .slice a n cap, .string to, .int .i64 rl, .bool mu, .bool fx, .string df, .string wg]] w fun e w' => e = .returned (.bool (Gate.bareOf 1 ls ms n to rl wg)) ∧ Below w.heap.size w w' := by
  go_enter Tryz.func102, Tryz.ntmps102
  go_wp2
  all_goals
    go_ret
    refine ⟨ret_bool ?_, (Below.refl _ _).alloc (Nat.le_refl _) _⟩
    simp_all [Gate.bareOf]
    try first | omega | (intros; omega) | (rw [Bool.eq_iff_iff]; simp)

set_option maxHeartbeats 1000000 in
theorem specBare_2 (nm : ByteArray) (ls ms : Int) (a : Option Addr) (n cap : Nat) (to : ByteArray) (rl : Int) (mu fx : Bool) (df wg : ByteArray) (w : World) :
    Calls Tryz.prog 102 #[.agg #[.string nm, .int .i64 2, .int .i64 ls, .int .i64 ms, .slice a n cap, .string to, .int .i64 rl, .bool mu, .bool fx, .string df, .string wg]] w fun e w' => e = .returned (.bool (Gate.bareOf 2 ls ms n to rl wg)) ∧ Below w.heap.size w w' := by
  go_enter Tryz.func102, Tryz.ntmps102
  go_wp2
  all_goals
    go_ret
    refine ⟨ret_bool ?_, (Below.refl _ _).alloc (Nat.le_refl _) _⟩
    simp_all [Gate.bareOf]
    try first | omega | (intros; omega) | (rw [Bool.eq_iff_iff]; simp)

set_option maxHeartbeats 1000000 in
theorem specBare_3 (nm : ByteArray) (ls ms : Int) (a : Option Addr) (n cap : Nat) (to : ByteArray) (rl : Int) (mu fx : Bool) (df wg : ByteArray) (w : World) :
    Calls Tryz.prog 102 #[.agg #[.string nm, .int .i64 3, .int .i64 ls, .int .i64 ms, .slice a n cap, .string to, .int .i64 rl, .bool mu, .bool fx, .string df, .string wg]] w fun e w' => e = .returned (.bool (Gate.bareOf 3 ls ms n to rl wg)) ∧ Below w.heap.size w w' := by
  go_enter Tryz.func102, Tryz.ntmps102
  go_wp2
  all_goals
    go_ret
    refine ⟨ret_bool ?_, (Below.refl _ _).alloc (Nat.le_refl _) _⟩
    simp_all [Gate.bareOf]
    try first | omega | (intros; omega) | (rw [Bool.eq_iff_iff]; simp)

set_option maxHeartbeats 1000000 in
theorem specBare_4 (nm : ByteArray) (ls ms : Int) (a : Option Addr) (n cap : Nat) (to : ByteArray) (rl : Int) (mu fx : Bool) (df wg : ByteArray) (w : World) :
    Calls Tryz.prog 102 #[.agg #[.string nm, .int .i64 4, .int .i64 ls, .int .i64 ms, .slice a n cap, .string to, .int .i64 rl, .bool mu, .bool fx, .string df, .string wg]] w fun e w' => e = .returned (.bool (Gate.bareOf 4 ls ms n to rl wg)) ∧ Below w.heap.size w w' := by
  go_enter Tryz.func102, Tryz.ntmps102
  go_wp2
  all_goals
    go_ret
    refine ⟨ret_bool ?_, (Below.refl _ _).alloc (Nat.le_refl _) _⟩
    simp_all [Gate.bareOf]
    try first | omega | (intros; omega) | (rw [Bool.eq_iff_iff]; simp)

set_option maxHeartbeats 1000000 in
theorem specBare_other (nm : ByteArray) (kd ls ms : Int) (a : Option Addr) (n cap : Nat) (to : ByteArray) (rl : Int) (mu fx : Bool) (df wg : ByteArray) (w : World) (h1 : kd ≠ 1) (h2 : kd ≠ 2) (h3 : kd ≠ 3) (h4 : kd ≠ 4) :
    Calls Tryz.prog 102 #[.agg #[.string nm, .int .i64 kd, .int .i64 ls, .int .i64 ms, .slice a n cap, .string to, .int .i64 rl, .bool mu, .bool fx, .string df, .string wg]] w fun e w' => ∃ b, e = .returned (.bool b) ∧ Below w.heap.size w w' := by
  have e1 : (kd == 1) = false := by simpa using h1
  have e2 : (kd == 2) = false := by simpa using h2
  have e3 : (kd == 3) = false := by simpa using h3
  have e4 : (kd == 4) = false := by simpa using h4
  have n1 : (kd != 1) = true := by simpa using h1
  have n2 : (kd != 2) = true := by simpa using h2
  clear h1 h2 h3 h4
  go_enter Tryz.func102, Tryz.ntmps102
  go_wp2
  all_goals
    go_ret
    exact ⟨_, rfl, (Below.refl _ _).alloc (Nat.le_refl _) _⟩

end Go.Proofs.YthldiefbpemoaaaGreat
