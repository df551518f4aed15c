import Derived.Test.YtackfmeepggedaaDoorM11
import Derived.Test.YtackfmeepggedaaDoorM10
import Derived.Test.YtackfmeepggedaaDoorM03
import Derived.ChangeSlices
namespace Go.Proofs.YtackfmeepggedaaDoor
open Go.RowKit

theorem Gate.kd_cases (s : ByteArray) : s.toList.isEmpty = true ∨ (s.toList.isEmpty = false ∧ Hid (Gate.nameOk s = true)) ∨ (s.toList.isEmpty = false ∧ Hid (Gate.nameOk s = false)) := by
  by_cases h : s.toList.isEmpty = true
  · exact Or.inl h
  · by_cases h2 : Gate.nameOk s = true
    · exact Or.inr (Or.inl ⟨by simpa using h, h2⟩)
    · exact Or.inr (Or.inr ⟨by simpa using h, by simpa [Hid] using h2⟩)

set_option maxHeartbeats 2000000 in
theorem isRule_any (r : Rl) (a : Option Addr) (cap : Nat) (w : World) (hm : r.Small) (hw : IntsAt w a r.vs) :
    Calls Tryd.prog 18 #[.agg (r.cells a cap)] w fun e w' => e = .returned (.bool (Gate.ruleOk r)) ∧ Below w.heap.size w w' := by
  have hskd := hm.kd
  have hstm := hm.tm
  have hspx := hm.px
  have hpx := hm.px
  unfold maxLen at hpx
  unfold Rl.cells
  have HB : Hid (∀ ob, Below w.heap.size w (w.alloc ob)) := fun ob => (Below.refl _ _).alloc (Nat.le_refl _) _
  have HI : Hid (∀ ob, IntsAt (w.alloc ob) a r.vs) := fun ob => hw.mono (HB.out ob)
  clear hw hm
  rcases Gate.kd_cases r.kd with hk | ⟨hk, HK⟩ | ⟨hk, HK⟩
  · rcases Gate.kd_cases r.tm with ht | ⟨ht, HT⟩ | ⟨ht, HT⟩
    · have HKD : Hid (Gate.kindsOk r = true) := by unfold Hid Gate.kindsOk; rw [hk, ht]; simp
      by_cases hv : Gate.verbsOk r.vs = true
      rotate_left
      · have HV : Hid (Gate.verbsOk r.vs = false) := by simpa [Hid] using hv
        have HF : Hid (Gate.ruleOk r = false) := by unfold Hid Gate.ruleOk; rw [HV.out]; simp
        clear hv
        go_enter Tryd.func18, Tryd.ntmps18
        go_wp2_with (first | (go_at_call 39; refine (as_bool HV.out (areVerbs_any _ _ r.vs _ (by exact HI.out _))).mono ?_; rintro e w' ⟨rfl, rfl⟩))
        go_ret
        exact ⟨ret_bool HF.out.symm, HB.out _⟩
      have HV : Hid (Gate.verbsOk r.vs = true) := hv
      clear hv
      by_cases h16 : r.px.size ≤ 16
      · have HF : Hid (Gate.ruleOk r = Gate.allName r.px) := by unfold Hid Gate.ruleOk; rw [HKD.out, HV.out, decide_eq_true h16]; rfl
        have h16I : (r.px.size : Int) ≤ 16 := by omega
        clear h16
        go_enter Tryd.func18, Tryd.ntmps18
        go_wp2_with (first | (go_at_call 39; refine (as_bool HV.out (areVerbs_any _ _ r.vs _ (by exact HI.out _))).mono ?_; rintro e w' ⟨rfl, rfl⟩) | (go_at_call 40; refine (isNameBytes_any r.px _ hspx).mono ?_; rintro e w' ⟨rfl, rfl⟩))
        go_ret
        exact ⟨ret_bool HF.out.symm, HB.out _⟩
      · have HF : Hid (Gate.ruleOk r = false) := by unfold Hid Gate.ruleOk; rw [decide_eq_false h16]; simp
        have h16I : decide ((r.px.size : Int) ≤ 16) = false := by simp; omega
        clear h16
        go_enter Tryd.func18, Tryd.ntmps18
        go_wp2_with (first | (go_at_call 39; refine (as_bool HV.out (areVerbs_any _ _ r.vs _ (by exact HI.out _))).mono ?_; rintro e w' ⟨rfl, rfl⟩))
        go_ret
        exact ⟨ret_bool HF.out.symm, HB.out _⟩
    · have HKD : Hid (Gate.kindsOk r = true) := by unfold Hid Gate.kindsOk; rw [hk, HT.out]; simp
      by_cases hv : Gate.verbsOk r.vs = true
      rotate_left
      · have HV : Hid (Gate.verbsOk r.vs = false) := by simpa [Hid] using hv
        have HF : Hid (Gate.ruleOk r = false) := by unfold Hid Gate.ruleOk; rw [HV.out]; simp
        clear hv
        go_enter Tryd.func18, Tryd.ntmps18
        go_wp2_with (first | (go_at_call_of 34 (Value.string r.tm); refine (as_bool HT.out (isName_any r.tm _ hstm)).mono ?_; rintro e w' ⟨rfl, rfl⟩) | (go_at_call 39; refine (as_bool HV.out (areVerbs_any _ _ r.vs _ (by exact HI.out _))).mono ?_; rintro e w' ⟨rfl, rfl⟩))
        go_ret
        exact ⟨ret_bool HF.out.symm, HB.out _⟩
      have HV : Hid (Gate.verbsOk r.vs = true) := hv
      clear hv
      by_cases h16 : r.px.size ≤ 16
      · have HF : Hid (Gate.ruleOk r = Gate.allName r.px) := by unfold Hid Gate.ruleOk; rw [HKD.out, HV.out, decide_eq_true h16]; rfl
        have h16I : (r.px.size : Int) ≤ 16 := by omega
        clear h16
        go_enter Tryd.func18, Tryd.ntmps18
        go_wp2_with (first | (go_at_call_of 34 (Value.string r.tm); refine (as_bool HT.out (isName_any r.tm _ hstm)).mono ?_; rintro e w' ⟨rfl, rfl⟩) | (go_at_call 39; refine (as_bool HV.out (areVerbs_any _ _ r.vs _ (by exact HI.out _))).mono ?_; rintro e w' ⟨rfl, rfl⟩) | (go_at_call 40; refine (isNameBytes_any r.px _ hspx).mono ?_; rintro e w' ⟨rfl, rfl⟩))
        go_ret
        exact ⟨ret_bool HF.out.symm, HB.out _⟩
      · have HF : Hid (Gate.ruleOk r = false) := by unfold Hid Gate.ruleOk; rw [decide_eq_false h16]; simp
        have h16I : decide ((r.px.size : Int) ≤ 16) = false := by simp; omega
        clear h16
        go_enter Tryd.func18, Tryd.ntmps18
        go_wp2_with (first | (go_at_call_of 34 (Value.string r.tm); refine (as_bool HT.out (isName_any r.tm _ hstm)).mono ?_; rintro e w' ⟨rfl, rfl⟩) | (go_at_call 39; refine (as_bool HV.out (areVerbs_any _ _ r.vs _ (by exact HI.out _))).mono ?_; rintro e w' ⟨rfl, rfl⟩))
        go_ret
        exact ⟨ret_bool HF.out.symm, HB.out _⟩
    · have HF : Hid (Gate.ruleOk r = false) := by unfold Hid Gate.ruleOk Gate.kindsOk; rw [ht, HT.out]; simp
      go_enter Tryd.func18, Tryd.ntmps18
      go_wp2_with (first | (go_at_call_of 34 (Value.string r.tm); refine (as_bool HT.out (isName_any r.tm _ hstm)).mono ?_; rintro e w' ⟨rfl, rfl⟩))
      go_ret
      exact ⟨ret_bool HF.out.symm, HB.out _⟩
  · rcases Gate.kd_cases r.tm with ht | ⟨ht, HT⟩ | ⟨ht, HT⟩
    · have HKD : Hid (Gate.kindsOk r = true) := by unfold Hid Gate.kindsOk; rw [HK.out, ht]; simp
      by_cases hv : Gate.verbsOk r.vs = true
      rotate_left
      · have HV : Hid (Gate.verbsOk r.vs = false) := by simpa [Hid] using hv
        have HF : Hid (Gate.ruleOk r = false) := by unfold Hid Gate.ruleOk; rw [HV.out]; simp
        clear hv
        go_enter Tryd.func18, Tryd.ntmps18
        go_wp2_with (first | (go_at_call_of 34 (Value.string r.kd); refine (as_bool HK.out (isName_any r.kd _ hskd)).mono ?_; rintro e w' ⟨rfl, rfl⟩) | (go_at_call 39; refine (as_bool HV.out (areVerbs_any _ _ r.vs _ (by exact HI.out _))).mono ?_; rintro e w' ⟨rfl, rfl⟩))
        go_ret
        exact ⟨ret_bool HF.out.symm, HB.out _⟩
      have HV : Hid (Gate.verbsOk r.vs = true) := hv
      clear hv
      by_cases h16 : r.px.size ≤ 16
      · have HF : Hid (Gate.ruleOk r = Gate.allName r.px) := by unfold Hid Gate.ruleOk; rw [HKD.out, HV.out, decide_eq_true h16]; rfl
        have h16I : (r.px.size : Int) ≤ 16 := by omega
        clear h16
        go_enter Tryd.func18, Tryd.ntmps18
        go_wp2_with (first | (go_at_call_of 34 (Value.string r.kd); refine (as_bool HK.out (isName_any r.kd _ hskd)).mono ?_; rintro e w' ⟨rfl, rfl⟩) | (go_at_call 39; refine (as_bool HV.out (areVerbs_any _ _ r.vs _ (by exact HI.out _))).mono ?_; rintro e w' ⟨rfl, rfl⟩) | (go_at_call 40; refine (isNameBytes_any r.px _ hspx).mono ?_; rintro e w' ⟨rfl, rfl⟩))
        go_ret
        exact ⟨ret_bool HF.out.symm, HB.out _⟩
      · have HF : Hid (Gate.ruleOk r = false) := by unfold Hid Gate.ruleOk; rw [decide_eq_false h16]; simp
        have h16I : decide ((r.px.size : Int) ≤ 16) = false := by simp; omega
        clear h16
        go_enter Tryd.func18, Tryd.ntmps18
        go_wp2_with (first | (go_at_call_of 34 (Value.string r.kd); refine (as_bool HK.out (isName_any r.kd _ hskd)).mono ?_; rintro e w' ⟨rfl, rfl⟩) | (go_at_call 39; refine (as_bool HV.out (areVerbs_any _ _ r.vs _ (by exact HI.out _))).mono ?_; rintro e w' ⟨rfl, rfl⟩))
        go_ret
        exact ⟨ret_bool HF.out.symm, HB.out _⟩
    · have HKD : Hid (Gate.kindsOk r = true) := by unfold Hid Gate.kindsOk; rw [HK.out, HT.out]; simp
      by_cases hv : Gate.verbsOk r.vs = true
      rotate_left
      · have HV : Hid (Gate.verbsOk r.vs = false) := by simpa [Hid] using hv
        have HF : Hid (Gate.ruleOk r = false) := by unfold Hid Gate.ruleOk; rw [HV.out]; simp
        clear hv
        go_enter Tryd.func18, Tryd.ntmps18
        go_wp2_with (first | (go_at_call_of 34 (Value.string r.kd); refine (as_bool HK.out (isName_any r.kd _ hskd)).mono ?_; rintro e w' ⟨rfl, rfl⟩) | (go_at_call_of 34 (Value.string r.tm); refine (as_bool HT.out (isName_any r.tm _ hstm)).mono ?_; rintro e w' ⟨rfl, rfl⟩) | (go_at_call 39; refine (as_bool HV.out (areVerbs_any _ _ r.vs _ (by exact HI.out _))).mono ?_; rintro e w' ⟨rfl, rfl⟩))
        go_ret
        exact ⟨ret_bool HF.out.symm, HB.out _⟩
      have HV : Hid (Gate.verbsOk r.vs = true) := hv
      clear hv
      by_cases h16 : r.px.size ≤ 16
      · have HF : Hid (Gate.ruleOk r = Gate.allName r.px) := by unfold Hid Gate.ruleOk; rw [HKD.out, HV.out, decide_eq_true h16]; rfl
        have h16I : (r.px.size : Int) ≤ 16 := by omega
        clear h16
        go_enter Tryd.func18, Tryd.ntmps18
        go_wp2_with (first | (go_at_call_of 34 (Value.string r.kd); refine (as_bool HK.out (isName_any r.kd _ hskd)).mono ?_; rintro e w' ⟨rfl, rfl⟩) | (go_at_call_of 34 (Value.string r.tm); refine (as_bool HT.out (isName_any r.tm _ hstm)).mono ?_; rintro e w' ⟨rfl, rfl⟩) | (go_at_call 39; refine (as_bool HV.out (areVerbs_any _ _ r.vs _ (by exact HI.out _))).mono ?_; rintro e w' ⟨rfl, rfl⟩) | (go_at_call 40; refine (isNameBytes_any r.px _ hspx).mono ?_; rintro e w' ⟨rfl, rfl⟩))
        go_ret
        exact ⟨ret_bool HF.out.symm, HB.out _⟩
      · have HF : Hid (Gate.ruleOk r = false) := by unfold Hid Gate.ruleOk; rw [decide_eq_false h16]; simp
        have h16I : decide ((r.px.size : Int) ≤ 16) = false := by simp; omega
        clear h16
        go_enter Tryd.func18, Tryd.ntmps18
        go_wp2_with (first | (go_at_call_of 34 (Value.string r.kd); refine (as_bool HK.out (isName_any r.kd _ hskd)).mono ?_; rintro e w' ⟨rfl, rfl⟩) | (go_at_call_of 34 (Value.string r.tm); refine (as_bool HT.out (isName_any r.tm _ hstm)).mono ?_; rintro e w' ⟨rfl, rfl⟩) | (go_at_call 39; refine (as_bool HV.out (areVerbs_any _ _ r.vs _ (by exact HI.out _))).mono ?_; rintro e w' ⟨rfl, rfl⟩))
        go_ret
        exact ⟨ret_bool HF.out.symm, HB.out _⟩
    · have HF : Hid (Gate.ruleOk r = false) := by unfold Hid Gate.ruleOk Gate.kindsOk; rw [ht, HT.out]; simp
      go_enter Tryd.func18, Tryd.ntmps18
      go_wp2_with (first | (go_at_call_of 34 (Value.string r.kd); refine (as_bool HK.out (isName_any r.kd _ hskd)).mono ?_; rintro e w' ⟨rfl, rfl⟩) | (go_at_call_of 34 (Value.string r.tm); refine (as_bool HT.out (isName_any r.tm _ hstm)).mono ?_; rintro e w' ⟨rfl, rfl⟩))
      go_ret
      exact ⟨ret_bool HF.out.symm, HB.out _⟩
  · have HF : Hid (Gate.ruleOk r = false) := by unfold Hid Gate.ruleOk Gate.kindsOk; rw [hk, HK.out]; simp
    go_enter Tryd.func18, Tryd.ntmps18
    go_wp2_with (first | (go_at_call_of 34 (Value.string r.kd); refine (as_bool HK.out (isName_any r.kd _ hskd)).mono ?_; rintro e w' ⟨rfl, rfl⟩))
    go_ret
    exact ⟨ret_bool HF.out.symm, HB.out _⟩

end Go.Proofs.YtackfmeepggedaaDoor

namespace Go.Proofs.YtackfmeepggedaaDoor
open Go.RowKit

set_option maxHeartbeats 1000000 in
theorem verbsOf_any (a : Option Addr) (cap : Nat) (vs : List Int) (w : World) (hw : IntsAt w a vs) (hv : Gate.verbsOk vs = true) :
    Calls Tryd.prog 43 #[.slice a vs.length cap] w fun e w' => e = .returned (.int .u8 (Gate.bitsOf (Gate.hasVerb vs))) ∧ w' = w := by
  have hl := hw.len
  unfold maxLen at hl
  have HV : Hid (∀ i (h : i < vs.length), 1 ≤ vs[i] ∧ vs[i] ≤ 5) := fun i h => Gate.verbsOk_at hv i h
  clear hv
  go_enter Tryd.func43, Tryd.ntmps43
  go_wp2_with fail
  go_loop [3, 8] (fun s i => ∃ k : Nat, k ≤ vs.length ∧ i = .int .i64 k ∧ s = .int .u8 (Gate.bitsOf (Gate.hasVerb (vs.take k)))) (fun _ i => vs.length - (intOf i).toNat)
  case atStart => exact ⟨0, Nat.zero_le _, rfl, rfl⟩
  case round =>
    obtain ⟨k, hk, rfl, rfl⟩ := hrel
    by_cases hlt : k < vs.length
    · obtain ⟨b, off, rfl, hb, hck⟩ := hw.load (Below.refl _ _) k hlt
      have hltI : (k : Int) < (vs.length : Int) := by omega
      obtain ⟨hv1, hv5⟩ := HV.out k hlt
      have hv0 : ¬ vs[k] < 0 := by omega
      have HS : Hid (Gate.bitsOf (Gate.hasVerb (vs.take (k + 1))) = Gate.orI (Gate.bitsOf (Gate.hasVerb (vs.take k))) (Gate.oneAt vs[k])) := by
        unfold Hid; rw [Gate.bits_or _ _ ⟨hv1, hv5⟩]; exact Gate.bits_congr fun v _ => Gate.hasVerb_snoc vs v k hlt
      clear hw
      go_wp2_with fail
      go_round
      case rel => exact ⟨k + 1, by omega, by go_num, by rw [HS.out]; rfl⟩
      case measure => simp [intOf]; omega
    · have HF : Hid (Gate.bitsOf (Gate.hasVerb (vs.take k)) = Gate.bitsOf (Gate.hasVerb vs)) := by unfold Hid; rw [List.take_of_length_le (by omega)]
      clear hw
      go_wp2_with fail
      go_ret
      exact ⟨ret_int HF.out, rfl⟩

set_option maxHeartbeats 400000 in
theorem has_any (f : Int → Bool) (v : Int) (w : World) :
    Calls Tryd.prog 27 #[.int .u8 (Gate.bitsOf f), .int .i64 v] w fun e w' => e = .returned (.bool (Gate.verbOk v && f v)) ∧ w' = w := by
  by_cases hv : Gate.verbOk v = true
  · have HV : Hid (Gate.verbOk v = true) := hv
    have hv' : 1 ≤ v ∧ v ≤ 5 := by simpa [Gate.verbOk] using hv
    have HB : Hid ((Gate.andI (Gate.bitsOf f) (Gate.oneAt v) != 0) = f v) := Gate.bits_and f v hv'
    obtain ⟨hv1, hv5⟩ := hv'
    have hv0 : ¬ v < 0 := by omega
    clear hv
    go_enter Tryd.func27, Tryd.ntmps27
    go_wp2_with (go_at_call 52; refine (as_bool HV.out (isGiven_any _ _)).mono ?_; rintro e w' ⟨rfl, rfl⟩)
    go_ret
    exact ⟨ret_bool (by rw [HV.out, Bool.true_and, ← HB.out]; rfl), rfl⟩
  · have HV : Hid (Gate.verbOk v = false) := by simpa [Hid] using hv
    clear hv
    go_enter Tryd.func27, Tryd.ntmps27
    go_wp2_with (go_at_call 52; refine (as_bool HV.out (isGiven_any _ _)).mono ?_; rintro e w' ⟨rfl, rfl⟩)
    go_ret
    exact ⟨ret_bool (by rw [HV.out]; rfl), rfl⟩

end Go.Proofs.YtackfmeepggedaaDoor

namespace Go.Proofs.YtackfmeepggedaaDoor
namespace Gate

theorem low5_mem : ∀ a b c d e : Bool, (a || b || c || d || e) = true → (match low5 a b c d e with | 1 => a | 2 => b | 3 => c | 4 => d | 5 => e | _ => false) = true := by decide
/-- Where a verb is lacking, the lowest of them is. -/
theorem low_lacks {ts : List Tm} {rs : List Rl} {r : Rl} (h : ¬ leftBits ts rs r = 0) : lacksAt ts rs r (low (lacksAt ts rs r)) = true := by
  have h0 : (leftBits ts rs r == 0) = false := by simpa using h
  unfold leftBits at h0
  rw [bits_zero] at h0
  have h1 : (lacksAt ts rs r 1 || lacksAt ts rs r 2 || lacksAt ts rs r 3 || lacksAt ts rs r 4 || lacksAt ts rs r 5) = true := by
    rw [← Bool.not_eq_false']; exact h0
  have h2 := low5_mem _ _ _ _ _ h1
  unfold low
  revert h2
  generalize hl : low5 (lacksAt ts rs r 1) (lacksAt ts rs r 2) (lacksAt ts rs r 3) (lacksAt ts rs r 4) (lacksAt ts rs r 5) = n
  intro h2
  split at h2 <;> first | exact h2 | cases h2

/-- What is free of names: an act that a rule allows where another name would not. -/
structure FreeAct (ts : List Tm) (rs : List Rl) (r : Rl) (x : Ac) : Prop where
  nm : x.nm = r.px
  kd : if r.kd.toList.isEmpty = true then x.kd ∉ rs.map Rl.kd else x.kd = r.kd
  tm : if r.tm.toList.isEmpty = true then x.tm ∉ ts.map Tm.nm ∧ x.tm ∉ rs.map Rl.tm else x.tm = r.tm

theorem begins_refl (s : ByteArray) : begins s s = true := by
  rw [begins_iff]
  exact ⟨Nat.le_refl _, by apply ByteArray.ext; simp⟩
theorem under_lone {ts : List Tm} {a b : ByteArray} (h : a ∉ ts.map Tm.nm) (hu : under ts 4 a b = true) : a = b := by
  have hh : hasTeam ts a = false := by
    unfold hasTeam
    rw [List.any_eq_false]
    intro t ht e
    simp only [decide_eq_true_eq] at e
    exact h (List.mem_map.2 ⟨t, ht, e⟩)
  unfold under at hu
  rw [over_none ts a hh] at hu
  simpa using hu

/-- Of a rule that is not covered there is an act that it allows and none of the rules does. -/
theorem free_good {ts : List Tm} {rs : List Rl} {r : Rl} {x : Ac} (hok : teamsOk ts = true) (hr : ruleOk r = true) (hno : ¬ leftBits ts rs r = 0) (hv : x.vb = low (lacksAt ts rs r)) (hx : FreeAct ts rs r x) : allows ts r x = true ∧ ∀ q ∈ rs, allows ts q x = false := by
  have hl := low_lacks hno
  rw [← hv] at hl
  unfold lacksAt at hl
  simp only [Bool.and_eq_true, Bool.not_eq_true'] at hl
  constructor
  · unfold allows allowsOf meets
    rw [hok, hr, hl.1, hx.nm, begins_refl]
    have hk := hx.kd
    have ht := hx.tm
    cases hke : r.kd.toList.isEmpty <;> cases hte : r.tm.toList.isEmpty
    all_goals simp only [hke, hte, Bool.false_eq_true, if_false, if_true] at hk ht
    all_goals simp [hk, ht, under_same]
  · intro q hq
    rw [Bool.eq_false_iff]
    intro ha
    unfold allows allowsOf at ha
    simp only [Bool.and_eq_true] at ha
    have hc : covs ts r q x.vb = true := by
      unfold covs
      rw [ha.2.2.1, Bool.true_and]
      have hm := ha.2.2.2
      unfold meets at hm ⊢
      simp only [Bool.and_eq_true, Bool.or_eq_true, decide_eq_true_eq] at hm ⊢
      refine ⟨?_, ?_, by rw [← hx.nm]; exact hm.2.2⟩
      · rcases hm.1 with h1 | h1
        · exact Or.inl h1
        · have hk := hx.kd
          split at hk
          · exact absurd (List.mem_map.2 ⟨q, hq, h1⟩) hk
          · exact Or.inr (h1.trans hk)
      · rcases hm.2.1 with h1 | h1
        · exact Or.inl h1
        · have ht := hx.tm
          split at ht
          · exact absurd (List.mem_map.2 ⟨q, hq, (under_lone ht.1 h1).symm⟩) ht.2
          · rw [ht] at h1; exact Or.inr h1
    have := List.any_eq_false.1 hl.2 q hq
    exact this hc

/-- With the rule itself among the rules it is covered, if all are ok. -/
theorem covers_self {ts : List Tm} {rs : List Rl} {r : Rl} : covers ts (rs ++ [r]) r = allOk ts rs r := by
  rw [Bool.eq_iff_iff, covers_iff]
  unfold allOk rulesOk
  simp only [Bool.and_eq_true, List.all_append, List.all_cons, List.all_nil, Bool.and_true]
  constructor
  · rintro ⟨h1, h2, h3, _⟩; exact ⟨h1, h2, h3.1⟩
  · rintro ⟨h1, h2, h3⟩
    refine ⟨h1, h2, ⟨h3, h2⟩, fun v hv => ⟨r, by simp, ?_, ?_⟩⟩
    · unfold hasVerb; exact List.any_eq_true.2 ⟨v, hv, by simp⟩
    · unfold meets; simp [under_same, begins_refl]

end Gate
end Go.Proofs.YtackfmeepggedaaDoor

namespace Go.Proofs.YtackfmeepggedaaDoor
open Go.ChangeShapes Go.WideShapes Go.ChangeAt Go.RowKit

theorem Tryd.cellsU8 : Tryd.prog.cellsOf 5 = 1 := by kernel_rfl

/-- Bytes, read. -/
theorem read_u8s {H : Type} {enc : TypeId × Value → H} {w : World} {base : Nat} {spare : Nat → Bool} {held : Bool} {fuel : Nat} {cs : List Value} {x : DataW H × List MemPlace} (h : DataW.trod enc Tryd.prog w base spare held fuel 22 cs = some x) :
    ∃ a n cap, cs = [.slice a n cap] ∧ n ≤ cap ∧ U8sAt w a n := by
  rcases open_ints Tryd.underlying22 Tryd.underlying5 Tryd.cellsU8 h with ⟨rfl, _⟩ | ⟨a, len, cap, zs, rfl, _, hl, hm, hz, _, hcell, hwf⟩
  · exact ⟨none, 0, 0, rfl, Nat.le_refl _, ⟨by simp [maxLen], fun h => absurd h (by omega)⟩⟩
  · have hle : len ≤ zs.length := by rw [hz]; split <;> omega
    refine ⟨some a, len, cap, rfl, hl, ⟨by omega, fun hp => ?_⟩⟩
    have h0 := hcell 0 (by omega)
    obtain ⟨ha, hb⟩ := addr_of_cell h0
    simp only [Addr.add, if_true] at ha hb
    refine ⟨a.block, a.off, by rw [← ha], hb, fun i hi => ?_⟩
    have h1 := hcell i (by omega)
    have e1 : a.add i = ⟨a.block, a.off + i, none⟩ := by
      unfold Addr.add; split
      · rename_i h; subst h; simpa using ha
      · rfl
    rw [e1] at h1
    have hm9 : zs.getD i 0 ∈ zs := by
      rw [List.getD_eq_getElem?_getD, List.getElem?_eq_getElem (by omega)]
      exact List.getElem_mem _
    have hr9 : ∀ z : Int, (Lit.int .u8 z).wf = true → 0 ≤ z ∧ z ≤ 255 := by
      intro z hz9
      have hz8 : (decide ((0 : Int) ≤ z) && decide (z ≤ 255)) = true := hz9
      simpa using hz8
    obtain ⟨h8, h9⟩ := hr9 _ (hwf _ hm9)
    exact ⟨_, h8, h9, h1⟩

end Go.Proofs.YtackfmeepggedaaDoor
