import Derived.Test.YtackfmeepggedaaDoorM19
import Derived.Test.YtackfmeepggedaaDoorM14
namespace Go.Proofs.YtackfmeepggedaaDoor
open Go.RowKit

/-- A rule that sits among its teams. -/
def seatCells (ta : Option Addr) (tcap : Nat) (ts : List Tm) (r : Rl) (a : Option Addr) (cap : Nat) : Array Value :=
  #[.slice ta ts.length tcap, .slice a r.vs.length cap, .string r.kd, .string r.tm, .string r.px, .int .u8 (Gate.bitsOf (Gate.hasVerb r.vs))]
def Gate.rightBits (ts : List Tm) (r : Rl) (kd tm nm : ByteArray) : Int := Gate.bitsOf (fun v => Gate.meets ts r kd tm nm && Gate.hasVerb r.vs v)
theorem Gate.right_no {ts : List Tm} {r : Rl} {kd tm nm : ByteArray} (h : Gate.meets ts r kd tm nm = false) : Gate.rightBits ts r kd tm nm = 0 := by
  unfold Gate.rightBits; rw [h]; rfl
theorem Gate.right_yes {ts : List Tm} {r : Rl} {kd tm nm : ByteArray} (h : Gate.meets ts r kd tm nm = true) : Gate.rightBits ts r kd tm nm = Gate.bitsOf (Gate.hasVerb r.vs) := by
  unfold Gate.rightBits; rw [h]; rfl

set_option maxHeartbeats 2000000 in
theorem verbsFor_any (ta : Option Addr) (tcap : Nat) (ts : List Tm) (r : Rl) (a : Option Addr) (cap : Nat) (kd tm nm : ByteArray) (w : World) (hw : TmsAt w ta ts) (hm : r.Small) (hn : nm.size ≤ maxLen) :
    Calls Tryd.prog 51 #[.agg (seatCells ta tcap ts r a cap), .string kd, .string tm, .string nm] w fun e w' => e = .returned (.int .u8 (Gate.rightBits ts r kd tm nm)) ∧ Below w.heap.size w w' := by
  have hpx := hm.px
  have HB : Hid (∀ ob, Below w.heap.size w (w.alloc ob)) := fun ob => (Below.refl _ _).alloc (Nat.le_refl _) _
  have HT : Hid (∀ ob, TmsAt (w.alloc ob) ta ts) := fun ob => hw.mono (HB.out ob)
  clear hw hm
  unfold seatCells
  have hkc : (r.kd.toList.isEmpty = true) ∨ (r.kd.toList.isEmpty = false ∧ (r.kd.toList == kd.toList) = true) ∨ (r.kd.toList.isEmpty = false ∧ (r.kd.toList == kd.toList) = false) := by
    cases r.kd.toList.isEmpty <;> cases (r.kd.toList == kd.toList) <;> simp
  have htc : (r.tm.toList.isEmpty = true) ∨ (r.tm.toList.isEmpty = false ∧ Hid (Gate.under ts 4 tm r.tm = true)) ∨ (r.tm.toList.isEmpty = false ∧ Hid (Gate.under ts 4 tm r.tm = false)) := by
    unfold Hid
    cases r.tm.toList.isEmpty <;> cases Gate.under ts 4 tm r.tm <;> simp
  have HM : Hid (Gate.meets ts r kd tm nm = ((r.kd.toList.isEmpty || (r.kd.toList == kd.toList)) && ((r.tm.toList.isEmpty || Gate.under ts 4 tm r.tm) && Gate.begins nm r.px))) := by
    unfold Hid Gate.meets; rw [Gate.beq_toList]
  rcases hkc with hk | ⟨hk, hke⟩ | ⟨hk, hke⟩
  · rcases htc with ht | ⟨ht, HU⟩ | ⟨ht, HU⟩
    · by_cases hb : Gate.begins nm r.px = true
      · have HP : Hid (Gate.begins nm r.px = true) := hb
        clear hb
        have HF : Hid (Gate.rightBits ts r kd tm nm = Gate.bitsOf (Gate.hasVerb r.vs)) := Gate.right_yes (by rw [HM.out, hk, ht, HP.out]; rfl)
        go_enter Tryd.func51, Tryd.ntmps51
        go_wp2_with (go_at_call 68; refine (as_bool HP.out (HasPrefix_any nm r.px _ hn hpx)).mono ?_; rintro e w' ⟨rfl, rfl⟩)
        go_ret
        exact ⟨ret_int HF.out.symm, HB.out _⟩
      · have HP : Hid (Gate.begins nm r.px = false) := by simpa [Hid] using hb
        clear hb
        have HF : Hid (Gate.rightBits ts r kd tm nm = 0) := Gate.right_no (by rw [HM.out, hk, ht, HP.out]; simp)
        go_enter Tryd.func51, Tryd.ntmps51
        go_wp2_with (go_at_call 68; refine (as_bool HP.out (HasPrefix_any nm r.px _ hn hpx)).mono ?_; rintro e w' ⟨rfl, rfl⟩)
        go_ret
        exact ⟨ret_int HF.out.symm, HB.out _⟩
    · by_cases hb : Gate.begins nm r.px = true
      · have HP : Hid (Gate.begins nm r.px = true) := hb
        clear hb
        have HF : Hid (Gate.rightBits ts r kd tm nm = Gate.bitsOf (Gate.hasVerb r.vs)) := Gate.right_yes (by rw [HM.out, hk, ht, HU.out, HP.out]; rfl)
        go_enter Tryd.func51, Tryd.ntmps51
        go_wp2_with fail
        refine (as_bool HU.out (implUnder_any _ _ ts tm r.tm _ (HT.out _))).mono ?_
        rintro e w1 ⟨rfl, hb1⟩
        have hX1 := box_later (box_new w _ _) (by simp) hb1
        have hz : w.heap.size < w1.heap.size := by have := hb1.size; simp at this; omega
        have HB1 : Hid (Below w.heap.size w w1) := (HB.out _).trans (hb1.mono (by simp))
        clear hb1
        go_wp2_with (go_at_call 68; refine (as_bool HP.out (HasPrefix_any nm r.px _ hn hpx)).mono ?_; rintro e w' ⟨rfl, rfl⟩)
        go_ret
        exact ⟨ret_int HF.out.symm, HB1.out⟩
      · have HP : Hid (Gate.begins nm r.px = false) := by simpa [Hid] using hb
        clear hb
        have HF : Hid (Gate.rightBits ts r kd tm nm = 0) := Gate.right_no (by rw [HM.out, hk, ht, HU.out, HP.out]; simp)
        go_enter Tryd.func51, Tryd.ntmps51
        go_wp2_with fail
        refine (as_bool HU.out (implUnder_any _ _ ts tm r.tm _ (HT.out _))).mono ?_
        rintro e w1 ⟨rfl, hb1⟩
        have hX1 := box_later (box_new w _ _) (by simp) hb1
        have hz : w.heap.size < w1.heap.size := by have := hb1.size; simp at this; omega
        have HB1 : Hid (Below w.heap.size w w1) := (HB.out _).trans (hb1.mono (by simp))
        clear hb1
        go_wp2_with (go_at_call 68; refine (as_bool HP.out (HasPrefix_any nm r.px _ hn hpx)).mono ?_; rintro e w' ⟨rfl, rfl⟩)
        go_ret
        exact ⟨ret_int HF.out.symm, HB1.out⟩
    · have HF : Hid (Gate.rightBits ts r kd tm nm = 0) := Gate.right_no (by rw [HM.out, hk, ht, HU.out]; simp)
      go_enter Tryd.func51, Tryd.ntmps51
      go_wp2_with fail
      refine (as_bool HU.out (implUnder_any _ _ ts tm r.tm _ (HT.out _))).mono ?_
      rintro e w1 ⟨rfl, hb1⟩
      have HB1 : Hid (Below w.heap.size w w1) := (HB.out _).trans (hb1.mono (by simp))
      clear hb1
      go_wp2_with fail
      go_ret
      exact ⟨ret_int HF.out.symm, HB1.out⟩
  · rcases htc with ht | ⟨ht, HU⟩ | ⟨ht, HU⟩
    · by_cases hb : Gate.begins nm r.px = true
      · have HP : Hid (Gate.begins nm r.px = true) := hb
        clear hb
        have HF : Hid (Gate.rightBits ts r kd tm nm = Gate.bitsOf (Gate.hasVerb r.vs)) := Gate.right_yes (by rw [HM.out, hk, hke, ht, HP.out]; rfl)
        go_enter Tryd.func51, Tryd.ntmps51
        go_wp2_with (go_at_call 68; refine (as_bool HP.out (HasPrefix_any nm r.px _ hn hpx)).mono ?_; rintro e w' ⟨rfl, rfl⟩)
        go_ret
        exact ⟨ret_int HF.out.symm, HB.out _⟩
      · have HP : Hid (Gate.begins nm r.px = false) := by simpa [Hid] using hb
        clear hb
        have HF : Hid (Gate.rightBits ts r kd tm nm = 0) := Gate.right_no (by rw [HM.out, hk, hke, ht, HP.out]; simp)
        go_enter Tryd.func51, Tryd.ntmps51
        go_wp2_with (go_at_call 68; refine (as_bool HP.out (HasPrefix_any nm r.px _ hn hpx)).mono ?_; rintro e w' ⟨rfl, rfl⟩)
        go_ret
        exact ⟨ret_int HF.out.symm, HB.out _⟩
    · by_cases hb : Gate.begins nm r.px = true
      · have HP : Hid (Gate.begins nm r.px = true) := hb
        clear hb
        have HF : Hid (Gate.rightBits ts r kd tm nm = Gate.bitsOf (Gate.hasVerb r.vs)) := Gate.right_yes (by rw [HM.out, hk, hke, ht, HU.out, HP.out]; rfl)
        go_enter Tryd.func51, Tryd.ntmps51
        go_wp2_with fail
        refine (as_bool HU.out (implUnder_any _ _ ts tm r.tm _ (HT.out _))).mono ?_
        rintro e w1 ⟨rfl, hb1⟩
        have hX1 := box_later (box_new w _ _) (by simp) hb1
        have hz : w.heap.size < w1.heap.size := by have := hb1.size; simp at this; omega
        have HB1 : Hid (Below w.heap.size w w1) := (HB.out _).trans (hb1.mono (by simp))
        clear hb1
        go_wp2_with (go_at_call 68; refine (as_bool HP.out (HasPrefix_any nm r.px _ hn hpx)).mono ?_; rintro e w' ⟨rfl, rfl⟩)
        go_ret
        exact ⟨ret_int HF.out.symm, HB1.out⟩
      · have HP : Hid (Gate.begins nm r.px = false) := by simpa [Hid] using hb
        clear hb
        have HF : Hid (Gate.rightBits ts r kd tm nm = 0) := Gate.right_no (by rw [HM.out, hk, hke, ht, HU.out, HP.out]; simp)
        go_enter Tryd.func51, Tryd.ntmps51
        go_wp2_with fail
        refine (as_bool HU.out (implUnder_any _ _ ts tm r.tm _ (HT.out _))).mono ?_
        rintro e w1 ⟨rfl, hb1⟩
        have hX1 := box_later (box_new w _ _) (by simp) hb1
        have hz : w.heap.size < w1.heap.size := by have := hb1.size; simp at this; omega
        have HB1 : Hid (Below w.heap.size w w1) := (HB.out _).trans (hb1.mono (by simp))
        clear hb1
        go_wp2_with (go_at_call 68; refine (as_bool HP.out (HasPrefix_any nm r.px _ hn hpx)).mono ?_; rintro e w' ⟨rfl, rfl⟩)
        go_ret
        exact ⟨ret_int HF.out.symm, HB1.out⟩
    · have HF : Hid (Gate.rightBits ts r kd tm nm = 0) := Gate.right_no (by rw [HM.out, hk, hke, ht, HU.out]; simp)
      go_enter Tryd.func51, Tryd.ntmps51
      go_wp2_with fail
      refine (as_bool HU.out (implUnder_any _ _ ts tm r.tm _ (HT.out _))).mono ?_
      rintro e w1 ⟨rfl, hb1⟩
      have HB1 : Hid (Below w.heap.size w w1) := (HB.out _).trans (hb1.mono (by simp))
      clear hb1
      go_wp2_with fail
      go_ret
      exact ⟨ret_int HF.out.symm, HB1.out⟩
  · have HF : Hid (Gate.rightBits ts r kd tm nm = 0) := Gate.right_no (by rw [HM.out, hk, hke]; rfl)
    go_enter Tryd.func51, Tryd.ntmps51
    go_wp2_with fail
    go_ret
    exact ⟨ret_int HF.out.symm, HB.out _⟩

set_option maxHeartbeats 1000000 in
theorem rightOf_any (ta : Option Addr) (tcap : Nat) (ts : List Tm) (r : Rl) (a : Option Addr) (cap : Nat) (w : World) (hw : IntsAt w a r.vs) (hv : Gate.verbsOk r.vs = true) :
    Calls Tryd.prog 26 #[.slice ta ts.length tcap, .agg (r.cells a cap)] w fun e w' => e = .returned (.func (.func 51) #[.agg (seatCells ta tcap ts r a cap)] #[]) ∧ Below w.heap.size w w' := by
  unfold Rl.cells seatCells
  have HI : Hid (∀ ob n, IntsAt ((w.alloc ob).drewN n) a r.vs) := fun ob n => hw.mono (below_drewN ((Below.refl _ _).alloc (Nat.le_refl _) _) n)
  go_enter Tryd.func26, Tryd.ntmps26
  go_wp2_with fail
  go_quiet ((go_at_call 43; exact Calls.quiet_of_same (verbsOf_any _ _ r.vs _ (by exact HI.out _ _) hv)))
  go_wp2_with fail
  go_ret
  exact ⟨rfl, below_drewN ((Below.refl _ _).alloc (Nat.le_refl _) _) _⟩

end Go.Proofs.YtackfmeepggedaaDoor
