import Derived.Test.YtimhinpekngceaaDoorM14
import Derived.Test.YtimhinpekngceaaDoorM12
namespace Go.Proofs.YtimhinpekngceaaDoor
open Go.RowKit

/-- A rule that sits among its teams. -/
def seatCells (ta : Option Addr) (tcap : Nat) (ts : List Tm) (r : Rl) (a : Option Addr) (cap : Nat) : Array Value :=
  #[.slice ta ts.length tcap, .slice a r.vs.length cap, .string r.kd, .string r.tm, .string r.px, .int .u8 (Gate.bitsOf (Gate.hasVerb r.vs))]
def Gate.rightBits (ts : List Tm) (r : Rl) (kd tm nm : ByteArray) : Int := Gate.bitsOf (fun v => Gate.meets ts r kd tm nm && Gate.hasVerb r.vs v)
theorem Gate.right_no {ts : List Tm} {r : Rl} {kd tm nm : ByteArray} (h : Gate.meets ts r kd tm nm = false) : Gate.rightBits ts r kd tm nm = 0 := by
  unfold Gate.rightBits; rw [h]; rfl
theorem Gate.right_yes {ts : List Tm} {r : Rl} {kd tm nm : ByteArray} (h : Gate.meets ts r kd tm nm = true) : Gate.rightBits ts r kd tm nm = Gate.bitsOf (Gate.hasVerb r.vs) := by
  unfold Gate.rightBits; rw [h]; rfl

set_option maxHeartbeats 2000000 in
theorem verbsFor_any (ta : Option Addr) (tcap : Nat) (ts : List Tm) (r : Rl) (a : Option Addr) (cap : Nat) (kd tm nm : ByteArray) (w : World) (hw : TmsAt w ta ts) (hm : r.Small) (hn : nm.size ≤ maxLen) :
    Calls Tryd.prog 71 #[.agg (seatCells ta tcap ts r a cap), .string kd, .string tm, .string nm] w fun e w' => e = .returned (.int .u8 (Gate.rightBits ts r kd tm nm)) ∧ Below w.heap.size w w' := by
  have hpx := hm.px
  have HB : Hid (∀ ob, Below w.heap.size w (w.alloc ob)) := fun ob => (Below.refl _ _).alloc (Nat.le_refl _) _
  have HT : Hid (∀ ob, TmsAt (w.alloc ob) ta ts) := fun ob => hw.mono (HB.out ob)
  clear hw hm
  unfold seatCells
  have hkc : (r.kd.toList.isEmpty = true) ∨ (r.kd.toList.isEmpty = false ∧ (r.kd.toList == kd.toList) = true) ∨ (r.kd.toList.isEmpty = false ∧ (r.kd.toList == kd.toList) = false) := by
    cases r.kd.toList.isEmpty <;> cases (r.kd.toList == kd.toList) <;> simp
  have htc : (r.tm.toList.isEmpty = true) ∨ (r.tm.toList.isEmpty = false ∧ Hid (Gate.under ts 4 tm r.tm = true)) ∨ (r.tm.toList.isEmpty = false ∧ Hid (Gate.under ts 4 tm r.tm = false)) := by
    unfold Hid
    cases r.tm.toList.isEmpty <;> cases Gate.under ts 4 tm r.tm <;> simp
  have HM : Hid (Gate.meets ts r kd tm nm = ((r.kd.toList.isEmpty || (r.kd.toList == kd.toList)) && ((r.tm.toList.isEmpty || Gate.under ts 4 tm r.tm) && Gate.begins nm r.px))) := by
    unfold Hid Gate.meets; rw [Gate.beq_toList]
  rcases hkc with hk | ⟨hk, hke⟩ | ⟨hk, hke⟩
  · rcases htc with ht | ⟨ht, HU⟩ | ⟨ht, HU⟩
    · by_cases hb : Gate.begins nm r.px = true
      · have HP : Hid (Gate.begins nm r.px = true) := hb
        clear hb
        have HF : Hid (Gate.rightBits ts r kd tm nm = Gate.bitsOf (Gate.hasVerb r.vs)) := Gate.right_yes (by rw [HM.out, hk, ht, HP.out]; rfl)
        go_enter Tryd.func71, Tryd.ntmps71
        go_wp2_with (go_at_call 88; refine (as_bool HP.out (HasPrefix_any nm r.px _ hn hpx)).mono ?_; rintro e w' ⟨rfl, rfl⟩)
        go_ret
        exact ⟨ret_int HF.out.symm, HB.out _⟩
      · have HP : Hid (Gate.begins nm r.px = false) := by simpa [Hid] using hb
        clear hb
        have HF : Hid (Gate.rightBits ts r kd tm nm = 0) := Gate.right_no (by rw [HM.out, hk, ht, HP.out]; simp)
        go_enter Tryd.func71, Tryd.ntmps71
        go_wp2_with (go_at_call 88; refine (as_bool HP.out (HasPrefix_any nm r.px _ hn hpx)).mono ?_; rintro e w' ⟨rfl, rfl⟩)
        go_ret
        exact ⟨ret_int HF.out.symm, HB.out _⟩
    · by_cases hb : Gate.begins nm r.px = true
      · have HP : Hid (Gate.begins nm r.px = true) := hb
        clear hb
        have HF : Hid (Gate.rightBits ts r kd tm nm = Gate.bitsOf (Gate.hasVerb r.vs)) := Gate.right_yes (by rw [HM.out, hk, ht, HU.out, HP.out]; rfl)
        go_enter Tryd.func71, Tryd.ntmps71
        go_wp2_with fail
        refine (as_bool HU.out (implUnder_any _ _ ts tm r.tm _ (HT.out _))).mono ?_
        rintro e w1 ⟨rfl, hb1⟩
        have hX1 := box_later (box_new w _ _) (by simp) hb1
        have hz : w.heap.size < w1.heap.size := by have := hb1.size; simp at this; omega
        have HB1 : Hid (Below w.heap.size w w1) := (HB.out _).trans (hb1.mono (by simp))
        clear hb1
        go_wp2_with (go_at_call 88; refine (as_bool HP.out (HasPrefix_any nm r.px _ hn hpx)).mono ?_; rintro e w' ⟨rfl, rfl⟩)
        go_ret
        exact ⟨ret_int HF.out.symm, HB1.out⟩
      · have HP : Hid (Gate.begins nm r.px = false) := by simpa [Hid] using hb
        clear hb
        have HF : Hid (Gate.rightBits ts r kd tm nm = 0) := Gate.right_no (by rw [HM.out, hk, ht, HU.out, HP.out]; simp)
        go_enter Tryd.func71, Tryd.ntmps71
        go_wp2_with fail
        refine (as_bool HU.out (implUnder_any _ _ ts tm r.tm _ (HT.out _))).mono ?_
        rintro e w1 ⟨rfl, hb1⟩
        have hX1 := box_later (box_new w _ _) (by simp) hb1
        have hz : w.heap.size < w1.heap.size := by have := hb1.size; simp at this; omega
        have HB1 : Hid (Below w.heap.size w w1) := (HB.out _).trans (hb1.mono (by simp))
        clear hb1
        go_wp2_with (go_at_call 88; refine (as_bool HP.out (HasPrefix_any nm r.px _ hn hpx)).mono ?_; rintro e w' ⟨rfl, rfl⟩)
        go_ret
        exact ⟨ret_int HF.out.symm, HB1.out⟩
    · have HF : Hid (Gate.rightBits ts r kd tm nm = 0) := Gate.right_no (by rw [HM.out, hk, ht, HU.out]; simp)
      go_enter Tryd.func71, Tryd.ntmps71
      go_wp2_with fail
      refine (as_bool HU.out (implUnder_any _ _ ts tm r.tm _ (HT.out _))).mono ?_
      rintro e w1 ⟨rfl, hb1⟩
      have HB1 : Hid (Below w.heap.size w w1) := (HB.out _).trans (hb1.mono (by simp))
      clear hb1
      go_wp2_with fail
      go_ret
      exact ⟨ret_int HF.out.symm, HB1.out⟩
  · rcases htc with ht | ⟨ht, HU⟩ | ⟨ht, HU⟩
    · by_cases hb : Gate.begins nm r.px = true
      · have HP : Hid (Gate.begins nm r.px = true) := hb
        clear hb
        have HF : Hid (Gate.rightBits ts r kd tm nm = Gate.bitsOf (Gate.hasVerb r.vs)) := Gate.right_yes (by rw [HM.out, hk, hke, ht, HP.out]; rfl)
        go_enter Tryd.func71, Tryd.ntmps71
        go_wp2_with (go_at_call 88; refine (as_bool HP.out (HasPrefix_any nm r.px _ hn hpx)).mono ?_; rintro e w' ⟨rfl, rfl⟩)
        go_ret
        exact ⟨ret_int HF.out.symm, HB.out _⟩
      · have HP : Hid (Gate.begins nm r.px = false) := by simpa [Hid] using hb
        clear hb
        have HF : Hid (Gate.rightBits ts r kd tm nm = 0) := Gate.right_no (by rw [HM.out, hk, hke, ht, HP.out]; simp)
        go_enter Tryd.func71, Tryd.ntmps71
        go_wp2_with (go_at_call 88; refine (as_bool HP.out (HasPrefix_any nm r.px _ hn hpx)).mono ?_; rintro e w' ⟨rfl, rfl⟩)
        go_ret
        exact ⟨ret_int HF.out.symm, HB.out _⟩
    · by_cases hb : Gate.begins nm r.px = true
      · have HP : Hid (Gate.begins nm r.px = true) := hb
        clear hb
        have HF : Hid (Gate.rightBits ts r kd tm nm = Gate.bitsOf (Gate.hasVerb r.vs)) := Gate.right_yes (by rw [HM.out, hk, hke, ht, HU.out, HP.out]; rfl)
        go_enter Tryd.func71, Tryd.ntmps71
        go_wp2_with fail
        refine (as_bool HU.out (implUnder_any _ _ ts tm r.tm _ (HT.out _))).mono ?_
        rintro e w1 ⟨rfl, hb1⟩
        have hX1 := box_later (box_new w _ _) (by simp) hb1
        have hz : w.heap.size < w1.heap.size := by have := hb1.size; simp at this; omega
        have HB1 : Hid (Below w.heap.size w w1) := (HB.out _).trans (hb1.mono (by simp))
        clear hb1
        go_wp2_with (go_at_call 88; refine (as_bool HP.out (HasPrefix_any nm r.px _ hn hpx)).mono ?_; rintro e w' ⟨rfl, rfl⟩)
        go_ret
        exact ⟨ret_int HF.out.symm, HB1.out⟩
      · have HP : Hid (Gate.begins nm r.px = false) := by simpa [Hid] using hb
        clear hb
        have HF : Hid (Gate.rightBits ts r kd tm nm = 0) := Gate.right_no (by rw [HM.out, hk, hke, ht, HU.out, HP.out]; simp)
        go_enter Tryd.func71, Tryd.ntmps71
        go_wp2_with fail
        refine (as_bool HU.out (implUnder_any _ _ ts tm r.tm _ (HT.out _))).mono ?_
        rintro e w1 ⟨rfl, hb1⟩
        have hX1 := box_later (box_new w _ _) (by simp) hb1
        have hz : w.heap.size < w1.heap.size := by have := hb1.size; simp at this; omega
        have HB1 : Hid (Below w.heap.size w w1) := (HB.out _).trans (hb1.mono (by simp))
        clear hb1
        go_wp2_with (go_at_call 88; refine (as_bool HP.out (HasPrefix_any nm r.px _ hn hpx)).mono ?_; rintro e w' ⟨rfl, rfl⟩)
        go_ret
        exact ⟨ret_int HF.out.symm, HB1.out⟩
    · have HF : Hid (Gate.rightBits ts r kd tm nm = 0) := Gate.right_no (by rw [HM.out, hk, hke, ht, HU.out]; simp)
      go_enter Tryd.func71, Tryd.ntmps71
      go_wp2_with fail
      refine (as_bool HU.out (implUnder_any _ _ ts tm r.tm _ (HT.out _))).mono ?_
      rintro e w1 ⟨rfl, hb1⟩
      have HB1 : Hid (Below w.heap.size w w1) := (HB.out _).trans (hb1.mono (by simp))
      clear hb1
      go_wp2_with fail
      go_ret
      exact ⟨ret_int HF.out.symm, HB1.out⟩
  · have HF : Hid (Gate.rightBits ts r kd tm nm = 0) := Gate.right_no (by rw [HM.out, hk, hke]; rfl)
    go_enter Tryd.func71, Tryd.ntmps71
    go_wp2_with fail
    go_ret
    exact ⟨ret_int HF.out.symm, HB.out _⟩

set_option maxHeartbeats 1000000 in
theorem rightOf_any (ta : Option Addr) (tcap : Nat) (ts : List Tm) (r : Rl) (a : Option Addr) (cap : Nat) (w : World) (hw : IntsAt w a r.vs) (hv : Gate.verbsOk r.vs = true) :
    Calls Tryd.prog 45 #[.slice ta ts.length tcap, .agg (r.cells a cap)] w fun e w' => e = .returned (.func (.func 71) #[.agg (seatCells ta tcap ts r a cap)] #[]) ∧ Below w.heap.size w w' := by
  unfold Rl.cells seatCells
  have HI : Hid (∀ ob n, IntsAt ((w.alloc ob).drewN n) a r.vs) := fun ob n => hw.mono (below_drewN ((Below.refl _ _).alloc (Nat.le_refl _) _) n)
  go_enter Tryd.func45, Tryd.ntmps45
  go_wp2_with fail
  go_quiet ((go_at_call 63; exact Calls.quiet_of_same (verbsOf_any _ _ r.vs _ (by exact HI.out _ _) hv)))
  go_wp2_with fail
  go_ret
  exact ⟨rfl, below_drewN ((Below.refl _ _).alloc (Nat.le_refl _) _) _⟩

end Go.Proofs.YtimhinpekngceaaDoor

namespace Go.Proofs.YtimhinpekngceaaDoor
open Go.RowKit

theorem any_take_snoc {α : Type} (p : α → Bool) (l : List α) (k : Nat) (h : k < l.length) : (l.take (k + 1)).any p = ((l.take k).any p || p l[k]) := by
  rw [List.take_succ_eq_append_getElem h, List.any_append]; simp
theorem any_at {α : Type} (p : α → Bool) (l : List α) (k : Nat) (h : k < l.length) (hp : p l[k] = true) : l.any p = true := by
  rw [List.any_eq_true]; exact ⟨l[k], List.getElem_mem h, hp⟩

/-- A function value of one captured box, called at each team: what it answers. -/
def TeamFn (P : Program) (fid : Nat) (q : Value) (ts : List Tm) (w : World) (p : Tm → Bool) : Prop :=
  ∀ w1, Below w.heap.size w w1 → ∀ i (h : i < ts.length), Calls P fid #[.agg ts[i].cells, q] w1 fun e w' => e = .returned (.bool (p ts[i])) ∧ Below w1.heap.size w1 w'

set_option maxHeartbeats 1000000 in
theorem IndexFuncT_any (a : Option Addr) (cap : Nat) (ts : List Tm) (q : Value) (p : Tm → Bool) (w : World) (hw : TmsAt w a ts) (hf : TeamFn Tryd.prog 79 q ts w p) :
    Calls Tryd.prog 80 #[.slice a ts.length cap, .func (.func 79) #[] #[q]] w fun e w' => ∃ r : Int, e = .returned (.int .i64 r) ∧ decide (0 ≤ r) = ts.any p ∧ Below w.heap.size w w' := by
  have hl := hw.len
  unfold maxLen at hl
  go_enter Tryd.func80, Tryd.ntmps80
  go_wp2_with fail
  go_loopw [8] (fun i wr => ∃ k : Nat, k ≤ ts.length ∧ i = .int .i64 k ∧ (ts.take k).any p = false ∧ Below w.heap.size w wr) (fun i _ => ts.length - (intOf i).toNat)
  case atStart => exact ⟨0, Nat.zero_le _, rfl, rfl, Below.refl _ _⟩
  case round =>
    obtain ⟨k, hk, rfl, hno, hB⟩ := hrel
    by_cases hlt : k < ts.length
    · obtain ⟨b, off, rfl, hb, c0, c1⟩ := hw.load hB k hlt
      have hltI : (k : Int) < (ts.length : Int) := by omega
      have hc := hf wr hB k hlt
      clear hw hf
      by_cases he : p ts[k] = true
      · have HA : Hid (ts.any p = true) := any_at p ts k hlt he
        have HE : Hid (p ts[k] = true) := he
        clear he hno
        go_wp2_with fail
        refine (as_bool HE.out hc).mono ?_
        rintro e w2 ⟨rfl, hb2⟩
        go_wp2_with fail
        go_ret
        exact ⟨_, rfl, by rw [HA.out]; simp, hB.trans (hb2.mono hB.size)⟩
      · have he' : p ts[k] = false := by simpa using he
        have HS : Hid ((ts.take (k + 1)).any p = false) := by unfold Hid; rw [any_take_snoc p ts k hlt, hno, he']; rfl
        have HE : Hid (p ts[k] = false) := he'
        clear he he' hno
        go_wp2_with fail
        refine (as_bool HE.out hc).mono ?_
        rintro e w2 ⟨rfl, hb2⟩
        go_wp2_with fail
        exact ⟨⟨k + 1, by omega, by go_num, HS.out, hB.trans (hb2.mono hB.size)⟩, by simp [intOf]; omega⟩
    · have HA : Hid (ts.any p = false) := by unfold Hid; rw [← hno, List.take_of_length_le (by omega)]
      clear hno hw hf
      go_wp2_with fail
      go_ret
      exact ⟨_, rfl, by rw [HA.out]; rfl, hB⟩

set_option maxHeartbeats 400000 in
theorem ContainsFuncT_any (a : Option Addr) (cap : Nat) (ts : List Tm) (q : Value) (p : Tm → Bool) (w : World) (hw : TmsAt w a ts) (hf : TeamFn Tryd.prog 79 q ts w p) :
    Calls Tryd.prog 56 #[.slice a ts.length cap, .func (.func 79) #[] #[q]] w fun e w' => e = .returned (.bool (ts.any p)) ∧ Below w.heap.size w w' := by
  go_enter Tryd.func56, Tryd.ntmps56
  go_wp2_with fail
  refine (IndexFuncT_any _ _ _ _ _ _ hw hf).mono ?_
  rintro e w2 ⟨r, rfl, hr, hb2⟩
  go_wp2_with fail
  go_ret
  exact ⟨rfl, hb2⟩

set_option maxHeartbeats 1000000 in
theorem IndexFuncU_any (a : Option Addr) (cap : Nat) (ts : List Tm) (q : Value) (p : Tm → Bool) (w : World) (hw : TmsAt w a ts) (hf : TeamFn Tryd.prog 57 q ts w p) :
    Calls Tryd.prog 80 #[.slice a ts.length cap, .func (.func 57) #[] #[q]] w fun e w' => ∃ r : Int, e = .returned (.int .i64 r) ∧ decide (0 ≤ r) = ts.any p ∧ Below w.heap.size w w' := by
  have hl := hw.len
  unfold maxLen at hl
  go_enter Tryd.func80, Tryd.ntmps80
  go_wp2_with fail
  go_loopw [8] (fun i wr => ∃ k : Nat, k ≤ ts.length ∧ i = .int .i64 k ∧ (ts.take k).any p = false ∧ Below w.heap.size w wr) (fun i _ => ts.length - (intOf i).toNat)
  case atStart => exact ⟨0, Nat.zero_le _, rfl, rfl, Below.refl _ _⟩
  case round =>
    obtain ⟨k, hk, rfl, hno, hB⟩ := hrel
    by_cases hlt : k < ts.length
    · obtain ⟨b, off, rfl, hb, c0, c1⟩ := hw.load hB k hlt
      have hltI : (k : Int) < (ts.length : Int) := by omega
      have hc := hf wr hB k hlt
      clear hw hf
      by_cases he : p ts[k] = true
      · have HA : Hid (ts.any p = true) := any_at p ts k hlt he
        have HE : Hid (p ts[k] = true) := he
        clear he hno
        go_wp2_with fail
        refine (as_bool HE.out hc).mono ?_
        rintro e w2 ⟨rfl, hb2⟩
        go_wp2_with fail
        go_ret
        exact ⟨_, rfl, by rw [HA.out]; simp, hB.trans (hb2.mono hB.size)⟩
      · have he' : p ts[k] = false := by simpa using he
        have HS : Hid ((ts.take (k + 1)).any p = false) := by unfold Hid; rw [any_take_snoc p ts k hlt, hno, he']; rfl
        have HE : Hid (p ts[k] = false) := he'
        clear he he' hno
        go_wp2_with fail
        refine (as_bool HE.out hc).mono ?_
        rintro e w2 ⟨rfl, hb2⟩
        go_wp2_with fail
        exact ⟨⟨k + 1, by omega, by go_num, HS.out, hB.trans (hb2.mono hB.size)⟩, by simp [intOf]; omega⟩
    · have HA : Hid (ts.any p = false) := by unfold Hid; rw [← hno, List.take_of_length_le (by omega)]
      clear hno hw hf
      go_wp2_with fail
      go_ret
      exact ⟨_, rfl, by rw [HA.out]; rfl, hB⟩

set_option maxHeartbeats 400000 in
theorem ContainsFuncU_any (a : Option Addr) (cap : Nat) (ts : List Tm) (q : Value) (p : Tm → Bool) (w : World) (hw : TmsAt w a ts) (hf : TeamFn Tryd.prog 57 q ts w p) :
    Calls Tryd.prog 56 #[.slice a ts.length cap, .func (.func 57) #[] #[q]] w fun e w' => e = .returned (.bool (ts.any p)) ∧ Below w.heap.size w w' := by
  go_enter Tryd.func56, Tryd.ntmps56
  go_wp2_with fail
  refine (IndexFuncU_any _ _ _ _ _ _ hw hf).mono ?_
  rintro e w2 ⟨r, rfl, hr, hb2⟩
  go_wp2_with fail
  go_ret
  exact ⟨rfl, hb2⟩

set_option maxHeartbeats 400000 in
theorem isTeamFn_any (t : Tm) (v : ByteArray) (bn : Nat) (w : World) (hb : bn < w.heap.size) (hn : w.cell? ⟨bn, 0, none⟩ = some (.string v)) :
    Calls Tryd.prog 79 #[.agg t.cells, .pointer (some ⟨bn, 0, none⟩)] w fun e w' => e = .returned (.bool (t.nm.toList == v.toList)) ∧ Below w.heap.size w w' := by
  unfold Tm.cells
  go_enter Tryd.func79, Tryd.ntmps79
  go_wp2_with fail
  go_ret
  exact ⟨rfl, (Below.refl _ _).alloc (Nat.le_refl _) _⟩

theorem isTeamFn_fn (ts : List Tm) (v : ByteArray) (bn : Nat) (w : World) (hb : bn < w.heap.size) (hn : w.cell? ⟨bn, 0, none⟩ = some (.string v)) :
    TeamFn Tryd.prog 79 (.pointer (some ⟨bn, 0, none⟩)) ts w (fun t => decide (t.nm = v)) := fun w1 hB i hi => by
  refine (isTeamFn_any ts[i] v bn w1 (Nat.lt_of_lt_of_le hb hB.size) ((hB.cell (p := ⟨bn, 0, none⟩) hb).trans hn)).mono ?_
  rintro e w' ⟨rfl, hb'⟩
  exact ⟨ret_bool (Gate.beq_toList _ _), hb'⟩

set_option maxHeartbeats 400000 in
theorem isTeam_any (a : Option Addr) (cap : Nat) (ts : List Tm) (v : ByteArray) (w : World) (hw : TmsAt w a ts) :
    Calls Tryd.prog 55 #[.slice a ts.length cap, .string v] w fun e w' => e = .returned (.bool (Gate.hasTeam ts v)) ∧ Below w.heap.size w w' := by
  go_enter Tryd.func55, Tryd.ntmps55
  go_wp2_with fail
  refine (ContainsFuncT_any _ _ _ _ _ _ (hw.mono ((Below.refl _ _).alloc (Nat.le_refl _) _)) (isTeamFn_fn ts v _ _ (by simp) (by rw [World.cell?_alloc_at _ _ _ _ rfl]; rfl))).mono ?_
  rintro e w2 ⟨rfl, hb2⟩
  go_wp2_with fail
  go_ret
  exact ⟨rfl, ((Below.refl _ _).alloc (Nat.le_refl _) _).trans (hb2.mono (by simp))⟩

set_option maxHeartbeats 800000 in
theorem isTooDeep_any (a : Option Addr) (cap : Nat) (ts : List Tm) (t : Tm) (w : World) (hw : TmsAt w a ts) :
    Calls Tryd.prog 58 #[.slice a ts.length cap, .agg t.cells] w fun e w' => e = .returned (.bool (!Gate.deepOk ts t)) ∧ Below w.heap.size w w' := by
  unfold Tm.cells
  go_enter Tryd.func58, Tryd.ntmps58
  go_wp2_with fail
  go_loopw [5, 8] (fun p i wr => ∃ (k : Nat) (z : ByteArray), k ≤ 4 ∧ p = .string z ∧ i = .int .i64 k ∧ Gate.climb ts 4 t.ov = Gate.climb ts (4 - k) z ∧ Below w.heap.size w wr) (fun _ i _ => 4 - (intOf i).toNat)
  case atStart => exact ⟨0, t.ov, Nat.zero_le _, rfl, rfl, rfl, (Below.refl _ _).alloc (Nat.le_refl _) _⟩
  case round =>
    obtain ⟨k, z, hk, rfl, rfl, hz, hB⟩ := hrel
    by_cases hlt : k < 4
    · have hltI : (k : Int) < 4 := by omega
      have HZ : Hid (Gate.climb ts 4 t.ov = Gate.climb ts (4 - (k + 1)) (Gate.over ts z)) := by
        obtain ⟨m, hm⟩ : ∃ m, 4 - k = m + 1 := ⟨3 - k, by omega⟩
        rw [Hid, hz, hm, show 4 - (k + 1) = m by omega]; rfl
      clear hz
      go_wp2_with fail
      refine (overOf_any _ _ _ _ _ (hw.mono hB)).mono ?_
      rintro e w1 ⟨rfl, hb1⟩
      have hB1 := hB.trans (hb1.mono hB.size)
      clear hb1
      go_wp2_with fail
      exact ⟨⟨k + 1, Gate.over ts z, by omega, rfl, by go_num, HZ.out, hB1⟩, by simp [intOf]; omega⟩
    · have HF : Hid (Gate.deepOk ts t = z.toList.isEmpty) := by
        have e : 4 - k = 0 := by omega
        rw [e] at hz
        unfold Hid Gate.deepOk
        rw [hz, Gate.isEmpty_of_size]; rfl
      clear hz
      go_wp2_with fail
      go_ret
      exact ⟨ret_bool (by rw [HF.out]), hB⟩

set_option maxHeartbeats 400000 in
theorem deepFn_any (a : Option Addr) (cap : Nat) (ts : List Tm) (t : Tm) (bn : Nat) (w : World) (hw : TmsAt w a ts) (hb : bn < w.heap.size) (hn : w.cell? ⟨bn, 0, none⟩ = some (.slice a ts.length cap)) :
    Calls Tryd.prog 57 #[.agg t.cells, .pointer (some ⟨bn, 0, none⟩)] w fun e w' => e = .returned (.bool (!Gate.deepOk ts t)) ∧ Below w.heap.size w w' := by
  unfold Tm.cells
  go_enter Tryd.func57, Tryd.ntmps57
  go_wp2_with fail
  refine (isTooDeep_any _ _ _ t _ (hw.mono ((Below.refl _ _).alloc (Nat.le_refl _) _))).mono ?_
  rintro e w2 ⟨rfl, hb2⟩
  go_wp2_with fail
  go_ret
  exact ⟨rfl, ((Below.refl _ _).alloc (Nat.le_refl _) _).trans (hb2.mono (by simp))⟩

theorem deepFn_fn (a : Option Addr) (cap : Nat) (ts : List Tm) (bn : Nat) (w : World) (hw : TmsAt w a ts) (hb : bn < w.heap.size) (hn : w.cell? ⟨bn, 0, none⟩ = some (.slice a ts.length cap)) :
    TeamFn Tryd.prog 57 (.pointer (some ⟨bn, 0, none⟩)) ts w (fun t => !Gate.deepOk ts t) := fun w1 hB i _ =>
  deepFn_any a cap ts ts[i] bn w1 (hw.mono hB) (Nat.lt_of_lt_of_le hb hB.size) ((hB.cell (p := ⟨bn, 0, none⟩) hb).trans hn)

end Go.Proofs.YtimhinpekngceaaDoor
