import Derived.Test.YtlonpcaniibehaaM06
namespace Go.Proofs.Ytlonpcaniibehaa
open Go.RowKit

set_option maxHeartbeats 800000 in
theorem specUnder_any (a : Option Addr) (cap : Nat) (ts : List Tm) (x y : ByteArray) (w : World) (hw : TmsAt w a ts) :
    Calls Try.prog 8 #[.slice a ts.length cap, .string x, .string y] w fun e w' => e = .returned (.bool (Gate.under ts 4 x y)) ∧ w' = w := by
  by_cases hxy : x = y
  · have HF : Hid (Gate.under ts 4 x y = true) := Gate.under_same ts 4 x y hxy
    have hbe : (x.toList == y.toList) = true := by rw [Gate.beq_toList]; simpa using hxy
    clear hxy
    go_enter Try.func8, Try.ntmps8
    go_wp2_with fail
    go_ret
    exact ⟨ret_bool HF.out.symm, rfl⟩
  have hbe : (x.toList == y.toList) = false := by rw [Gate.beq_toList]; simpa using hxy
  have HXY : Hid (¬ x = y) := hxy
  clear hxy
  go_enter Try.func8, Try.ntmps8
  go_wp2_with fail
  go_loop [1, 7] (fun p i => ∃ (k : Nat) (z : ByteArray), k ≤ 4 ∧ p = .string z ∧ i = .int .i64 k ∧ ¬ z = y ∧ Gate.under ts 4 x y = Gate.under ts (4 - k) z y) (fun _ i => 4 - (intOf i).toNat)
  case atStart => exact ⟨0, x, Nat.zero_le _, rfl, rfl, HXY.out, rfl⟩
  case round =>
    obtain ⟨k, z, hk, rfl, rfl, hz, hu⟩ := hrel
    have HZ : Hid (¬ z = y ∧ Gate.under ts 4 x y = Gate.under ts (4 - k) z y) := ⟨hz, hu⟩
    clear hz hu hbe
    by_cases hlt : k < 4
    · have hltI : (k : Int) < 4 := by omega
      obtain ⟨m, hm⟩ : ∃ m, 4 - k = m + 1 := ⟨3 - k, by omega⟩
      by_cases h0 : (Gate.over ts z).size = 0
      · have HF : Hid (Gate.under ts 4 x y = false) := by rw [HZ.out.2, hm]; exact Gate.under_stop ts m HZ.out.1 h0
        have h0' : (Gate.over ts z).toList.isEmpty = true := by rw [Gate.isEmpty_of_size]; simpa using h0
        clear h0 hm
        go_wp2_with (go_at_call 27; refine (l4Over_any _ _ _ _ _ hw).mono ?_; rintro e w' ⟨rfl, rfl⟩)
        go_ret
        exact ⟨ret_bool HF.out.symm, rfl⟩
      · have HO : Hid (Gate.under ts 4 x y = Gate.under ts m (Gate.over ts z) y) := by rw [Hid, HZ.out.2, hm]; exact Gate.under_on ts m HZ.out.1 h0
        have h0' : (Gate.over ts z).toList.isEmpty = false := by rw [Gate.isEmpty_of_size]; simpa using h0
        clear h0
        by_cases hy : Gate.over ts z = y
        · have HF : Hid (Gate.under ts 4 x y = true) := by rw [Hid, HO.out]; exact Gate.under_same ts m _ _ hy
          have hy' : ((Gate.over ts z).toList == y.toList) = true := by rw [Gate.beq_toList]; simpa using hy
          clear hy
          go_wp2_with (go_at_call 27; refine (l4Over_any _ _ _ _ _ hw).mono ?_; rintro e w' ⟨rfl, rfl⟩)
          go_ret
          exact ⟨ret_bool HF.out.symm, rfl⟩
        · have hy' : ((Gate.over ts z).toList == y.toList) = false := by rw [Gate.beq_toList]; simpa using hy
          have HY : Hid (¬ Gate.over ts z = y) := hy
          clear hy
          go_wp2_with (go_at_call 27; refine (l4Over_any _ _ _ _ _ hw).mono ?_; rintro e w' ⟨rfl, rfl⟩)
          go_round
          case rel => exact ⟨k + 1, Gate.over ts z, by omega, rfl, by go_num, HY.out, by rw [HO.out, show 4 - (k + 1) = m by omega]⟩
          case measure => simp [intOf]; omega
    · have HF : Hid (Gate.under ts 4 x y = false) := by
        have e : 4 - k = 0 := by omega
        rw [Hid, HZ.out.2, e]; exact Gate.under_end ts HZ.out.1
      go_wp2_with fail
      go_ret
      exact ⟨ret_bool HF.out.symm, rfl⟩

set_option maxHeartbeats 800000 in
theorem implUnder_any (a : Option Addr) (cap : Nat) (ts : List Tm) (x y : ByteArray) (w : World) (hw : TmsAt w a ts) :
    Calls Try.prog 10 #[.slice a ts.length cap, .string x, .string y] w fun e w' => e = .returned (.bool (Gate.under ts 4 x y)) ∧ Below w.heap.size w w' := by
  by_cases hxy : x = y
  · have HF : Hid (Gate.under ts 4 x y = true) := Gate.under_same ts 4 x y hxy
    have hbe : (x.toList == y.toList) = true := by rw [Gate.beq_toList]; simpa using hxy
    clear hxy
    go_enter Try.func10, Try.ntmps10
    go_wp2_with fail
    go_ret
    exact ⟨ret_bool HF.out.symm, Below.refl _ _⟩
  have hbe : (x.toList == y.toList) = false := by rw [Gate.beq_toList]; simpa using hxy
  have HXY : Hid (¬ x = y) := hxy
  clear hxy
  go_enter Try.func10, Try.ntmps10
  go_wp2_with fail
  go_loopw [1, 10] (fun p i wr => ∃ (k : Nat) (z : ByteArray), k ≤ 4 ∧ p = .string z ∧ i = .int .i64 k ∧ ¬ z = y ∧ Gate.under ts 4 x y = Gate.under ts (4 - k) z y ∧ Below w.heap.size w wr) (fun _ i _ => 4 - (intOf i).toNat)
  case atStart => exact ⟨0, x, Nat.zero_le _, rfl, rfl, HXY.out, rfl, Below.refl _ _⟩
  case round =>
    obtain ⟨k, z, hk, rfl, rfl, hz, hu, hB⟩ := hrel
    have HZ : Hid (¬ z = y ∧ Gate.under ts 4 x y = Gate.under ts (4 - k) z y) := ⟨hz, hu⟩
    clear hz hu hbe
    by_cases hlt : k < 4
    · have hltI : (k : Int) < 4 := by omega
      obtain ⟨m, hm⟩ : ∃ m, 4 - k = m + 1 := ⟨3 - k, by omega⟩
      by_cases h0 : (Gate.over ts z).size = 0
      · have HF : Hid (Gate.under ts 4 x y = false) := by rw [HZ.out.2, hm]; exact Gate.under_stop ts m HZ.out.1 h0
        have h0' : (Gate.over ts z).toList.isEmpty = true := by rw [Gate.isEmpty_of_size]; simpa using h0
        clear h0 hm
        go_wp2_with fail
        refine (overOf_any _ _ _ _ _ (hw.mono hB)).mono ?_
        rintro e w1 ⟨rfl, hb1⟩
        have hB1 := hB.trans (hb1.mono hB.size)
        clear hb1
        go_wp2_with fail
        go_ret
        exact ⟨ret_bool HF.out.symm, hB1⟩
      · have HO : Hid (Gate.under ts 4 x y = Gate.under ts m (Gate.over ts z) y) := by rw [Hid, HZ.out.2, hm]; exact Gate.under_on ts m HZ.out.1 h0
        have h0' : (Gate.over ts z).toList.isEmpty = false := by rw [Gate.isEmpty_of_size]; simpa using h0
        clear h0
        by_cases hy : Gate.over ts z = y
        · have HF : Hid (Gate.under ts 4 x y = true) := by rw [Hid, HO.out]; exact Gate.under_same ts m _ _ hy
          have hy' : ((Gate.over ts z).toList == y.toList) = true := by rw [Gate.beq_toList]; simpa using hy
          clear hy
          go_wp2_with fail
          refine (overOf_any _ _ _ _ _ (hw.mono hB)).mono ?_
          rintro e w1 ⟨rfl, hb1⟩
          have hB1 := hB.trans (hb1.mono hB.size)
          clear hb1
          go_wp2_with fail
          go_ret
          exact ⟨ret_bool HF.out.symm, hB1⟩
        · have hy' : ((Gate.over ts z).toList == y.toList) = false := by rw [Gate.beq_toList]; simpa using hy
          have HY : Hid (¬ Gate.over ts z = y) := hy
          clear hy
          go_wp2_with fail
          refine (overOf_any _ _ _ _ _ (hw.mono hB)).mono ?_
          rintro e w1 ⟨rfl, hb1⟩
          have hB1 := hB.trans (hb1.mono hB.size)
          clear hb1
          go_wp2_with fail
          exact ⟨⟨k + 1, Gate.over ts z, by omega, rfl, by go_num, HY.out, by rw [HO.out, show 4 - (k + 1) = m by omega], hB1⟩, by simp [intOf]; omega⟩
    · have HF : Hid (Gate.under ts 4 x y = false) := by
        have e : 4 - k = 0 := by omega
        rw [Hid, HZ.out.2, e]; exact Gate.under_end ts HZ.out.1
      go_wp2_with fail
      go_ret
      exact ⟨ret_bool HF.out.symm, hB⟩

end Go.Proofs.Ytlonpcaniibehaa

namespace Go.Proofs.Ytlonpcaniibehaa
open Go.RowKit

set_option maxHeartbeats 400000 in
theorem l4Begins_any (s p : ByteArray) (w : World) (_hs : s.size ≤ maxLen) (_hp : p.size ≤ maxLen) :
    Calls Try.prog 56 #[.string s, .string p] w fun e w' => e = .returned (.bool (Gate.begins s p)) ∧ w' = w := by
  unfold maxLen at _hs _hp
  go_enter Try.func56, Try.ntmps56
  go_wp2_with fail
  all_goals
    go_ret
    refine ⟨ret_bool ?_, rfl⟩
    simp [Gate.begins, *]

set_option maxHeartbeats 400000 in
theorem liteHasPrefix_any (s p : ByteArray) (w : World) (_hs : s.size ≤ maxLen) (_hp : p.size ≤ maxLen) :
    Calls Try.prog 66 #[.string s, .string p] w fun e w' => e = .returned (.bool (Gate.begins s p)) ∧ w' = w := by
  unfold maxLen at _hs _hp
  go_enter Try.func66, Try.ntmps66
  go_wp2_with fail
  all_goals
    go_ret
    refine ⟨ret_bool ?_, rfl⟩
    simp [Gate.begins, *]

set_option maxHeartbeats 400000 in
theorem HasPrefix_any (s p : ByteArray) (w : World) (hs : s.size ≤ maxLen) (hp : p.size ≤ maxLen) :
    Calls Try.prog 64 #[.string s, .string p] w fun e w' => e = .returned (.bool (Gate.begins s p)) ∧ w' = w := by
  go_enter Try.func64, Try.ntmps64
  go_wp2_with (go_at_call 66; refine (liteHasPrefix_any s p _ hs hp).mono ?_; rintro e w' ⟨rfl, rfl⟩)
  go_ret
  exact ⟨rfl, rfl⟩

set_option maxHeartbeats 800000 in
theorem l4Verb_any (r : Rl) (a : Option Addr) (cap : Nat) (v : Int) (w : World) (hw : IntsAt w a r.vs) :
    Calls Try.prog 55 #[.agg (r.cells a cap), .int .i64 v] w fun e w' => e = .returned (.bool (Gate.hasVerb r.vs v)) ∧ Below w.heap.size w w' := by
  have hl := hw.len
  unfold maxLen at hl
  unfold Rl.cells
  have hB : ∀ ob, Below w.heap.size w (w.alloc ob) := fun ob => (Below.refl _ _).alloc (Nat.le_refl _) _
  go_enter Try.func55, Try.ntmps55
  go_wp2_with fail
  go_loop [5] (fun i => ∃ k : Nat, k ≤ r.vs.length ∧ i = .int .i64 k ∧ Gate.hasVerb (r.vs.take k) v = false) (fun i => r.vs.length - (intOf i).toNat)
  case atStart => exact ⟨0, Nat.zero_le _, rfl, rfl⟩
  case round =>
    obtain ⟨k, hk, rfl, hall⟩ := hrel
    by_cases hlt : k < r.vs.length
    · obtain ⟨b, off, rfl, hb, c0⟩ := hw.load (Below.refl _ _) k hlt
      clear hw
      have HS : Hid (Gate.hasVerb (r.vs.take (k + 1)) v = (false || decide (r.vs[k] = v))) := by rw [Gate.hasVerb_snoc r.vs v k hlt, hall]; rfl
      have hltI : (k : Int) < (r.vs.length : Int) := by omega
      by_cases he : r.vs[k] = v
      · have hbe : (r.vs[k] == v) = true := by simpa using he
        have HR : Hid (Gate.hasVerb r.vs v = true) := Gate.hasVerb_at r.vs v k hlt he
        clear he hall
        go_wp2_with fail
        go_ret
        exact ⟨ret_bool HR.out.symm, hB _⟩
      · have hbe : (r.vs[k] == v) = false := by simpa using he
        have HE : Hid (¬ r.vs[k] = v) := he
        clear he hall
        go_wp2_with fail
        go_round
        case rel => exact ⟨k + 1, by omega, by go_num, by rw [HS.out, decide_eq_false HE.out]; rfl⟩
        case measure => simp [intOf]; omega
    · have HR : Hid (Gate.hasVerb r.vs v = false) := by rw [← Gate.hasVerb_all r.vs v k (by omega)]; exact hall
      clear hall hw
      go_wp2_with fail
      go_ret
      exact ⟨ret_bool HR.out.symm, hB _⟩

end Go.Proofs.Ytlonpcaniibehaa

namespace Go.Proofs.Ytlonpcaniibehaa
open Go.RowKit

/-- A rule that sits among its teams. -/
def seatCells (ta : Option Addr) (tcap : Nat) (ts : List Tm) (r : Rl) (a : Option Addr) (cap : Nat) : Array Value :=
  #[.slice ta ts.length tcap, .slice a r.vs.length cap, .string r.kd, .string r.tm, .string r.px, .int .u8 (Gate.bitsOf (Gate.hasVerb r.vs))]
def Gate.rightBits (ts : List Tm) (r : Rl) (kd tm nm : ByteArray) : Int := Gate.bitsOf (fun v => Gate.meets ts r kd tm nm && Gate.hasVerb r.vs v)
theorem Gate.right_no {ts : List Tm} {r : Rl} {kd tm nm : ByteArray} (h : Gate.meets ts r kd tm nm = false) : Gate.rightBits ts r kd tm nm = 0 := by
  unfold Gate.rightBits; rw [h]; rfl
theorem Gate.right_yes {ts : List Tm} {r : Rl} {kd tm nm : ByteArray} (h : Gate.meets ts r kd tm nm = true) : Gate.rightBits ts r kd tm nm = Gate.bitsOf (Gate.hasVerb r.vs) := by
  unfold Gate.rightBits; rw [h]; rfl

set_option maxHeartbeats 2000000 in
theorem verbsFor_any (ta : Option Addr) (tcap : Nat) (ts : List Tm) (r : Rl) (a : Option Addr) (cap : Nat) (kd tm nm : ByteArray) (w : World) (hw : TmsAt w ta ts) (hm : r.Small) (hn : nm.size ≤ maxLen) :
    Calls Try.prog 59 #[.agg (seatCells ta tcap ts r a cap), .string kd, .string tm, .string nm] w fun e w' => e = .returned (.int .u8 (Gate.rightBits ts r kd tm nm)) ∧ Below w.heap.size w w' := by
  have hpx := hm.px
  have HB : Hid (∀ ob, Below w.heap.size w (w.alloc ob)) := fun ob => (Below.refl _ _).alloc (Nat.le_refl _) _
  have HT : Hid (∀ ob, TmsAt (w.alloc ob) ta ts) := fun ob => hw.mono (HB.out ob)
  clear hw hm
  unfold seatCells
  have hkc : (r.kd.toList.isEmpty = true) ∨ (r.kd.toList.isEmpty = false ∧ (r.kd.toList == kd.toList) = true) ∨ (r.kd.toList.isEmpty = false ∧ (r.kd.toList == kd.toList) = false) := by
    cases r.kd.toList.isEmpty <;> cases (r.kd.toList == kd.toList) <;> simp
  have htc : (r.tm.toList.isEmpty = true) ∨ (r.tm.toList.isEmpty = false ∧ Hid (Gate.under ts 4 tm r.tm = true)) ∨ (r.tm.toList.isEmpty = false ∧ Hid (Gate.under ts 4 tm r.tm = false)) := by
    unfold Hid
    cases r.tm.toList.isEmpty <;> cases Gate.under ts 4 tm r.tm <;> simp
  have HM : Hid (Gate.meets ts r kd tm nm = ((r.kd.toList.isEmpty || (r.kd.toList == kd.toList)) && ((r.tm.toList.isEmpty || Gate.under ts 4 tm r.tm) && Gate.begins nm r.px))) := by
    unfold Hid Gate.meets; rw [Gate.beq_toList]
  rcases hkc with hk | ⟨hk, hke⟩ | ⟨hk, hke⟩
  · rcases htc with ht | ⟨ht, HU⟩ | ⟨ht, HU⟩
    · by_cases hb : Gate.begins nm r.px = true
      · have HP : Hid (Gate.begins nm r.px = true) := hb
        clear hb
        have HF : Hid (Gate.rightBits ts r kd tm nm = Gate.bitsOf (Gate.hasVerb r.vs)) := Gate.right_yes (by rw [HM.out, hk, ht, HP.out]; rfl)
        go_enter Try.func59, Try.ntmps59
        go_wp2_with (go_at_call 64; refine (as_bool HP.out (HasPrefix_any nm r.px _ hn hpx)).mono ?_; rintro e w' ⟨rfl, rfl⟩)
        go_ret
        exact ⟨ret_int HF.out.symm, HB.out _⟩
      · have HP : Hid (Gate.begins nm r.px = false) := by simpa [Hid] using hb
        clear hb
        have HF : Hid (Gate.rightBits ts r kd tm nm = 0) := Gate.right_no (by rw [HM.out, hk, ht, HP.out]; simp)
        go_enter Try.func59, Try.ntmps59
        go_wp2_with (go_at_call 64; refine (as_bool HP.out (HasPrefix_any nm r.px _ hn hpx)).mono ?_; rintro e w' ⟨rfl, rfl⟩)
        go_ret
        exact ⟨ret_int HF.out.symm, HB.out _⟩
    · by_cases hb : Gate.begins nm r.px = true
      · have HP : Hid (Gate.begins nm r.px = true) := hb
        clear hb
        have HF : Hid (Gate.rightBits ts r kd tm nm = Gate.bitsOf (Gate.hasVerb r.vs)) := Gate.right_yes (by rw [HM.out, hk, ht, HU.out, HP.out]; rfl)
        go_enter Try.func59, Try.ntmps59
        go_wp2_with fail
        refine (as_bool HU.out (implUnder_any _ _ ts tm r.tm _ (HT.out _))).mono ?_
        rintro e w1 ⟨rfl, hb1⟩
        have hX1 := box_later (box_new w _ _) (by simp) hb1
        have hz : w.heap.size < w1.heap.size := by have := hb1.size; simp at this; omega
        have HB1 : Hid (Below w.heap.size w w1) := (HB.out _).trans (hb1.mono (by simp))
        clear hb1
        go_wp2_with (go_at_call 64; refine (as_bool HP.out (HasPrefix_any nm r.px _ hn hpx)).mono ?_; rintro e w' ⟨rfl, rfl⟩)
        go_ret
        exact ⟨ret_int HF.out.symm, HB1.out⟩
      · have HP : Hid (Gate.begins nm r.px = false) := by simpa [Hid] using hb
        clear hb
        have HF : Hid (Gate.rightBits ts r kd tm nm = 0) := Gate.right_no (by rw [HM.out, hk, ht, HU.out, HP.out]; simp)
        go_enter Try.func59, Try.ntmps59
        go_wp2_with fail
        refine (as_bool HU.out (implUnder_any _ _ ts tm r.tm _ (HT.out _))).mono ?_
        rintro e w1 ⟨rfl, hb1⟩
        have hX1 := box_later (box_new w _ _) (by simp) hb1
        have hz : w.heap.size < w1.heap.size := by have := hb1.size; simp at this; omega
        have HB1 : Hid (Below w.heap.size w w1) := (HB.out _).trans (hb1.mono (by simp))
        clear hb1
        go_wp2_with (go_at_call 64; refine (as_bool HP.out (HasPrefix_any nm r.px _ hn hpx)).mono ?_; rintro e w' ⟨rfl, rfl⟩)
        go_ret
        exact ⟨ret_int HF.out.symm, HB1.out⟩
    · have HF : Hid (Gate.rightBits ts r kd tm nm = 0) := Gate.right_no (by rw [HM.out, hk, ht, HU.out]; simp)
      go_enter Try.func59, Try.ntmps59
      go_wp2_with fail
      refine (as_bool HU.out (implUnder_any _ _ ts tm r.tm _ (HT.out _))).mono ?_
      rintro e w1 ⟨rfl, hb1⟩
      have HB1 : Hid (Below w.heap.size w w1) := (HB.out _).trans (hb1.mono (by simp))
      clear hb1
      go_wp2_with fail
      go_ret
      exact ⟨ret_int HF.out.symm, HB1.out⟩
  · rcases htc with ht | ⟨ht, HU⟩ | ⟨ht, HU⟩
    · by_cases hb : Gate.begins nm r.px = true
      · have HP : Hid (Gate.begins nm r.px = true) := hb
        clear hb
        have HF : Hid (Gate.rightBits ts r kd tm nm = Gate.bitsOf (Gate.hasVerb r.vs)) := Gate.right_yes (by rw [HM.out, hk, hke, ht, HP.out]; rfl)
        go_enter Try.func59, Try.ntmps59
        go_wp2_with (go_at_call 64; refine (as_bool HP.out (HasPrefix_any nm r.px _ hn hpx)).mono ?_; rintro e w' ⟨rfl, rfl⟩)
        go_ret
        exact ⟨ret_int HF.out.symm, HB.out _⟩
      · have HP : Hid (Gate.begins nm r.px = false) := by simpa [Hid] using hb
        clear hb
        have HF : Hid (Gate.rightBits ts r kd tm nm = 0) := Gate.right_no (by rw [HM.out, hk, hke, ht, HP.out]; simp)
        go_enter Try.func59, Try.ntmps59
        go_wp2_with (go_at_call 64; refine (as_bool HP.out (HasPrefix_any nm r.px _ hn hpx)).mono ?_; rintro e w' ⟨rfl, rfl⟩)
        go_ret
        exact ⟨ret_int HF.out.symm, HB.out _⟩
    · by_cases hb : Gate.begins nm r.px = true
      · have HP : Hid (Gate.begins nm r.px = true) := hb
        clear hb
        have HF : Hid (Gate.rightBits ts r kd tm nm = Gate.bitsOf (Gate.hasVerb r.vs)) := Gate.right_yes (by rw [HM.out, hk, hke, ht, HU.out, HP.out]; rfl)
        go_enter Try.func59, Try.ntmps59
        go_wp2_with fail
        refine (as_bool HU.out (implUnder_any _ _ ts tm r.tm _ (HT.out _))).mono ?_
        rintro e w1 ⟨rfl, hb1⟩
        have hX1 := box_later (box_new w _ _) (by simp) hb1
        have hz : w.heap.size < w1.heap.size := by have := hb1.size; simp at this; omega
        have HB1 : Hid (Below w.heap.size w w1) := (HB.out _).trans (hb1.mono (by simp))
        clear hb1
        go_wp2_with (go_at_call 64; refine (as_bool HP.out (HasPrefix_any nm r.px _ hn hpx)).mono ?_; rintro e w' ⟨rfl, rfl⟩)
        go_ret
        exact ⟨ret_int HF.out.symm, HB1.out⟩
      · have HP : Hid (Gate.begins nm r.px = false) := by simpa [Hid] using hb
        clear hb
        have HF : Hid (Gate.rightBits ts r kd tm nm = 0) := Gate.right_no (by rw [HM.out, hk, hke, ht, HU.out, HP.out]; simp)
        go_enter Try.func59, Try.ntmps59
        go_wp2_with fail
        refine (as_bool HU.out (implUnder_any _ _ ts tm r.tm _ (HT.out _))).mono ?_
        rintro e w1 ⟨rfl, hb1⟩
        have hX1 := box_later (box_new w _ _) (by simp) hb1
        have hz : w.heap.size < w1.heap.size := by have := hb1.size; simp at this; omega
        have HB1 : Hid (Below w.heap.size w w1) := (HB.out _).trans (hb1.mono (by simp))
        clear hb1
        go_wp2_with (go_at_call 64; refine (as_bool HP.out (HasPrefix_any nm r.px _ hn hpx)).mono ?_; rintro e w' ⟨rfl, rfl⟩)
        go_ret
        exact ⟨ret_int HF.out.symm, HB1.out⟩
    · have HF : Hid (Gate.rightBits ts r kd tm nm = 0) := Gate.right_no (by rw [HM.out, hk, hke, ht, HU.out]; simp)
      go_enter Try.func59, Try.ntmps59
      go_wp2_with fail
      refine (as_bool HU.out (implUnder_any _ _ ts tm r.tm _ (HT.out _))).mono ?_
      rintro e w1 ⟨rfl, hb1⟩
      have HB1 : Hid (Below w.heap.size w w1) := (HB.out _).trans (hb1.mono (by simp))
      clear hb1
      go_wp2_with fail
      go_ret
      exact ⟨ret_int HF.out.symm, HB1.out⟩
  · have HF : Hid (Gate.rightBits ts r kd tm nm = 0) := Gate.right_no (by rw [HM.out, hk, hke]; rfl)
    go_enter Try.func59, Try.ntmps59
    go_wp2_with fail
    go_ret
    exact ⟨ret_int HF.out.symm, HB.out _⟩

set_option maxHeartbeats 1000000 in
theorem rightOf_any (ta : Option Addr) (tcap : Nat) (ts : List Tm) (r : Rl) (a : Option Addr) (cap : Nat) (w : World) (hw : IntsAt w a r.vs) (hv : Gate.verbsOk r.vs = true) :
    Calls Try.prog 43 #[.slice ta ts.length tcap, .agg (r.cells a cap)] w fun e w' => e = .returned (.func (.func 59) #[.agg (seatCells ta tcap ts r a cap)] #[]) ∧ Below w.heap.size w w' := by
  unfold Rl.cells seatCells
  have HI : Hid (∀ ob n, IntsAt ((w.alloc ob).drewN n) a r.vs) := fun ob n => hw.mono (below_drewN ((Below.refl _ _).alloc (Nat.le_refl _) _) n)
  go_enter Try.func43, Try.ntmps43
  go_wp2_with fail
  go_quiet ((go_at_call 58; exact Calls.quiet_of_same (verbsOf_any _ _ r.vs _ (by exact HI.out _ _) hv)))
  go_wp2_with fail
  go_ret
  exact ⟨rfl, below_drewN ((Below.refl _ _).alloc (Nat.le_refl _) _) _⟩

end Go.Proofs.Ytlonpcaniibehaa
