import Derived.Test.YtembogcnkfndjaaDoorM09
import Derived.Laws.Rows
import Derived.Maps.AppendAt
import Derived.Test.YtembogcnkfndjaaDoorM08
namespace Go.Proofs.YtembogcnkfndjaaDoor
open Go.RowKit

theorem alloc_box (w : World) (C : Array Value) (t : TypeId) {r p : Nat} (hr : RdAt w r p) : ∃ W, W = w.alloc (.cells C t) ∧ W.heap[w.heap.size]? = some (.cells C t) ∧ w.heap.size < W.heap.size ∧ RdAt W r p ∧ Dr r w W :=
  ⟨_, rfl, (MapKept.heap_alloc w _).1, by simp, hr.mono ((Below.refl _ _).alloc (Nat.le_refl _) _), dr_below ((Below.refl _ _).alloc (Nat.le_refl _) _)⟩
theorem calls_eq {P : Program} {f : FuncId} {args : Array Value} {w w' : World} {Q : Ending → World → Prop} (h : w' = w) (hc : Calls P f args w' Q) : Calls P f args w Q := h ▸ hc
theorem dr_set {r k o : Nat} {w w' : World} {v : Value} (h : Dr r w w') (hk : w.heap.size ≤ k) : Dr r w (w'.setCell ⟨k, o, none⟩ v) := Below.trans h (below_clr ((Below.refl w.heap.size w').setCell hk v))
theorem rd_set {r p k o : Nat} {w : World} {v : Value} (h : RdAt w r p) (hk : r < k) : RdAt (w.setCell ⟨k, o, none⟩ v) r p := h.keep (Below.setCell (Below.refl (r + 1) w) (show r + 1 ≤ k from hk) v)

set_option maxRecDepth 10000 in
set_option maxHeartbeats 1000000 in
theorem l4DrawAct_any (r p : Nat) (w : World) (hp : p ≤ 40000) (hr : RdAt w r p) :
    Calls Tryd.prog 28 #[.pointer (some ⟨r, 0, none⟩)] w fun e w' => ∃ x : Ac, e = .returned (.agg x.cells) ∧ x.Small ∧ RdAt w' r (p + 4) ∧ Dr r w w' := by
  have hlt := hr.lt
  go_enter Tryd.func28, Tryd.ntmps28
  go_wp2_with fail
  obtain ⟨W0, hW0, hk0, hz0, hr0, D0⟩ := alloc_box w #[.int .i64 0, .string ByteArray.empty, .string ByteArray.empty, .string ByteArray.empty] 32 hr
  refine calls_eq hW0 ?_
  clear hW0 hr
  refine (pick_any 8 r p W0 (by omega) (by omega) (by omega) hr0).mono ?_
  rintro e w1 ⟨k, rfl, hk, hr1, -, D1⟩
  go_wp2_with fail
  refine (ofLit [⟨#[106, 111, 98]⟩, ⟨#[118, 111, 108]⟩, ⟨#[107]⟩, ⟨#[]⟩, ⟨#[98, 101, 114, 116, 104]⟩] r (p + 1) _ (by simp) (by simp) (by simp +decide) (by omega) hr1).mono ?_
  rintro e w2 ⟨s1, rfl, hs1, hr2, D2⟩
  go_wp2_with fail
  refine (l4DrawTeam_any r (p + 1 + 1) w2 (by omega) hr2).mono ?_
  rintro e w3 ⟨s2, rfl, hs2, hr3, D3⟩
  go_wp2_with fail
  refine (ofLit [⟨#[98]⟩, ⟨#[98, 49]⟩, ⟨#[98, 49, 50]⟩, ⟨#[120]⟩, ⟨#[]⟩, ⟨#[99]⟩] r (p + 1 + 1 + 1) _ (by simp) (by simp) (by simp +decide) (by omega) hr3).mono ?_
  rintro e w4 ⟨s3, rfl, hs3, hr4, D4⟩
  have E := dr_trans D1 (dr_trans D2 (dr_trans D3 D4))
  have hb := (dr_block E hz0 (by omega)).trans hk0
  have cR := fun j => cell_of_block (o := j) hb
  have fR := fun j => frozen_of_block (o := j) hb
  have HF : Hid (RdAt w4 r (p + 4) ∧ Dr r w w4 ∧ w.heap.size < w4.heap.size) := ⟨hr4, dr_trans D0 E, Nat.lt_of_lt_of_le hz0 (dr_le E)⟩
  have hz4 := HF.out.2.2
  clear hb E D0 D1 D2 D3 D4 hr0 hr1 hr2 hr3 hr4 hk0
  go_wp2_with fail
  refine bodyPost_ret (v := .agg #[.int .i64 ((k : Int) - 1), .string s1, .string s2, .string s3]) (by simp [results, Tryd.results28, go_sem, cR]) rfl ⟨⟨(k : Int) - 1, s1, s2, s3⟩, rfl, ⟨by show s1.size ≤ maxLen; unfold maxLen; omega, by show s2.size ≤ maxLen; unfold maxLen; omega, by show s3.size ≤ maxLen; unfold maxLen; omega⟩, ?_, ?_⟩
  · iterate 4 refine rd_set ?_ hlt
    exact HF.out.1
  · iterate 4 refine dr_set ?_ (Nat.le_refl _)
    exact HF.out.2.1

end Go.Proofs.YtembogcnkfndjaaDoor

namespace Go.Proofs.YtembogcnkfndjaaDoor
open Go.RowKit

/-- A rule that sits among its teams. -/
def seatCells (ta : Option Addr) (tcap : Nat) (ts : List Tm) (r : Rl) (a : Option Addr) (cap : Nat) : Array Value :=
  #[.slice ta ts.length tcap, .slice a r.vs.length cap, .string r.kd, .string r.tm, .string r.px, .int .u8 (Gate.bitsOf (Gate.hasVerb r.vs))]
def Gate.rightBits (ts : List Tm) (r : Rl) (kd tm nm : ByteArray) : Int := Gate.bitsOf (fun v => Gate.meets ts r kd tm nm && Gate.hasVerb r.vs v)
theorem Gate.right_no {ts : List Tm} {r : Rl} {kd tm nm : ByteArray} (h : Gate.meets ts r kd tm nm = false) : Gate.rightBits ts r kd tm nm = 0 := by
  unfold Gate.rightBits; rw [h]; rfl
theorem Gate.right_yes {ts : List Tm} {r : Rl} {kd tm nm : ByteArray} (h : Gate.meets ts r kd tm nm = true) : Gate.rightBits ts r kd tm nm = Gate.bitsOf (Gate.hasVerb r.vs) := by
  unfold Gate.rightBits; rw [h]; rfl

set_option maxHeartbeats 2000000 in
theorem verbsFor_any (ta : Option Addr) (tcap : Nat) (ts : List Tm) (r : Rl) (a : Option Addr) (cap : Nat) (kd tm nm : ByteArray) (w : World) (hw : TmsAt w ta ts) (hm : r.Small) (hn : nm.size ≤ maxLen) :
    Calls Tryd.prog 51 #[.agg (seatCells ta tcap ts r a cap), .string kd, .string tm, .string nm] w fun e w' => e = .returned (.int .u8 (Gate.rightBits ts r kd tm nm)) ∧ Below w.heap.size w w' := by
  have hpx := hm.px
  have HB : Hid (∀ ob, Below w.heap.size w (w.alloc ob)) := fun ob => (Below.refl _ _).alloc (Nat.le_refl _) _
  have HT : Hid (∀ ob, TmsAt (w.alloc ob) ta ts) := fun ob => hw.mono (HB.out ob)
  clear hw hm
  unfold seatCells
  have hkc : (r.kd.toList.isEmpty = true) ∨ (r.kd.toList.isEmpty = false ∧ (r.kd.toList == kd.toList) = true) ∨ (r.kd.toList.isEmpty = false ∧ (r.kd.toList == kd.toList) = false) := by
    cases r.kd.toList.isEmpty <;> cases (r.kd.toList == kd.toList) <;> simp
  have htc : (r.tm.toList.isEmpty = true) ∨ (r.tm.toList.isEmpty = false ∧ Hid (Gate.under ts 4 tm r.tm = true)) ∨ (r.tm.toList.isEmpty = false ∧ Hid (Gate.under ts 4 tm r.tm = false)) := by
    unfold Hid
    cases r.tm.toList.isEmpty <;> cases Gate.under ts 4 tm r.tm <;> simp
  have HM : Hid (Gate.meets ts r kd tm nm = ((r.kd.toList.isEmpty || (r.kd.toList == kd.toList)) && ((r.tm.toList.isEmpty || Gate.under ts 4 tm r.tm) && Gate.begins nm r.px))) := by
    unfold Hid Gate.meets; rw [Gate.beq_toList]
  rcases hkc with hk | ⟨hk, hke⟩ | ⟨hk, hke⟩
  · rcases htc with ht | ⟨ht, HU⟩ | ⟨ht, HU⟩
    · by_cases hb : Gate.begins nm r.px = true
      · have HP : Hid (Gate.begins nm r.px = true) := hb
        clear hb
        have HF : Hid (Gate.rightBits ts r kd tm nm = Gate.bitsOf (Gate.hasVerb r.vs)) := Gate.right_yes (by rw [HM.out, hk, ht, HP.out]; rfl)
        go_enter Tryd.func51, Tryd.ntmps51
        go_wp2_with (go_at_call 68; refine (as_bool HP.out (HasPrefix_any nm r.px _ hn hpx)).mono ?_; rintro e w' ⟨rfl, rfl⟩)
        go_ret
        exact ⟨ret_int HF.out.symm, HB.out _⟩
      · have HP : Hid (Gate.begins nm r.px = false) := by simpa [Hid] using hb
        clear hb
        have HF : Hid (Gate.rightBits ts r kd tm nm = 0) := Gate.right_no (by rw [HM.out, hk, ht, HP.out]; simp)
        go_enter Tryd.func51, Tryd.ntmps51
        go_wp2_with (go_at_call 68; refine (as_bool HP.out (HasPrefix_any nm r.px _ hn hpx)).mono ?_; rintro e w' ⟨rfl, rfl⟩)
        go_ret
        exact ⟨ret_int HF.out.symm, HB.out _⟩
    · by_cases hb : Gate.begins nm r.px = true
      · have HP : Hid (Gate.begins nm r.px = true) := hb
        clear hb
        have HF : Hid (Gate.rightBits ts r kd tm nm = Gate.bitsOf (Gate.hasVerb r.vs)) := Gate.right_yes (by rw [HM.out, hk, ht, HU.out, HP.out]; rfl)
        go_enter Tryd.func51, Tryd.ntmps51
        go_wp2_with fail
        refine (as_bool HU.out (implUnder_any _ _ ts tm r.tm _ (HT.out _))).mono ?_
        rintro e w1 ⟨rfl, hb1⟩
        have hX1 := box_later (box_new w _ _) (by simp) hb1
        have hz : w.heap.size < w1.heap.size := by have := hb1.size; simp at this; omega
        have HB1 : Hid (Below w.heap.size w w1) := (HB.out _).trans (hb1.mono (by simp))
        clear hb1
        go_wp2_with (go_at_call 68; refine (as_bool HP.out (HasPrefix_any nm r.px _ hn hpx)).mono ?_; rintro e w' ⟨rfl, rfl⟩)
        go_ret
        exact ⟨ret_int HF.out.symm, HB1.out⟩
      · have HP : Hid (Gate.begins nm r.px = false) := by simpa [Hid] using hb
        clear hb
        have HF : Hid (Gate.rightBits ts r kd tm nm = 0) := Gate.right_no (by rw [HM.out, hk, ht, HU.out, HP.out]; simp)
        go_enter Tryd.func51, Tryd.ntmps51
        go_wp2_with fail
        refine (as_bool HU.out (implUnder_any _ _ ts tm r.tm _ (HT.out _))).mono ?_
        rintro e w1 ⟨rfl, hb1⟩
        have hX1 := box_later (box_new w _ _) (by simp) hb1
        have hz : w.heap.size < w1.heap.size := by have := hb1.size; simp at this; omega
        have HB1 : Hid (Below w.heap.size w w1) := (HB.out _).trans (hb1.mono (by simp))
        clear hb1
        go_wp2_with (go_at_call 68; refine (as_bool HP.out (HasPrefix_any nm r.px _ hn hpx)).mono ?_; rintro e w' ⟨rfl, rfl⟩)
        go_ret
        exact ⟨ret_int HF.out.symm, HB1.out⟩
    · have HF : Hid (Gate.rightBits ts r kd tm nm = 0) := Gate.right_no (by rw [HM.out, hk, ht, HU.out]; simp)
      go_enter Tryd.func51, Tryd.ntmps51
      go_wp2_with fail
      refine (as_bool HU.out (implUnder_any _ _ ts tm r.tm _ (HT.out _))).mono ?_
      rintro e w1 ⟨rfl, hb1⟩
      have HB1 : Hid (Below w.heap.size w w1) := (HB.out _).trans (hb1.mono (by simp))
      clear hb1
      go_wp2_with fail
      go_ret
      exact ⟨ret_int HF.out.symm, HB1.out⟩
  · rcases htc with ht | ⟨ht, HU⟩ | ⟨ht, HU⟩
    · by_cases hb : Gate.begins nm r.px = true
      · have HP : Hid (Gate.begins nm r.px = true) := hb
        clear hb
        have HF : Hid (Gate.rightBits ts r kd tm nm = Gate.bitsOf (Gate.hasVerb r.vs)) := Gate.right_yes (by rw [HM.out, hk, hke, ht, HP.out]; rfl)
        go_enter Tryd.func51, Tryd.ntmps51
        go_wp2_with (go_at_call 68; refine (as_bool HP.out (HasPrefix_any nm r.px _ hn hpx)).mono ?_; rintro e w' ⟨rfl, rfl⟩)
        go_ret
        exact ⟨ret_int HF.out.symm, HB.out _⟩
      · have HP : Hid (Gate.begins nm r.px = false) := by simpa [Hid] using hb
        clear hb
        have HF : Hid (Gate.rightBits ts r kd tm nm = 0) := Gate.right_no (by rw [HM.out, hk, hke, ht, HP.out]; simp)
        go_enter Tryd.func51, Tryd.ntmps51
        go_wp2_with (go_at_call 68; refine (as_bool HP.out (HasPrefix_any nm r.px _ hn hpx)).mono ?_; rintro e w' ⟨rfl, rfl⟩)
        go_ret
        exact ⟨ret_int HF.out.symm, HB.out _⟩
    · by_cases hb : Gate.begins nm r.px = true
      · have HP : Hid (Gate.begins nm r.px = true) := hb
        clear hb
        have HF : Hid (Gate.rightBits ts r kd tm nm = Gate.bitsOf (Gate.hasVerb r.vs)) := Gate.right_yes (by rw [HM.out, hk, hke, ht, HU.out, HP.out]; rfl)
        go_enter Tryd.func51, Tryd.ntmps51
        go_wp2_with fail
        refine (as_bool HU.out (implUnder_any _ _ ts tm r.tm _ (HT.out _))).mono ?_
        rintro e w1 ⟨rfl, hb1⟩
        have hX1 := box_later (box_new w _ _) (by simp) hb1
        have hz : w.heap.size < w1.heap.size := by have := hb1.size; simp at this; omega
        have HB1 : Hid (Below w.heap.size w w1) := (HB.out _).trans (hb1.mono (by simp))
        clear hb1
        go_wp2_with (go_at_call 68; refine (as_bool HP.out (HasPrefix_any nm r.px _ hn hpx)).mono ?_; rintro e w' ⟨rfl, rfl⟩)
        go_ret
        exact ⟨ret_int HF.out.symm, HB1.out⟩
      · have HP : Hid (Gate.begins nm r.px = false) := by simpa [Hid] using hb
        clear hb
        have HF : Hid (Gate.rightBits ts r kd tm nm = 0) := Gate.right_no (by rw [HM.out, hk, hke, ht, HU.out, HP.out]; simp)
        go_enter Tryd.func51, Tryd.ntmps51
        go_wp2_with fail
        refine (as_bool HU.out (implUnder_any _ _ ts tm r.tm _ (HT.out _))).mono ?_
        rintro e w1 ⟨rfl, hb1⟩
        have hX1 := box_later (box_new w _ _) (by simp) hb1
        have hz : w.heap.size < w1.heap.size := by have := hb1.size; simp at this; omega
        have HB1 : Hid (Below w.heap.size w w1) := (HB.out _).trans (hb1.mono (by simp))
        clear hb1
        go_wp2_with (go_at_call 68; refine (as_bool HP.out (HasPrefix_any nm r.px _ hn hpx)).mono ?_; rintro e w' ⟨rfl, rfl⟩)
        go_ret
        exact ⟨ret_int HF.out.symm, HB1.out⟩
    · have HF : Hid (Gate.rightBits ts r kd tm nm = 0) := Gate.right_no (by rw [HM.out, hk, hke, ht, HU.out]; simp)
      go_enter Tryd.func51, Tryd.ntmps51
      go_wp2_with fail
      refine (as_bool HU.out (implUnder_any _ _ ts tm r.tm _ (HT.out _))).mono ?_
      rintro e w1 ⟨rfl, hb1⟩
      have HB1 : Hid (Below w.heap.size w w1) := (HB.out _).trans (hb1.mono (by simp))
      clear hb1
      go_wp2_with fail
      go_ret
      exact ⟨ret_int HF.out.symm, HB1.out⟩
  · have HF : Hid (Gate.rightBits ts r kd tm nm = 0) := Gate.right_no (by rw [HM.out, hk, hke]; rfl)
    go_enter Tryd.func51, Tryd.ntmps51
    go_wp2_with fail
    go_ret
    exact ⟨ret_int HF.out.symm, HB.out _⟩

set_option maxHeartbeats 1000000 in
theorem rightOf_any (ta : Option Addr) (tcap : Nat) (ts : List Tm) (r : Rl) (a : Option Addr) (cap : Nat) (w : World) (hw : IntsAt w a r.vs) (hv : Gate.verbsOk r.vs = true) :
    Calls Tryd.prog 26 #[.slice ta ts.length tcap, .agg (r.cells a cap)] w fun e w' => e = .returned (.func (.func 51) #[.agg (seatCells ta tcap ts r a cap)] #[]) ∧ Below w.heap.size w w' := by
  unfold Rl.cells seatCells
  have HI : Hid (∀ ob n, IntsAt ((w.alloc ob).drewN n) a r.vs) := fun ob n => hw.mono (below_drewN ((Below.refl _ _).alloc (Nat.le_refl _) _) n)
  go_enter Tryd.func26, Tryd.ntmps26
  go_wp2_with fail
  go_quiet ((go_at_call 43; exact Calls.quiet_of_same (verbsOf_any _ _ r.vs _ (by exact HI.out _ _) hv)))
  go_wp2_with fail
  go_ret
  exact ⟨rfl, below_drewN ((Below.refl _ _).alloc (Nat.le_refl _) _) _⟩

end Go.Proofs.YtembogcnkfndjaaDoor
