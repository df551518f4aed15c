import Derived.Test.YtimhinpekngceaaDoorM19
import Derived.Test.YtimhinpekngceaaDoorM21
import Derived.WalkKit
import Derived.Deep.RegionHeld3
namespace Go.Proofs.YtimhinpekngceaaDoor
open Go.RowKit

/-- What GateUncovered answers of teams, rules and a rule: an act, and whether there is one. -/
structure Gate.Uncov (ts : List Tm) (rs : List Rl) (r : Rl) (x : Ac) : Prop where
  vb : x.vb = Gate.lacksS ts rs r
  nm : x.nm = r.px
  kd : if r.kd.toList.isEmpty = true then ∃ k, x.kd = Gate.numbered Gate.letterK k ∧ Gate.IsFree Gate.letterK (rs.map Rl.kd) k else x.kd = r.kd
  tm : if r.tm.toList.isEmpty = true then ∃ k, x.tm = Gate.numbered Gate.letterT k ∧ Gate.IsFree Gate.letterT (ts.map Tm.nm ++ rs.map Rl.tm) k else x.tm = r.tm

def Gate.noAct : Ac := ⟨0, ByteArray.empty, ByteArray.empty, ByteArray.empty⟩

def Gate.UncovPost (ts : List Tm) (rs : List Rl) (r : Rl) (x : Ac) (ok : Bool) : Prop :=
  (Gate.allOk ts rs r = true ∧ ¬ Gate.lacksS ts rs r = 0 ∧ ok = true ∧ Gate.Uncov ts rs r x) ∨ ((Gate.allOk ts rs r = false ∨ Gate.lacksS ts rs r = 0) ∧ ok = false ∧ x = Gate.noAct)

theorem act4_below {B b : Nat} {a w : World} (h : Below B a w) (hb : B ≤ b) (v0 v1 v2 v3 : Value) : Below B a ((((w.setCell ⟨b, 0, none⟩ v0).setCell ⟨b, 1, none⟩ v1).setCell ⟨b, 2, none⟩ v2).setCell ⟨b, 3, none⟩ v3) :=
  (((h.setCell hb v0).setCell hb v1).setCell hb v2).setCell hb v3

/-- The block of the result, later on. -/
theorem res_later {w w1 : World} {o1 : Obj} {X : Array Value} {t : TypeId} (hb : Below ((w.alloc o1).alloc (.cells X t)).heap.size ((w.alloc o1).alloc (.cells X t)) w1) : w1.heap[w.heap.size + 1]? = some (.cells X t) := by
  rw [hb.block (w.heap.size + 1) (by simp)]
  have e : (w.alloc o1).heap.size = w.heap.size + 1 := by simp
  rw [← e]
  exact Array.getElem?_push_size

set_option maxHeartbeats 2000000 in
theorem implUncovered_teams (ta : Option Addr) (tcap : Nat) (ts : List Tm) (ra : Option Addr) (rcap : Nat) (rs : List Rl) (r : Rl) (a : Option Addr) (cap : Nat) (w : World) (hw : TmsAt w ta ts) (hno : Gate.teamsOk ts = false) :
    Calls Tryd.prog 12 #[.slice ta ts.length tcap, .slice ra rs.length rcap, .agg (r.cells a cap)] w fun e w' => e = .returned (.tuple #[.agg Gate.noAct.cells, .bool false]) ∧ Below w.heap.size w w' := by
  have HB : Hid (∀ o1 o2, Below w.heap.size w ((w.alloc o1).alloc o2)) := fun _ _ => ((Below.refl _ _).alloc (Nat.le_refl _) _).alloc (by simp) _
  have HT : Hid (TmsAt w ta ts) := hw
  have HK : Hid (Gate.teamsOk ts = false) := hno
  clear hw hno
  unfold Rl.cells
  go_enter Tryd.func12, Tryd.ntmps12
  go_wp2_with fail
  refine (as_bool HK.out (implTeamsOk_any _ _ ts _ (HT.out.mono (HB.out _ _)))).mono ?_
  rintro e w1 ⟨rfl, hb1⟩
  have HB1 : Hid (Below w.heap.size w w1) := (HB.out _ _).trans (hb1.mono (by simp; omega))
  have hR1 := res_later hb1
  have hRc := fun j => cell_of_block (o := j) hR1
  have hRf := fun j => frozen_of_block (o := j) hR1
  clear hb1 hR1
  go_wp2_with fail
  refine bodyPost_ret (v := (.tuple #[.agg Gate.noAct.cells, .bool false])) (by simp [results, Tryd.results12, go_sem, hRc]; rfl) rfl ?_
  exact ⟨rfl, act4_below HB1.out (Nat.le_succ _) _ _ _ _⟩

set_option maxHeartbeats 2000000 in
theorem implUncovered_rule (ta : Option Addr) (tcap : Nat) (ts : List Tm) (ra : Option Addr) (rcap : Nat) (rs : List Rl) (r : Rl) (a : Option Addr) (cap : Nat) (w : World) (hw : TmsAt w ta ts) (hr : RlsAt w ra rs) (hm : r.Small) (hi : IntsAt w a r.vs) (hok : Gate.teamsOk ts = true) (hno : Gate.ruleOk r = false) :
    Calls Tryd.prog 12 #[.slice ta ts.length tcap, .slice ra rs.length rcap, .agg (r.cells a cap)] w fun e w' => e = .returned (.tuple #[.agg Gate.noAct.cells, .bool false]) ∧ Below w.heap.size w w' := by
  have HB : Hid (∀ o1 o2, Below w.heap.size w ((w.alloc o1).alloc o2)) := fun _ _ => ((Below.refl _ _).alloc (Nat.le_refl _) _).alloc (by simp) _
  have HT : Hid (TmsAt w ta ts) := hw
  have HR : Hid (RlsAt w ra rs) := hr
  have HI : Hid (IntsAt w a r.vs) := hi
  have HM : Hid r.Small := hm
  have HK : Hid (Gate.teamsOk ts = true) := hok
  have HRo : Hid (Gate.ruleOk r = false) := hno
  clear hw hr hi hm hok hno
  unfold Rl.cells
  go_enter Tryd.func12, Tryd.ntmps12
  go_wp2_with fail
  refine (as_bool HK.out (implTeamsOk_any _ _ ts _ (HT.out.mono (HB.out _ _)))).mono ?_
  rintro e w1 ⟨rfl, hb1⟩
  have HB1 : Hid (Below w.heap.size w w1) := (HB.out _ _).trans (hb1.mono (by simp; omega))
  have HR1 : Hid (_) := res_later hb1
  have hX1 := box_later (box_new w _ _) (by simp) (((Below.refl _ _).alloc (Nat.le_refl _) _).trans (hb1.mono (by simp)))
  have hz1 : w.heap.size + 1 < w1.heap.size := by have := hb1.size; simp at this; omega
  clear hb1
  go_wp2_with fail
  refine (as_bool HRo.out (isRule_any r _ _ _ HM.out (HI.out.mono HB1.out))).mono ?_
  rintro e w2 ⟨rfl, hb2⟩
  have HB2 : Hid (Below w.heap.size w w2) := HB1.out.trans (hb2.mono HB1.out.size)
  have HR2 : Hid (_) := (hb2.block _ hz1).trans HR1.out
  have hX2 := box_later hX1 (Nat.lt_of_succ_lt hz1) hb2
  have hz2 := Nat.lt_of_lt_of_le hz1 hb2.size
  clear hb2 hX1 hz1 HR1
  have hRc := fun j => cell_of_block (o := j) HR2.out
  have hRf := fun j => frozen_of_block (o := j) HR2.out
  clear hX2 hz2
  go_wp2_with fail
  refine bodyPost_ret (v := (.tuple #[.agg Gate.noAct.cells, .bool false])) (by simp [results, Tryd.results12, go_sem, hRc]; rfl) rfl ?_
  exact ⟨rfl, act4_below HB2.out (Nat.le_succ _) _ _ _ _⟩

set_option maxHeartbeats 2000000 in
theorem implUncovered_rules (ta : Option Addr) (tcap : Nat) (ts : List Tm) (ra : Option Addr) (rcap : Nat) (rs : List Rl) (r : Rl) (a : Option Addr) (cap : Nat) (w : World) (hw : TmsAt w ta ts) (hr : RlsAt w ra rs) (hm : r.Small) (hi : IntsAt w a r.vs) (hok : Gate.teamsOk ts = true) (hro : Gate.ruleOk r = true) (hno : Gate.rulesOk rs = false) :
    Calls Tryd.prog 12 #[.slice ta ts.length tcap, .slice ra rs.length rcap, .agg (r.cells a cap)] w fun e w' => e = .returned (.tuple #[.agg Gate.noAct.cells, .bool false]) ∧ Below w.heap.size w w' := by
  have HB : Hid (∀ o1 o2, Below w.heap.size w ((w.alloc o1).alloc o2)) := fun _ _ => ((Below.refl _ _).alloc (Nat.le_refl _) _).alloc (by simp) _
  have HT : Hid (TmsAt w ta ts) := hw
  have HR : Hid (RlsAt w ra rs) := hr
  have HI : Hid (IntsAt w a r.vs) := hi
  have HM : Hid r.Small := hm
  have HK : Hid (Gate.teamsOk ts = true) := hok
  have HRo : Hid (Gate.ruleOk r = true) := hro
  have HRs : Hid (Gate.rulesOk rs = false) := hno
  clear hw hr hi hm hok hro hno
  unfold Rl.cells
  go_enter Tryd.func12, Tryd.ntmps12
  go_wp2_with fail
  refine (as_bool HK.out (implTeamsOk_any _ _ ts _ (HT.out.mono (HB.out _ _)))).mono ?_
  rintro e w1 ⟨rfl, hb1⟩
  have HB1 : Hid (Below w.heap.size w w1) := (HB.out _ _).trans (hb1.mono (by simp; omega))
  have HR1 : Hid (_) := res_later hb1
  have hX1 := box_later (box_new w _ _) (by simp) (((Below.refl _ _).alloc (Nat.le_refl _) _).trans (hb1.mono (by simp)))
  have hz1 : w.heap.size + 1 < w1.heap.size := by have := hb1.size; simp at this; omega
  clear hb1
  go_wp2_with fail
  refine (as_bool HRo.out (isRule_any r _ _ _ HM.out (HI.out.mono HB1.out))).mono ?_
  rintro e w2 ⟨rfl, hb2⟩
  have HB2 : Hid (Below w.heap.size w w2) := HB1.out.trans (hb2.mono HB1.out.size)
  have HR2 : Hid (_) := (hb2.block _ hz1).trans HR1.out
  have hX2 := box_later hX1 (Nat.lt_of_succ_lt hz1) hb2
  have hz2 := Nat.lt_of_lt_of_le hz1 hb2.size
  clear hb2 hX1 hz1 HR1
  go_wp2_with fail
  refine (as_bool HRs.out (areRules_any _ _ rs _ (HR.out.mono HB2.out))).mono ?_
  rintro e w3 ⟨rfl, hb3⟩
  have HB3 : Hid (Below w.heap.size w w3) := HB2.out.trans (hb3.mono HB2.out.size)
  have HR3 : Hid (_) := (hb3.block _ hz2).trans HR2.out
  have hX3 := box_later hX2 (Nat.lt_of_succ_lt hz2) hb3
  have hz3 := Nat.lt_of_lt_of_le hz2 hb3.size
  clear hb3 hX2 hz2 HR2
  have hRc := fun j => cell_of_block (o := j) HR3.out
  have hRf := fun j => frozen_of_block (o := j) HR3.out
  clear hX3 hz3
  go_wp2_with fail
  refine bodyPost_ret (v := (.tuple #[.agg Gate.noAct.cells, .bool false])) (by simp [results, Tryd.results12, go_sem, hRc]; rfl) rfl ?_
  exact ⟨rfl, act4_below HB3.out (Nat.le_succ _) _ _ _ _⟩

set_option maxHeartbeats 2000000 in
theorem implUncovered_none (ta : Option Addr) (tcap : Nat) (ts : List Tm) (ra : Option Addr) (rcap : Nat) (rs : List Rl) (r : Rl) (a : Option Addr) (cap : Nat) (w : World) (hw : TmsAt w ta ts) (hr : RlsAt w ra rs) (hm : r.Small) (hi : IntsAt w a r.vs) (hok : Gate.teamsOk ts = true) (hro : Gate.ruleOk r = true) (hrs : Gate.rulesOk rs = true) (hno : Gate.leftBits ts rs r = 0) :
    Calls Tryd.prog 12 #[.slice ta ts.length tcap, .slice ra rs.length rcap, .agg (r.cells a cap)] w fun e w' => e = .returned (.tuple #[.agg Gate.noAct.cells, .bool false]) ∧ Below w.heap.size w w' := by
  have HB : Hid (∀ o1 o2, Below w.heap.size w ((w.alloc o1).alloc o2)) := fun _ _ => ((Below.refl _ _).alloc (Nat.le_refl _) _).alloc (by simp) _
  have HT : Hid (TmsAt w ta ts) := hw
  have HR : Hid (RlsAt w ra rs) := hr
  have HI : Hid (IntsAt w a r.vs) := hi
  have HM : Hid r.Small := hm
  have HK : Hid (Gate.teamsOk ts = true) := hok
  have HRo : Hid (Gate.ruleOk r = true) := hro
  have HRs : Hid (Gate.rulesOk rs = true) := hrs
  have HV : Hid (Gate.verbsOk r.vs = true) := Gate.ruleOk_verbs hro
  have HL : Hid (Gate.leftBits ts rs r = 0) := hno
  clear hw hr hi hm hok hro hrs hno
  unfold Rl.cells
  go_enter Tryd.func12, Tryd.ntmps12
  go_wp2_with fail
  refine (as_bool HK.out (implTeamsOk_any _ _ ts _ (HT.out.mono (HB.out _ _)))).mono ?_
  rintro e w1 ⟨rfl, hb1⟩
  have HB1 : Hid (Below w.heap.size w w1) := (HB.out _ _).trans (hb1.mono (by simp; omega))
  have HR1 : Hid (_) := res_later hb1
  have hX1 := box_later (box_new w _ _) (by simp) (((Below.refl _ _).alloc (Nat.le_refl _) _).trans (hb1.mono (by simp)))
  have hz1 : w.heap.size + 1 < w1.heap.size := by have := hb1.size; simp at this; omega
  clear hb1
  go_wp2_with fail
  refine (as_bool HRo.out (isRule_any r _ _ _ HM.out (HI.out.mono HB1.out))).mono ?_
  rintro e w2 ⟨rfl, hb2⟩
  have HB2 : Hid (Below w.heap.size w w2) := HB1.out.trans (hb2.mono HB1.out.size)
  have HR2 : Hid (_) := (hb2.block _ hz1).trans HR1.out
  have hX2 := box_later hX1 (Nat.lt_of_succ_lt hz1) hb2
  have hz2 := Nat.lt_of_lt_of_le hz1 hb2.size
  clear hb2 hX1 hz1 HR1
  go_wp2_with fail
  refine (as_bool HRs.out (areRules_any _ _ rs _ (HR.out.mono HB2.out))).mono ?_
  rintro e w3 ⟨rfl, hb3⟩
  have HB3 : Hid (Below w.heap.size w w3) := HB2.out.trans (hb3.mono HB2.out.size)
  have HR3 : Hid (_) := (hb3.block _ hz2).trans HR2.out
  have hX3 := box_later hX2 (Nat.lt_of_succ_lt hz2) hb3
  have hz3 := Nat.lt_of_lt_of_le hz2 hb3.size
  clear hb3 hX2 hz2 HR2
  go_wp2_with fail
  refine (uncovered_any _ _ ts _ _ rs r _ _ _ (HT.out.mono HB3.out) (HR.out.mono HB3.out) HM.out (HI.out.mono HB3.out) HV.out HRs.out).mono ?_
  rintro e w4 ⟨rfl, hb4⟩
  have HB4 : Hid (Below w.heap.size w w4) := HB3.out.trans (hb4.mono HB3.out.size)
  have HR4 : Hid (_) := (hb4.block _ hz3).trans HR3.out
  have hX4 := box_later hX3 (Nat.lt_of_succ_lt hz3) hb4
  have hz4 := Nat.lt_of_lt_of_le hz3 hb4.size
  clear hb4 hX3 hz3 HR3
  rw [HL.out]
  have hRc := fun j => cell_of_block (o := j) HR4.out
  have hRf := fun j => frozen_of_block (o := j) HR4.out
  clear hX4 hz4
  go_wp2_with fail
  refine bodyPost_ret (v := (.tuple #[.agg Gate.noAct.cells, .bool false])) (by simp [results, Tryd.results12, go_sem, hRc]; rfl) rfl ?_
  exact ⟨rfl, act4_below HB4.out (Nat.le_succ _) _ _ _ _⟩

end Go.Proofs.YtimhinpekngceaaDoor

namespace Go.Proofs.YtimhinpekngceaaDoor
open Go.RowKit

/-- The operation at a place of a written-out row: it unfolds to the operation itself. -/
def nth : List Oper → Nat → Option Oper
  | [], _ => none
  | o :: _, 0 => some o
  | _ :: l, n + 1 => nth l n
theorem nth_eq : ∀ (l : List Oper) (i : Nat), nth l i = l[i]?
  | [], _ => by simp [nth]
  | _ :: _, 0 => by simp [nth]
  | _ :: l, n + 1 => by simp [nth, nth_eq l n]

section
variable {P : Program} {ops : Array Oper} {Q : Exit → Act → World → Prop} {md : Region.Mode} {S : World → Prop}

theorem nth_at {i : Nat} {oi : Oper} (hi : nth ops.toList i = some oi) : ops[i]? = some oi := by
  rw [nth_eq] at hi; simpa using hi

/-- An operation that is wanted, and yields in every world that meets S. -/
theorem takeH {i : Nat} {oi : Oper} {v : Value} {fuel : Nat} {listed : Array Bool} {a : Act} {w : World} (hi : nth ops.toList i = some oi)
    (hs : Region.noSelect ops = true) (hf : Region.free md ops listed i = true) (hr : (Region.ready md ops listed).contains i = true)
    (hQ : ∀ c a w, Q (.panic c) (a.put oi.dst v) w → Q (.panic c) a w) (hw : Region.wanted oi (yielded ops a.tmps) = true) (hS : S w)
    (hy : ∀ w, S w → (execOp a.eval oi).run P w = .ok (.value v) w)
    (h : wpAnyH P md ops Q S fuel (listed.setIfInBounds i true) (a.put oi.dst v) w) : wpAnyH P md ops Q S (fuel + 1) listed a w :=
  wpAnyH_take (nth_at hi) hs hf hr hQ (Or.inl ⟨hw, hy⟩) hS h

/-- An operation whose guard is false. -/
theorem skipH {i : Nat} {oi : Oper} {fuel : Nat} {listed : Array Bool} {a : Act} {w : World} (hi : nth ops.toList i = some oi)
    (hs : Region.noSelect ops = true) (hf : Region.free md ops listed i = true) (hr : (Region.ready md ops listed).contains i = true)
    (hQ : ∀ c a w, Q (.panic c) (a.put oi.dst undef) w → Q (.panic c) a w) (hw : Region.wanted oi (yielded ops a.tmps) = false) (hS : S w)
    (h : wpAnyH P md ops Q S fuel (listed.setIfInBounds i true) (a.put oi.dst undef) w) : wpAnyH P md ops Q S (fuel + 1) listed a w :=
  wpAnyH_take (nth_at hi) hs hf hr hQ (Or.inr ⟨hw, rfl⟩) hS h

/-- The one operation that may come up, carried out. -/
theorem stepH {i : Nat} {oi : Oper} {fuel : Nat} {listed : Array Bool} {a : Act} {w : World} (hi : nth ops.toList i = some oi)
    (hr : Region.ready md ops listed = [i]) (hw : Region.wanted oi (yielded ops a.tmps) = true)
    (h : ∀ K : Act → World → Prop, Shut (∀ a w, S w → (S w → wpAnyH P md ops Q S fuel (listed.setIfInBounds i true) a w) → K a w) → Oper.wp P oi a w K Q) : wpAnyH P md ops Q S (fuel + 1) listed a w :=
  wpAnyH_ready hr (by simp) (AllReadyH.cons (nth_at hi) (fun K hK => by rw [if_pos hw]; exact h K hK) AllReadyH.nil)
end

end Go.Proofs.YtimhinpekngceaaDoor
