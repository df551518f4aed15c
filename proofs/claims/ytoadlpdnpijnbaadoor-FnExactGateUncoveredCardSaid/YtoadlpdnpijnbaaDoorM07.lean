import Derived.Test.YtoadlpdnpijnbaaDoorM06
import Derived.WalkKit
import Derived.Deep.RegionHeld3
import Derived.Test.YtoadlpdnpijnbaaDoorM04
import Derived.Test.YtoadlpdnpijnbaaDoorM01
import Derived.Test.YtoadlpdnpijnbaaDoorM02
namespace Go.Proofs.YtoadlpdnpijnbaaDoor
open Go.RowKit

def Gate.tzN (n : Nat) : Int := if n % 64 = 0 then 8 else if n % 2 = 1 then 0 else if n % 4 = 2 then 1 else if n % 8 = 4 then 2 else if n % 16 = 8 then 3 else if n % 32 = 16 then 4 else 5
def Gate.bitsN (a b c d e : Bool) : Nat := (cond a 2 0) + (cond b 4 0) + (cond c 8 0) + (cond d 16 0) + (cond e 32 0)
theorem Gate.bitsN_all : ∀ a b c d e : Bool, Gate.bits5 a b c d e = ((Gate.bitsN a b c d e : Nat) : Int) ∧ Gate.bitsN a b c d e < 64 ∧ Gate.tzN (Gate.bitsN a b c d e) = Gate.low5 a b c d e := by decide +kernel

theorem byte_getD (b : ByteArray) (i : Nat) (h : i < b.size) : b[i] = b.data.toList.getD i 0 := by
  rw [List.getD_eq_getElem?_getD, List.getElem?_eq_getElem (by simpa using h)]; rfl

set_option maxRecDepth 100000 in
theorem tz8_at (n : Nat) (hn : n < 64) (w : World) : Calls Tryd.prog 64 #[.int .u8 (n : Int)] w fun x w' => x = .returned (.int .i64 (Gate.tzN n)) ∧ w' = w := by
  have h0 : (0 : Int) ≤ (n : Int) := by omega
  have h1 : (n : Int) < 256 := by omega
  go_enter Tryd.func64, Tryd.ntmps64
  go_wp2_with fail
  go_ret
  refine ⟨ret_int ?_, rfl⟩
  rw [byte_getD]
  clear h0 h1
  revert hn
  revert n
  decide +kernel

theorem first_any (f : Int → Bool) (w : World) : Calls Tryd.prog 34 #[.int .u8 (Gate.bitsOf f)] w fun x w' => x = .returned (.int .i64 (Gate.low f)) ∧ w' = w := by
  obtain ⟨h1, h2, h3⟩ := Gate.bitsN_all (f 1) (f 2) (f 3) (f 4) (f 5)
  have HE : Hid (Gate.tzN (Gate.bitsN (f 1) (f 2) (f 3) (f 4) (f 5)) = Gate.low f) := h3
  unfold Gate.bitsOf
  rw [h1]
  clear h1 h3
  go_enter Tryd.func34, Tryd.ntmps34
  go_wp2_with (go_at_call 64; refine (tz8_at _ h2 _).mono ?_; rintro e w' ⟨rfl, rfl⟩)
  go_ret
  exact ⟨ret_int HE.out, rfl⟩

end Go.Proofs.YtoadlpdnpijnbaaDoor

namespace Go.Proofs.YtoadlpdnpijnbaaDoor
open Go.RowKit

/-- What GateUncovered answers of teams, rules and a rule: an act, and whether there is one. -/
structure Gate.Uncov (ts : List Tm) (rs : List Rl) (r : Rl) (x : Ac) : Prop where
  vb : x.vb = Gate.lacksS ts rs r
  nm : x.nm = r.px
  kd : if r.kd.toList.isEmpty = true then ∃ k, x.kd = Gate.numbered Gate.letterK k ∧ Gate.IsFree Gate.letterK (rs.map Rl.kd) k else x.kd = r.kd
  tm : if r.tm.toList.isEmpty = true then ∃ k, x.tm = Gate.numbered Gate.letterT k ∧ Gate.IsFree Gate.letterT (ts.map Tm.nm ++ rs.map Rl.tm) k else x.tm = r.tm

def Gate.noAct : Ac := ⟨0, ByteArray.empty, ByteArray.empty, ByteArray.empty⟩

def Gate.UncovPost (ts : List Tm) (rs : List Rl) (r : Rl) (x : Ac) (ok : Bool) : Prop :=
  (Gate.allOk ts rs r = true ∧ ¬ Gate.lacksS ts rs r = 0 ∧ ok = true ∧ Gate.Uncov ts rs r x) ∨ ((Gate.allOk ts rs r = false ∨ Gate.lacksS ts rs r = 0) ∧ ok = false ∧ x = Gate.noAct)

theorem act4_below {B b : Nat} {a w : World} (h : Below B a w) (hb : B ≤ b) (v0 v1 v2 v3 : Value) : Below B a ((((w.setCell ⟨b, 0, none⟩ v0).setCell ⟨b, 1, none⟩ v1).setCell ⟨b, 2, none⟩ v2).setCell ⟨b, 3, none⟩ v3) :=
  (((h.setCell hb v0).setCell hb v1).setCell hb v2).setCell hb v3

/-- The block of the result, later on. -/
theorem res_later {w w1 : World} {o1 : Obj} {X : Array Value} {t : TypeId} (hb : Below ((w.alloc o1).alloc (.cells X t)).heap.size ((w.alloc o1).alloc (.cells X t)) w1) : w1.heap[w.heap.size + 1]? = some (.cells X t) := by
  rw [hb.block (w.heap.size + 1) (by simp)]
  have e : (w.alloc o1).heap.size = w.heap.size + 1 := by simp
  rw [← e]
  exact Array.getElem?_push_size

set_option maxHeartbeats 2000000 in
theorem implUncovered_teams (ta : Option Addr) (tcap : Nat) (ts : List Tm) (ra : Option Addr) (rcap : Nat) (rs : List Rl) (r : Rl) (a : Option Addr) (cap : Nat) (w : World) (hw : TmsAt w ta ts) (hno : Gate.teamsOk ts = false) :
    Calls Tryd.prog 12 #[.slice ta ts.length tcap, .slice ra rs.length rcap, .agg (r.cells a cap)] w fun e w' => e = .returned (.tuple #[.agg Gate.noAct.cells, .bool false]) ∧ Below w.heap.size w w' := by
  have HB : Hid (∀ o1 o2, Below w.heap.size w ((w.alloc o1).alloc o2)) := fun _ _ => ((Below.refl _ _).alloc (Nat.le_refl _) _).alloc (by simp) _
  have HT : Hid (TmsAt w ta ts) := hw
  have HK : Hid (Gate.teamsOk ts = false) := hno
  clear hw hno
  unfold Rl.cells
  go_enter Tryd.func12, Tryd.ntmps12
  go_wp2_with fail
  refine (as_bool HK.out (implTeamsOk_any _ _ ts _ (HT.out.mono (HB.out _ _)))).mono ?_
  rintro e w1 ⟨rfl, hb1⟩
  have HB1 : Hid (Below w.heap.size w w1) := (HB.out _ _).trans (hb1.mono (by simp; omega))
  have hR1 := res_later hb1
  have hRc := fun j => cell_of_block (o := j) hR1
  have hRf := fun j => frozen_of_block (o := j) hR1
  clear hb1 hR1
  go_wp2_with fail
  refine bodyPost_ret (v := (.tuple #[.agg Gate.noAct.cells, .bool false])) (by simp [results, Tryd.results12, go_sem, hRc]; rfl) rfl ?_
  exact ⟨rfl, act4_below HB1.out (Nat.le_succ _) _ _ _ _⟩

set_option maxHeartbeats 2000000 in
theorem implUncovered_rule (ta : Option Addr) (tcap : Nat) (ts : List Tm) (ra : Option Addr) (rcap : Nat) (rs : List Rl) (r : Rl) (a : Option Addr) (cap : Nat) (w : World) (hw : TmsAt w ta ts) (hr : RlsAt w ra rs) (hm : r.Small) (hi : IntsAt w a r.vs) (hok : Gate.teamsOk ts = true) (hno : Gate.ruleOk r = false) :
    Calls Tryd.prog 12 #[.slice ta ts.length tcap, .slice ra rs.length rcap, .agg (r.cells a cap)] w fun e w' => e = .returned (.tuple #[.agg Gate.noAct.cells, .bool false]) ∧ Below w.heap.size w w' := by
  have HB : Hid (∀ o1 o2, Below w.heap.size w ((w.alloc o1).alloc o2)) := fun _ _ => ((Below.refl _ _).alloc (Nat.le_refl _) _).alloc (by simp) _
  have HT : Hid (TmsAt w ta ts) := hw
  have HR : Hid (RlsAt w ra rs) := hr
  have HI : Hid (IntsAt w a r.vs) := hi
  have HM : Hid r.Small := hm
  have HK : Hid (Gate.teamsOk ts = true) := hok
  have HRo : Hid (Gate.ruleOk r = false) := hno
  clear hw hr hi hm hok hno
  unfold Rl.cells
  go_enter Tryd.func12, Tryd.ntmps12
  go_wp2_with fail
  refine (as_bool HK.out (implTeamsOk_any _ _ ts _ (HT.out.mono (HB.out _ _)))).mono ?_
  rintro e w1 ⟨rfl, hb1⟩
  have HB1 : Hid (Below w.heap.size w w1) := (HB.out _ _).trans (hb1.mono (by simp; omega))
  have HR1 : Hid (_) := res_later hb1
  have hX1 := box_later (box_new w _ _) (by simp) (((Below.refl _ _).alloc (Nat.le_refl _) _).trans (hb1.mono (by simp)))
  have hz1 : w.heap.size + 1 < w1.heap.size := by have := hb1.size; simp at this; omega
  clear hb1
  go_wp2_with fail
  refine (as_bool HRo.out (isRule_any r _ _ _ HM.out (HI.out.mono HB1.out))).mono ?_
  rintro e w2 ⟨rfl, hb2⟩
  have HB2 : Hid (Below w.heap.size w w2) := HB1.out.trans (hb2.mono HB1.out.size)
  have HR2 : Hid (_) := (hb2.block _ hz1).trans HR1.out
  have hX2 := box_later hX1 (Nat.lt_of_succ_lt hz1) hb2
  have hz2 := Nat.lt_of_lt_of_le hz1 hb2.size
  clear hb2 hX1 hz1 HR1
  have hRc := fun j => cell_of_block (o := j) HR2.out
  have hRf := fun j => frozen_of_block (o := j) HR2.out
  clear hX2 hz2
  go_wp2_with fail
  refine bodyPost_ret (v := (.tuple #[.agg Gate.noAct.cells, .bool false])) (by simp [results, Tryd.results12, go_sem, hRc]; rfl) rfl ?_
  exact ⟨rfl, act4_below HB2.out (Nat.le_succ _) _ _ _ _⟩

set_option maxHeartbeats 2000000 in
theorem implUncovered_rules (ta : Option Addr) (tcap : Nat) (ts : List Tm) (ra : Option Addr) (rcap : Nat) (rs : List Rl) (r : Rl) (a : Option Addr) (cap : Nat) (w : World) (hw : TmsAt w ta ts) (hr : RlsAt w ra rs) (hm : r.Small) (hi : IntsAt w a r.vs) (hok : Gate.teamsOk ts = true) (hro : Gate.ruleOk r = true) (hno : Gate.rulesOk rs = false) :
    Calls Tryd.prog 12 #[.slice ta ts.length tcap, .slice ra rs.length rcap, .agg (r.cells a cap)] w fun e w' => e = .returned (.tuple #[.agg Gate.noAct.cells, .bool false]) ∧ Below w.heap.size w w' := by
  have HB : Hid (∀ o1 o2, Below w.heap.size w ((w.alloc o1).alloc o2)) := fun _ _ => ((Below.refl _ _).alloc (Nat.le_refl _) _).alloc (by simp) _
  have HT : Hid (TmsAt w ta ts) := hw
  have HR : Hid (RlsAt w ra rs) := hr
  have HI : Hid (IntsAt w a r.vs) := hi
  have HM : Hid r.Small := hm
  have HK : Hid (Gate.teamsOk ts = true) := hok
  have HRo : Hid (Gate.ruleOk r = true) := hro
  have HRs : Hid (Gate.rulesOk rs = false) := hno
  clear hw hr hi hm hok hro hno
  unfold Rl.cells
  go_enter Tryd.func12, Tryd.ntmps12
  go_wp2_with fail
  refine (as_bool HK.out (implTeamsOk_any _ _ ts _ (HT.out.mono (HB.out _ _)))).mono ?_
  rintro e w1 ⟨rfl, hb1⟩
  have HB1 : Hid (Below w.heap.size w w1) := (HB.out _ _).trans (hb1.mono (by simp; omega))
  have HR1 : Hid (_) := res_later hb1
  have hX1 := box_later (box_new w _ _) (by simp) (((Below.refl _ _).alloc (Nat.le_refl _) _).trans (hb1.mono (by simp)))
  have hz1 : w.heap.size + 1 < w1.heap.size := by have := hb1.size; simp at this; omega
  clear hb1
  go_wp2_with fail
  refine (as_bool HRo.out (isRule_any r _ _ _ HM.out (HI.out.mono HB1.out))).mono ?_
  rintro e w2 ⟨rfl, hb2⟩
  have HB2 : Hid (Below w.heap.size w w2) := HB1.out.trans (hb2.mono HB1.out.size)
  have HR2 : Hid (_) := (hb2.block _ hz1).trans HR1.out
  have hX2 := box_later hX1 (Nat.lt_of_succ_lt hz1) hb2
  have hz2 := Nat.lt_of_lt_of_le hz1 hb2.size
  clear hb2 hX1 hz1 HR1
  go_wp2_with fail
  refine (as_bool HRs.out (areRules_any _ _ rs _ (HR.out.mono HB2.out))).mono ?_
  rintro e w3 ⟨rfl, hb3⟩
  have HB3 : Hid (Below w.heap.size w w3) := HB2.out.trans (hb3.mono HB2.out.size)
  have HR3 : Hid (_) := (hb3.block _ hz2).trans HR2.out
  have hX3 := box_later hX2 (Nat.lt_of_succ_lt hz2) hb3
  have hz3 := Nat.lt_of_lt_of_le hz2 hb3.size
  clear hb3 hX2 hz2 HR2
  have hRc := fun j => cell_of_block (o := j) HR3.out
  have hRf := fun j => frozen_of_block (o := j) HR3.out
  clear hX3 hz3
  go_wp2_with fail
  refine bodyPost_ret (v := (.tuple #[.agg Gate.noAct.cells, .bool false])) (by simp [results, Tryd.results12, go_sem, hRc]; rfl) rfl ?_
  exact ⟨rfl, act4_below HB3.out (Nat.le_succ _) _ _ _ _⟩

set_option maxHeartbeats 2000000 in
theorem implUncovered_none (ta : Option Addr) (tcap : Nat) (ts : List Tm) (ra : Option Addr) (rcap : Nat) (rs : List Rl) (r : Rl) (a : Option Addr) (cap : Nat) (w : World) (hw : TmsAt w ta ts) (hr : RlsAt w ra rs) (hm : r.Small) (hi : IntsAt w a r.vs) (hok : Gate.teamsOk ts = true) (hro : Gate.ruleOk r = true) (hrs : Gate.rulesOk rs = true) (hno : Gate.leftBits ts rs r = 0) :
    Calls Tryd.prog 12 #[.slice ta ts.length tcap, .slice ra rs.length rcap, .agg (r.cells a cap)] w fun e w' => e = .returned (.tuple #[.agg Gate.noAct.cells, .bool false]) ∧ Below w.heap.size w w' := by
  have HB : Hid (∀ o1 o2, Below w.heap.size w ((w.alloc o1).alloc o2)) := fun _ _ => ((Below.refl _ _).alloc (Nat.le_refl _) _).alloc (by simp) _
  have HT : Hid (TmsAt w ta ts) := hw
  have HR : Hid (RlsAt w ra rs) := hr
  have HI : Hid (IntsAt w a r.vs) := hi
  have HM : Hid r.Small := hm
  have HK : Hid (Gate.teamsOk ts = true) := hok
  have HRo : Hid (Gate.ruleOk r = true) := hro
  have HRs : Hid (Gate.rulesOk rs = true) := hrs
  have HV : Hid (Gate.verbsOk r.vs = true) := Gate.ruleOk_verbs hro
  have HL : Hid (Gate.leftBits ts rs r = 0) := hno
  clear hw hr hi hm hok hro hrs hno
  unfold Rl.cells
  go_enter Tryd.func12, Tryd.ntmps12
  go_wp2_with fail
  refine (as_bool HK.out (implTeamsOk_any _ _ ts _ (HT.out.mono (HB.out _ _)))).mono ?_
  rintro e w1 ⟨rfl, hb1⟩
  have HB1 : Hid (Below w.heap.size w w1) := (HB.out _ _).trans (hb1.mono (by simp; omega))
  have HR1 : Hid (_) := res_later hb1
  have hX1 := box_later (box_new w _ _) (by simp) (((Below.refl _ _).alloc (Nat.le_refl _) _).trans (hb1.mono (by simp)))
  have hz1 : w.heap.size + 1 < w1.heap.size := by have := hb1.size; simp at this; omega
  clear hb1
  go_wp2_with fail
  refine (as_bool HRo.out (isRule_any r _ _ _ HM.out (HI.out.mono HB1.out))).mono ?_
  rintro e w2 ⟨rfl, hb2⟩
  have HB2 : Hid (Below w.heap.size w w2) := HB1.out.trans (hb2.mono HB1.out.size)
  have HR2 : Hid (_) := (hb2.block _ hz1).trans HR1.out
  have hX2 := box_later hX1 (Nat.lt_of_succ_lt hz1) hb2
  have hz2 := Nat.lt_of_lt_of_le hz1 hb2.size
  clear hb2 hX1 hz1 HR1
  go_wp2_with fail
  refine (as_bool HRs.out (areRules_any _ _ rs _ (HR.out.mono HB2.out))).mono ?_
  rintro e w3 ⟨rfl, hb3⟩
  have HB3 : Hid (Below w.heap.size w w3) := HB2.out.trans (hb3.mono HB2.out.size)
  have HR3 : Hid (_) := (hb3.block _ hz2).trans HR2.out
  have hX3 := box_later hX2 (Nat.lt_of_succ_lt hz2) hb3
  have hz3 := Nat.lt_of_lt_of_le hz2 hb3.size
  clear hb3 hX2 hz2 HR2
  go_wp2_with fail
  refine (uncovered_any _ _ ts _ _ rs r _ _ _ (HT.out.mono HB3.out) (HR.out.mono HB3.out) HM.out (HI.out.mono HB3.out) HV.out HRs.out).mono ?_
  rintro e w4 ⟨rfl, hb4⟩
  have HB4 : Hid (Below w.heap.size w w4) := HB3.out.trans (hb4.mono HB3.out.size)
  have HR4 : Hid (_) := (hb4.block _ hz3).trans HR3.out
  have hX4 := box_later hX3 (Nat.lt_of_succ_lt hz3) hb4
  have hz4 := Nat.lt_of_lt_of_le hz3 hb4.size
  clear hb4 hX3 hz3 HR3
  rw [HL.out]
  have hRc := fun j => cell_of_block (o := j) HR4.out
  have hRf := fun j => frozen_of_block (o := j) HR4.out
  clear hX4 hz4
  go_wp2_with fail
  refine bodyPost_ret (v := (.tuple #[.agg Gate.noAct.cells, .bool false])) (by simp [results, Tryd.results12, go_sem, hRc]; rfl) rfl ?_
  exact ⟨rfl, act4_below HB4.out (Nat.le_succ _) _ _ _ _⟩

end Go.Proofs.YtoadlpdnpijnbaaDoor

namespace Go.Proofs.YtoadlpdnpijnbaaDoor
open Go.RowKit

/-- The operation at a place of a written-out row: it unfolds to the operation itself. -/
def nth : List Oper → Nat → Option Oper
  | [], _ => none
  | o :: _, 0 => some o
  | _ :: l, n + 1 => nth l n
theorem nth_eq : ∀ (l : List Oper) (i : Nat), nth l i = l[i]?
  | [], _ => by simp [nth]
  | _ :: _, 0 => by simp [nth]
  | _ :: l, n + 1 => by simp [nth, nth_eq l n]

section
variable {P : Program} {ops : Array Oper} {Q : Exit → Act → World → Prop} {md : Region.Mode} {S : World → Prop}

theorem nth_at {i : Nat} {oi : Oper} (hi : nth ops.toList i = some oi) : ops[i]? = some oi := by
  rw [nth_eq] at hi; simpa using hi

/-- An operation that is wanted, and yields in every world that meets S. -/
theorem takeH {i : Nat} {oi : Oper} {v : Value} {fuel : Nat} {listed : Array Bool} {a : Act} {w : World} (hi : nth ops.toList i = some oi)
    (hs : Region.noSelect ops = true) (hf : Region.free md ops listed i = true) (hr : (Region.ready md ops listed).contains i = true)
    (hQ : ∀ c a w, Q (.panic c) (a.put oi.dst v) w → Q (.panic c) a w) (hw : Region.wanted oi (yielded ops a.tmps) = true) (hS : S w)
    (hy : ∀ w, S w → (execOp a.eval oi).run P w = .ok (.value v) w)
    (h : wpAnyH P md ops Q S fuel (listed.setIfInBounds i true) (a.put oi.dst v) w) : wpAnyH P md ops Q S (fuel + 1) listed a w :=
  wpAnyH_take (nth_at hi) hs hf hr hQ (Or.inl ⟨hw, hy⟩) hS h

/-- An operation whose guard is false. -/
theorem skipH {i : Nat} {oi : Oper} {fuel : Nat} {listed : Array Bool} {a : Act} {w : World} (hi : nth ops.toList i = some oi)
    (hs : Region.noSelect ops = true) (hf : Region.free md ops listed i = true) (hr : (Region.ready md ops listed).contains i = true)
    (hQ : ∀ c a w, Q (.panic c) (a.put oi.dst undef) w → Q (.panic c) a w) (hw : Region.wanted oi (yielded ops a.tmps) = false) (hS : S w)
    (h : wpAnyH P md ops Q S fuel (listed.setIfInBounds i true) (a.put oi.dst undef) w) : wpAnyH P md ops Q S (fuel + 1) listed a w :=
  wpAnyH_take (nth_at hi) hs hf hr hQ (Or.inr ⟨hw, rfl⟩) hS h

/-- The one operation that may come up, carried out. -/
theorem stepH {i : Nat} {oi : Oper} {fuel : Nat} {listed : Array Bool} {a : Act} {w : World} (hi : nth ops.toList i = some oi)
    (hr : Region.ready md ops listed = [i]) (hw : Region.wanted oi (yielded ops a.tmps) = true)
    (h : ∀ K : Act → World → Prop, Shut (∀ a w, S w → (S w → wpAnyH P md ops Q S fuel (listed.setIfInBounds i true) a w) → K a w) → Oper.wp P oi a w K Q) : wpAnyH P md ops Q S (fuel + 1) listed a w :=
  wpAnyH_ready hr (by simp) (AllReadyH.cons (nth_at hi) (fun K hK => by rw [if_pos hw]; exact h K hK) AllReadyH.nil)
end

end Go.Proofs.YtoadlpdnpijnbaaDoor

namespace Go.Proofs.YtoadlpdnpijnbaaDoor
open Go.RowKit

structure Gate.UncovRest (ts : List Tm) (rs : List Rl) (r : Rl) (x : Ac) : Prop where
  nm : x.nm = r.px
  kd : if r.kd.toList.isEmpty = true then ∃ k, x.kd = Gate.numbered Gate.letterK k ∧ Gate.IsFree Gate.letterK (rs.map Rl.kd) k else x.kd = r.kd
  tm : if r.tm.toList.isEmpty = true then ∃ k, x.tm = Gate.numbered Gate.letterT k ∧ Gate.IsFree Gate.letterT (ts.map Tm.nm ++ rs.map Rl.tm) k else x.tm = r.tm

set_option maxHeartbeats 2000000 in
theorem implUncovered_yes (ta : Option Addr) (tcap : Nat) (ts : List Tm) (ra : Option Addr) (rcap : Nat) (rs : List Rl) (r : Rl) (a : Option Addr) (cap : Nat) (w : World) (hw : TmsAt w ta ts) (hr : RlsAt w ra rs) (hm : r.Small) (hi : IntsAt w a r.vs) (hok : Gate.teamsOk ts = true) (hro : Gate.ruleOk r = true) (hrs : Gate.rulesOk rs = true) (hno : ¬ Gate.leftBits ts rs r = 0) (htab : TabW w) (hlm : ts.length + rs.length < 2305843009213693952) :
    Calls Tryd.prog 12 #[.slice ta ts.length tcap, .slice ra rs.length rcap, .agg (r.cells a cap)] w fun e w' => (∃ x : Ac, e = .returned (.tuple #[.agg x.cells, .bool true]) ∧ x.vb = Gate.low (Gate.lacksAt ts rs r) ∧ Gate.UncovRest ts rs r x) ∧ Below w.heap.size w w' := by
  have HB : Hid (∀ o1 o2, Below w.heap.size w ((w.alloc o1).alloc o2)) := fun _ _ => ((Below.refl _ _).alloc (Nat.le_refl _) _).alloc (by simp) _
  have HT : Hid (TmsAt w ta ts) := hw
  have HR : Hid (RlsAt w ra rs) := hr
  have HI : Hid (IntsAt w a r.vs) := hi
  have HM : Hid r.Small := hm
  have HK : Hid (Gate.teamsOk ts = true) := hok
  have HRo : Hid (Gate.ruleOk r = true) := hro
  have HRs : Hid (Gate.rulesOk rs = true) := hrs
  have HV : Hid (Gate.verbsOk r.vs = true) := Gate.ruleOk_verbs hro
  have HL : Hid (¬ Gate.leftBits ts rs r = 0) := hno
  have HTB : Hid (TabW w) := htab
  have HLM : Hid (ts.length + rs.length < 2305843009213693952) := hlm
  have hz0 : (Gate.leftBits ts rs r == 0) = false := by simpa using hno
  clear hw hr hi hm hok hro hrs hno htab hlm
  unfold Rl.cells
  go_enter Tryd.func12, Tryd.ntmps12
  go_wp2_with fail
  refine (as_bool HK.out (implTeamsOk_any _ _ ts _ (HT.out.mono (HB.out _ _)))).mono ?_
  rintro e w1 ⟨rfl, hb1⟩
  have HB1 : Hid (Below w.heap.size w w1) := (HB.out _ _).trans (hb1.mono (by simp; omega))
  have HR1 : Hid (_) := res_later hb1
  have hX1 := box_later (box_new w _ _) (by simp) (((Below.refl _ _).alloc (Nat.le_refl _) _).trans (hb1.mono (by simp)))
  have hz1 : w.heap.size + 1 < w1.heap.size := by have := hb1.size; simp at this; omega
  clear hb1
  go_wp2_with fail
  refine (as_bool HRo.out (isRule_any r _ _ _ HM.out (HI.out.mono HB1.out))).mono ?_
  rintro e w2 ⟨rfl, hb2⟩
  have HB2 : Hid (Below w.heap.size w w2) := HB1.out.trans (hb2.mono HB1.out.size)
  have HR2 : Hid (_) := (hb2.block _ hz1).trans HR1.out
  have hX2 := box_later hX1 (Nat.lt_of_succ_lt hz1) hb2
  have hz2 := Nat.lt_of_lt_of_le hz1 hb2.size
  clear hb2 hX1 hz1 HR1
  go_wp2_with fail
  refine (as_bool HRs.out (areRules_any _ _ rs _ (HR.out.mono HB2.out))).mono ?_
  rintro e w3 ⟨rfl, hb3⟩
  have HB3 : Hid (Below w.heap.size w w3) := HB2.out.trans (hb3.mono HB2.out.size)
  have HR3 : Hid (_) := (hb3.block _ hz2).trans HR2.out
  have hX3 := box_later hX2 (Nat.lt_of_succ_lt hz2) hb3
  have hz3 := Nat.lt_of_lt_of_le hz2 hb3.size
  clear hb3 hX2 hz2 HR2
  go_wp2_with fail
  refine (uncovered_any _ _ ts _ _ rs r _ _ _ (HT.out.mono HB3.out) (HR.out.mono HB3.out) HM.out (HI.out.mono HB3.out) HV.out HRs.out).mono ?_
  rintro e w4 ⟨rfl, hb4⟩
  have HB4 : Hid (Below w.heap.size w w4) := HB3.out.trans (hb4.mono HB3.out.size)
  have HR4 : Hid (_) := (hb4.block _ hz3).trans HR3.out
  have hX4 := box_later hX3 (Nat.lt_of_succ_lt hz3) hb4
  have hz4 := Nat.lt_of_lt_of_le hz3 hb4.size
  clear hb4 hX3 hz3 HR3
  go_wp2_with fail
  have HF : Hid (∀ W, Calls Tryd.prog 34 #[.int .u8 (Gate.leftBits ts rs r)] W fun x w' => x = .returned (.int .i64 (Gate.low (Gate.lacksAt ts rs r))) ∧ w' = W) := fun W => first_any (Gate.lacksAt ts rs r) W
  have hX : ∀ j, w4.drew.cell? ⟨w.heap.size, j, none⟩ = (#[.slice a r.vs.length cap, .string r.kd, .string r.tm, .string r.px] : Array Value)[j]? := hX4
  have HX4 : Hid (∀ j, w4.cell? ⟨w.heap.size, j, none⟩ = (#[.slice a r.vs.length cap, .string r.kd, .string r.tm, .string r.px] : Array Value)[j]?) := hX4
  clear hX4
  go_region_held3 (fun w' => ∀ j, w'.cell? ⟨w.heap.size, j, none⟩ = (#[.slice a r.vs.length cap, .string r.kd, .string r.tm, .string r.px] : Array Value)[j]?) (first | exact hX | exact box_later HX4.out (Nat.lt_of_succ_lt hz4) (((Below.refl _ _).alloc (Nat.le_refl _) _).drew)) (first
    | (go_at_call 34; refine (HF.out _).mono ?_; rintro e w5 ⟨rfl, rfl⟩))
  all_goals (
    have HB5 : Hid (Below w.heap.size w (w4.alloc (.cells #[.int .i64 (Gate.low (Gate.lacksAt ts rs r)), .string r.kd, .string r.tm, .string r.px] 31)).drew) := (HB4.out.alloc HB4.out.size _).drew
    have HA5 : Hid (((w4.alloc (.cells #[.int .i64 (Gate.low (Gate.lacksAt ts rs r)), .string r.kd, .string r.tm, .string r.px] 31)).drew).heap[w4.heap.size]? = some (.cells #[.int .i64 (Gate.low (Gate.lacksAt ts rs r)), .string r.kd, .string r.tm, .string r.px] 31)) := Array.getElem?_push_size
    have HR5 : Hid (((w4.alloc (.cells #[.int .i64 (Gate.low (Gate.lacksAt ts rs r)), .string r.kd, .string r.tm, .string r.px] 31)).drew).heap[w.heap.size + 1]? = _) := ((((Below.refl w4.heap.size w4).alloc (Nat.le_refl _) _).drew).block _ hz4).trans HR4.out
    have hz5 : w4.heap.size < ((w4.alloc (.cells #[.int .i64 (Gate.low (Gate.lacksAt ts rs r)), .string r.kd, .string r.tm, .string r.px] 31)).drew).heap.size := by show w4.heap.size < (w4.heap.push _).size; simp
    obtain ⟨W5, hW5⟩ : ∃ W5, W5 = (w4.alloc (.cells #[.int .i64 (Gate.low (Gate.lacksAt ts rs r)), .string r.kd, .string r.tm, .string r.px] 31)).drew := ⟨_, rfl⟩
    rw [← hW5] at HB5 HA5 HR5 hz5 ⊢
    clear hW5
    have hAc := fun j => cell_of_block (o := j) HA5.out
    have hAf := fun j => frozen_of_block (o := j) HA5.out
    have hRc := fun j => cell_of_block (o := j) HR5.out
    have hRf := fun j => frozen_of_block (o := j) HR5.out
    by_cases hk : r.kd.toList.isEmpty = true
    · have HK1 : Hid (r.kd.toList.isEmpty = true) := hk
      by_cases ht : r.tm.toList.isEmpty = true
      · have HT1 : Hid (r.tm.toList.isEmpty = true) := ht
        go_wp2_with fail
        refine (freeKind_any _ _ rs _ (HR.out.mono HB5.out) (by have := HLM.out; omega) (HTB.out.mono HB5.out)).mono ?_
        rintro e w6 ⟨⟨jk, rfl, hjk⟩, hb6⟩
        obtain ⟨kn, HKN⟩ : ∃ kn, Hid (kn = Gate.numbered Gate.letterK jk) := ⟨_, rfl⟩
        rw [← HKN.out]
        have HJK : Hid (Gate.IsFree Gate.letterK (rs.map Rl.kd) jk) := hjk
        have HB6 : Hid (Below w.heap.size w (w6.setCell ⟨w4.heap.size, 1, none⟩ (.string kn))) := (HB5.out.trans (hb6.mono HB5.out.size)).setCell HB4.out.size _
        have HA6 : Hid (w6.heap[w4.heap.size]? = some (.cells #[.int .i64 (Gate.low (Gate.lacksAt ts rs r)), .string r.kd, .string r.tm, .string r.px] 31)) := (hb6.block _ hz5).trans HA5.out
        have HR6 : Hid (w6.heap[w.heap.size + 1]? = some (.cells #[.int .i64 0, .string ByteArray.empty, .string ByteArray.empty, .string ByteArray.empty] 31)) := (hb6.block _ (Nat.lt_trans hz4 hz5)).trans HR5.out
        have hz6 : w4.heap.size < (w6.setCell ⟨w4.heap.size, 1, none⟩ (.string kn)).heap.size := by rw [World.size_setCell]; exact Nat.lt_of_lt_of_le hz5 hb6.size
        have HA6' : Hid ((w6.setCell ⟨w4.heap.size, 1, none⟩ (.string kn)).heap[w4.heap.size]? = some (.cells #[.int .i64 (Gate.low (Gate.lacksAt ts rs r)), .string kn, .string r.tm, .string r.px] 31)) := heap_setCell_at HA6.out _
        have HR6' : Hid ((w6.setCell ⟨w4.heap.size, 1, none⟩ (.string kn)).heap[w.heap.size + 1]? = some (.cells #[.int .i64 0, .string ByteArray.empty, .string ByteArray.empty, .string ByteArray.empty] 31)) := (setCell_other (Nat.ne_of_lt hz4)).trans HR6.out
        clear hb6 hjk
        have hAc6 := fun j => cell_of_block (o := j) HA6.out
        have hAf6 := fun j => frozen_of_block (o := j) HA6.out
        have hRc6 := fun j => cell_of_block (o := j) HR6.out
        have hRf6 := fun j => frozen_of_block (o := j) HR6.out
        have hAc7 := fun j => cell_of_block (o := j) HA6'.out
        have hAf7 := fun j => frozen_of_block (o := j) HA6'.out
        have hRc7 := fun j => cell_of_block (o := j) HR6'.out
        have hRf7 := fun j => frozen_of_block (o := j) HR6'.out
        go_wp2_with fail
        refine (freeTeam_any _ _ ts _ _ rs _ (HT.out.mono HB6.out) (HR.out.mono HB6.out) HLM.out (HTB.out.mono HB6.out)).mono ?_
        rintro e w8 ⟨⟨jt, rfl, hjt⟩, hb8⟩
        obtain ⟨tn, HTN⟩ : ∃ tn, Hid (tn = Gate.numbered Gate.letterT jt) := ⟨_, rfl⟩
        rw [← HTN.out]
        have HJT : Hid (Gate.IsFree Gate.letterT (ts.map Tm.nm ++ rs.map Rl.tm) jt) := hjt
        have HB8 : Hid (Below w.heap.size w (w8.setCell ⟨w4.heap.size, 2, none⟩ (.string tn))) := (HB6.out.trans (hb8.mono HB6.out.size)).setCell HB4.out.size _
        have HA8 : Hid (w8.heap[w4.heap.size]? = some (.cells #[.int .i64 (Gate.low (Gate.lacksAt ts rs r)), .string kn, .string r.tm, .string r.px] 31)) := (hb8.block _ hz6).trans HA6'.out
        have HR8 : Hid (w8.heap[w.heap.size + 1]? = some (.cells #[.int .i64 0, .string ByteArray.empty, .string ByteArray.empty, .string ByteArray.empty] 31)) := (hb8.block _ (Nat.lt_trans hz4 hz6)).trans HR6'.out
        have HA8' : Hid ((w8.setCell ⟨w4.heap.size, 2, none⟩ (.string tn)).heap[w4.heap.size]? = some (.cells #[.int .i64 (Gate.low (Gate.lacksAt ts rs r)), .string kn, .string tn, .string r.px] 31)) := heap_setCell_at HA8.out _
        have HR8' : Hid ((w8.setCell ⟨w4.heap.size, 2, none⟩ (.string tn)).heap[w.heap.size + 1]? = some (.cells #[.int .i64 0, .string ByteArray.empty, .string ByteArray.empty, .string ByteArray.empty] 31)) := (setCell_other (Nat.ne_of_lt hz4)).trans HR8.out
        clear hb8 hjt
        have hAc8 := fun j => cell_of_block (o := j) HA8.out
        have hAf8 := fun j => frozen_of_block (o := j) HA8.out
        have hRc8 := fun j => cell_of_block (o := j) HR8.out
        have hRf8 := fun j => frozen_of_block (o := j) HR8.out
        have hAc9 := fun j => cell_of_block (o := j) HA8'.out
        have hAf9 := fun j => frozen_of_block (o := j) HA8'.out
        have hRc9 := fun j => cell_of_block (o := j) HR8'.out
        have hRf9 := fun j => frozen_of_block (o := j) HR8'.out
        go_wp2_with fail
        refine bodyPost_ret (v := (.tuple #[.agg #[.int .i64 (Gate.low (Gate.lacksAt ts rs r)), .string kn, .string tn, .string r.px], .bool true])) (by simp [results, Tryd.results12, go_sem, hRc9]) rfl ?_
        exact ⟨⟨⟨_, kn, tn, r.px⟩, rfl, rfl, ⟨rfl, by rw [if_pos HK1.out]; exact ⟨jk, HKN.out, HJK.out⟩, by rw [if_pos HT1.out]; exact ⟨jt, HTN.out, HJT.out⟩⟩⟩, act4_below HB8.out (Nat.le_succ _) _ _ _ _⟩
      · have ht' : r.tm.toList.isEmpty = false := by simpa using ht
        have HT1 : Hid (r.tm.toList.isEmpty = false) := ht'
        clear ht
        go_wp2_with fail
        refine (freeKind_any _ _ rs _ (HR.out.mono HB5.out) (by have := HLM.out; omega) (HTB.out.mono HB5.out)).mono ?_
        rintro e w6 ⟨⟨jk, rfl, hjk⟩, hb6⟩
        obtain ⟨kn, HKN⟩ : ∃ kn, Hid (kn = Gate.numbered Gate.letterK jk) := ⟨_, rfl⟩
        rw [← HKN.out]
        have HJK : Hid (Gate.IsFree Gate.letterK (rs.map Rl.kd) jk) := hjk
        have HB6 : Hid (Below w.heap.size w (w6.setCell ⟨w4.heap.size, 1, none⟩ (.string kn))) := (HB5.out.trans (hb6.mono HB5.out.size)).setCell HB4.out.size _
        have HA6 : Hid (w6.heap[w4.heap.size]? = some (.cells #[.int .i64 (Gate.low (Gate.lacksAt ts rs r)), .string r.kd, .string r.tm, .string r.px] 31)) := (hb6.block _ hz5).trans HA5.out
        have HR6 : Hid (w6.heap[w.heap.size + 1]? = some (.cells #[.int .i64 0, .string ByteArray.empty, .string ByteArray.empty, .string ByteArray.empty] 31)) := (hb6.block _ (Nat.lt_trans hz4 hz5)).trans HR5.out
        have hz6 : w4.heap.size < (w6.setCell ⟨w4.heap.size, 1, none⟩ (.string kn)).heap.size := by rw [World.size_setCell]; exact Nat.lt_of_lt_of_le hz5 hb6.size
        have HA6' : Hid ((w6.setCell ⟨w4.heap.size, 1, none⟩ (.string kn)).heap[w4.heap.size]? = some (.cells #[.int .i64 (Gate.low (Gate.lacksAt ts rs r)), .string kn, .string r.tm, .string r.px] 31)) := heap_setCell_at HA6.out _
        have HR6' : Hid ((w6.setCell ⟨w4.heap.size, 1, none⟩ (.string kn)).heap[w.heap.size + 1]? = some (.cells #[.int .i64 0, .string ByteArray.empty, .string ByteArray.empty, .string ByteArray.empty] 31)) := (setCell_other (Nat.ne_of_lt hz4)).trans HR6.out
        clear hb6 hjk
        have hAc6 := fun j => cell_of_block (o := j) HA6.out
        have hAf6 := fun j => frozen_of_block (o := j) HA6.out
        have hRc6 := fun j => cell_of_block (o := j) HR6.out
        have hRf6 := fun j => frozen_of_block (o := j) HR6.out
        have hAc7 := fun j => cell_of_block (o := j) HA6'.out
        have hAf7 := fun j => frozen_of_block (o := j) HA6'.out
        have hRc7 := fun j => cell_of_block (o := j) HR6'.out
        have hRf7 := fun j => frozen_of_block (o := j) HR6'.out
        go_wp2_with fail
        refine bodyPost_ret (v := (.tuple #[.agg #[.int .i64 (Gate.low (Gate.lacksAt ts rs r)), .string kn, .string r.tm, .string r.px], .bool true])) (by simp [results, Tryd.results12, go_sem, hRc7]) rfl ?_
        exact ⟨⟨⟨_, kn, r.tm, r.px⟩, rfl, rfl, ⟨rfl, by rw [if_pos HK1.out]; exact ⟨jk, HKN.out, HJK.out⟩, by rw [if_neg (by rw [HT1.out]; simp)]⟩⟩, act4_below HB6.out (Nat.le_succ _) _ _ _ _⟩
    · have hk' : r.kd.toList.isEmpty = false := by simpa using hk
      have HK1 : Hid (r.kd.toList.isEmpty = false) := hk'
      clear hk
      by_cases ht : r.tm.toList.isEmpty = true
      · have HT1 : Hid (r.tm.toList.isEmpty = true) := ht
        go_wp2_with fail
        refine (freeTeam_any _ _ ts _ _ rs _ (HT.out.mono HB5.out) (HR.out.mono HB5.out) HLM.out (HTB.out.mono HB5.out)).mono ?_
        rintro e w8 ⟨⟨jt, rfl, hjt⟩, hb8⟩
        obtain ⟨tn, HTN⟩ : ∃ tn, Hid (tn = Gate.numbered Gate.letterT jt) := ⟨_, rfl⟩
        rw [← HTN.out]
        have HJT : Hid (Gate.IsFree Gate.letterT (ts.map Tm.nm ++ rs.map Rl.tm) jt) := hjt
        have HB8 : Hid (Below w.heap.size w (w8.setCell ⟨w4.heap.size, 2, none⟩ (.string tn))) := (HB5.out.trans (hb8.mono HB5.out.size)).setCell HB4.out.size _
        have HA8 : Hid (w8.heap[w4.heap.size]? = some (.cells #[.int .i64 (Gate.low (Gate.lacksAt ts rs r)), .string r.kd, .string r.tm, .string r.px] 31)) := (hb8.block _ hz5).trans HA5.out
        have HR8 : Hid (w8.heap[w.heap.size + 1]? = some (.cells #[.int .i64 0, .string ByteArray.empty, .string ByteArray.empty, .string ByteArray.empty] 31)) := (hb8.block _ (Nat.lt_trans hz4 hz5)).trans HR5.out
        have HA8' : Hid ((w8.setCell ⟨w4.heap.size, 2, none⟩ (.string tn)).heap[w4.heap.size]? = some (.cells #[.int .i64 (Gate.low (Gate.lacksAt ts rs r)), .string r.kd, .string tn, .string r.px] 31)) := heap_setCell_at HA8.out _
        have HR8' : Hid ((w8.setCell ⟨w4.heap.size, 2, none⟩ (.string tn)).heap[w.heap.size + 1]? = some (.cells #[.int .i64 0, .string ByteArray.empty, .string ByteArray.empty, .string ByteArray.empty] 31)) := (setCell_other (Nat.ne_of_lt hz4)).trans HR8.out
        clear hb8 hjt
        have hAc8 := fun j => cell_of_block (o := j) HA8.out
        have hAf8 := fun j => frozen_of_block (o := j) HA8.out
        have hRc8 := fun j => cell_of_block (o := j) HR8.out
        have hRf8 := fun j => frozen_of_block (o := j) HR8.out
        have hAc9 := fun j => cell_of_block (o := j) HA8'.out
        have hAf9 := fun j => frozen_of_block (o := j) HA8'.out
        have hRc9 := fun j => cell_of_block (o := j) HR8'.out
        have hRf9 := fun j => frozen_of_block (o := j) HR8'.out
        go_wp2_with fail
        refine bodyPost_ret (v := (.tuple #[.agg #[.int .i64 (Gate.low (Gate.lacksAt ts rs r)), .string r.kd, .string tn, .string r.px], .bool true])) (by simp [results, Tryd.results12, go_sem, hRc9]) rfl ?_
        exact ⟨⟨⟨_, r.kd, tn, r.px⟩, rfl, rfl, ⟨rfl, by rw [if_neg (by rw [HK1.out]; simp)], by rw [if_pos HT1.out]; exact ⟨jt, HTN.out, HJT.out⟩⟩⟩, act4_below HB8.out (Nat.le_succ _) _ _ _ _⟩
      · have ht' : r.tm.toList.isEmpty = false := by simpa using ht
        have HT1 : Hid (r.tm.toList.isEmpty = false) := ht'
        clear ht
        go_wp2_with fail
        refine bodyPost_ret (v := (.tuple #[.agg #[.int .i64 (Gate.low (Gate.lacksAt ts rs r)), .string r.kd, .string r.tm, .string r.px], .bool true])) (by simp [results, Tryd.results12, go_sem, hRc]) rfl ?_
        exact ⟨⟨⟨_, r.kd, r.tm, r.px⟩, rfl, rfl, ⟨rfl, by rw [if_neg (by rw [HK1.out]; simp)], by rw [if_neg (by rw [HT1.out]; simp)]⟩⟩, act4_below HB5.out (Nat.le_succ _) _ _ _ _⟩)

end Go.Proofs.YtoadlpdnpijnbaaDoor

namespace Go.Proofs.YtoadlpdnpijnbaaDoor
open Go.RowKit

set_option maxHeartbeats 400000 in
theorem l1Has_any (a : Option Addr) (cap : Nat) (ws : List ByteArray) (v : ByteArray) (w : World) (hw : StrsAt w a ws) :
    Calls Tryd.prog 53 #[.slice a ws.length cap, .string v] w fun e w' => e = .returned (.bool (Gate.has ws v)) ∧ w' = w := by
  have hl := hw.len
  unfold maxLen at hl
  by_cases hne : ws = []
  · subst hne
    go_enter Tryd.func53, Tryd.ntmps53
    go_wp2
    go_loop [5] (fun i => i = .int .i64 0) (fun i => 0)
    case atStart => rfl
    case round =>
      subst hrel
      go_wp2
      go_ret
      exact ⟨rfl, rfl⟩
  · obtain ⟨b, off, rfl, hb, hc⟩ := hw.cells hne
    clear hw
    have HL : Hid (0 < ws.length) := List.length_pos_iff.2 hne
    clear hne
    go_enter Tryd.func53, Tryd.ntmps53
    go_wp2
    go_loop [5] (fun i => ∃ k : Nat, k ≤ ws.length ∧ i = .int .i64 k ∧ Gate.has (ws.take k) v = false) (fun i => ws.length - (intOf i).toNat)
    case atStart => exact ⟨0, Nat.zero_le _, rfl, rfl⟩
    case round =>
      obtain ⟨k, hk, rfl, hall⟩ := hrel
      by_cases hlt : k < ws.length
      · have hck := hc k hlt
        clear hc
        have HS : Hid (Gate.has (ws.take (k + 1)) v = (false || decide (ws[k] = v))) := by rw [Gate.has_snoc ws v k hlt, hall]; rfl
        have HN : Hid (ws[k] = v → Gate.has ws v = true) := fun h => Gate.has_at ws v k hlt h
        clear hall
        by_cases he : ws[k] = v
        · have hbe : (ws[k].toList == v.toList) = true := by rw [Gate.beq_toList]; simpa using he
          have HE : Hid (ws[k] = v) := he
          clear he
          go_wp2
          go_ret
          exact ⟨ret_bool (HN.out HE.out).symm, rfl⟩
        · have hbe : (ws[k].toList == v.toList) = false := by rw [Gate.beq_toList]; simpa using he
          have HE : Hid (¬ ws[k] = v) := he
          clear he
          go_wp2
          go_round
          case rel => exact ⟨k + 1, by omega, by go_num, by rw [HS.out, decide_eq_false HE.out]; rfl⟩
          case measure => simp [intOf]; omega
      · have HA : Hid (Gate.has ws v = false) := by rw [← Gate.has_all ws v k (by omega)]; exact hall
        clear hall hc
        go_wp2
        go_ret
        exact ⟨ret_bool HA.out.symm, rfl⟩

end Go.Proofs.YtoadlpdnpijnbaaDoor

namespace Go.Proofs.YtoadlpdnpijnbaaDoor
open Go.RowKit

/-- What spec.l4Dec answers. -/
def DecIs (n : Nat) : Prop := ∀ w : World, Calls Tryd.prog 44 #[.int .i64 (n : Int)] w fun e w' => e = .returned (.string ⟨(Lib.decDigits n).toArray⟩) ∧ Below w.heap.size w w'

theorem Gate.has_iff (ws : List ByteArray) (v : ByteArray) : Gate.has ws v = true ↔ v ∈ ws := by
  unfold Gate.has
  rw [List.any_eq_true]
  exact ⟨fun ⟨x, hx, he⟩ => by have e : x = v := by simpa using he
                               rw [← e]; exact hx, fun h => ⟨v, h, by simp⟩⟩

set_option maxHeartbeats 1000000 in
theorem l4New_any (hdec : ∀ n, n < 4611686018427387904 → DecIs n) (l : ByteArray) (a : Option Addr) (cap : Nat) (L : List ByteArray) (w : World) (hw : StrsAt w a L) (hlen : L.length < 2305843009213693952) (hl : l.size ≤ 1) :
    Calls Tryd.prog 27 #[.string l, .slice a L.length cap] w fun e w' => (∃ k, e = .returned (.string (Gate.numbered l k)) ∧ Gate.IsFree l L k) ∧ Below w.heap.size w w' := by
  have HN : Hid (L.length < 2305843009213693952) := hlen
  have HD0 : Hid (∀ n, n < 4611686018427387904 → DecIs n) := hdec
  have HW : Hid (StrsAt w a L) := hw
  clear hlen hdec hw
  go_enter Tryd.func27, Tryd.ntmps27
  go_wp2_with fail
  go_loopw [5] (fun n wr => ∃ k : Nat, n = .int .i64 k ∧ Hid (∀ j, j < k → Gate.numbered l j ∈ L) ∧ Below w.heap.size w wr) (fun n _ => L.length + 1 - (intOf n).toNat)
  case atStart => exact ⟨0, rfl, fun j hj => by omega, Below.refl _ _⟩
  case round =>
    obtain ⟨k, rfl, hall, hB⟩ := hrel
    have hk : k < 4611686018427387904 := by have := Gate.numbered_le k L hall.out; have := HN.out; omega
    have HK : Hid (k ≤ L.length) := Gate.numbered_le k L hall.out
    obtain ⟨d, HD⟩ : ∃ d : ByteArray, Hid (⟨(Lib.decDigits k).toArray⟩ = d) := ⟨_, rfl⟩
    have HC : Hid (∀ W, Below wr.heap.size wr W → Calls Tryd.prog 44 #[.int .i64 (k : Int)] W fun e w' => e = .returned (.string d) ∧ Below wr.heap.size wr w') := fun W hW => by
      rw [← HD.out]
      refine (HD0.out k hk W).mono ?_
      rintro e w' ⟨rfl, hb⟩
      exact ⟨rfl, hW.trans (hb.mono hW.size)⟩
    have hkI : (k : Int) < 4611686018427387904 := by omega
    have hsz : l.size + d.size ≤ 9223372036854775807 := by
      have h1 := Lib.itoa_length_le (k : Int) (by omega) (by omega)
      rw [Lib.itoa_nonneg] at h1
      have h2 : d.size ≤ 21 := by rw [← HD.out]; simpa [ByteArray.size] using h1
      omega
    obtain ⟨s, hs, HS⟩ : ∃ s : ByteArray, (∀ W, (Op.stringOp .add l d).run Tryd.prog W = .ok (.string s) W) ∧ Hid (s = Gate.numbered l k) := ⟨l ++ d, fun W => run_string_add_sum W _ _ hsz, by rw [← HD.out]; rfl⟩
    have HL : Hid (∀ w2 b, Gate.has L s = b → Below wr.heap.size wr w2 → Calls Tryd.prog 53 #[.slice a L.length cap, .string s] w2 fun e w' => e = .returned (.bool b) ∧ w' = w2) := fun w2 b hb h => by
      rw [← hb]; exact l1Has_any a cap L s w2 (HW.out.mono (hB.trans (h.mono hB.size)))
    clear hsz hk
    by_cases hv : Gate.has L s = true
    · have HY : Hid (Gate.numbered l k ∈ L) := by unfold Hid; rw [← HS.out]; exact (Gate.has_iff _ _).1 hv
      have HV : Hid (Gate.has L s = true) := hv
      clear hv
      go_wp2_with fail
      refine (HC.out _ (Below.refl _ _)).mono ?_
      rintro e w2 ⟨rfl, hb2⟩
      have HB2 : Hid (Below wr.heap.size wr w2) := hb2
      clear hb2
      go_wp2_with fail
      refine (HL.out _ _ HV.out HB2.out).mono ?_
      rintro e w3 ⟨rfl, rfl⟩
      go_wp2_with fail
      refine ⟨⟨k + 1, by go_num, fun j hj => ?_, hB.trans (HB2.out.mono hB.size)⟩, by simp [intOf]; have := HK.out; omega⟩
      rcases Nat.lt_or_ge j k with h | h
      · exact hall.out j h
      · have e : j = k := by omega
        subst e; exact HY.out
    · have hv' : Gate.has L s = false := by simpa using hv
      have HY : Hid (Gate.numbered l k ∉ L) := by unfold Hid; rw [← HS.out]; exact fun h => hv ((Gate.has_iff _ _).2 h)
      have HZ : Hid (Gate.IsFree l L k ∧ s = Gate.numbered l k ∧ ∀ w3, Below wr.heap.size wr w3 → Below w.heap.size w w3) := ⟨⟨HY.out, hall.out⟩, HS.out, fun w3 h => hB.trans (h.mono hB.size)⟩
      have HV : Hid (Gate.has L s = false) := hv'
      clear hv hv' HN HD0 HW HK hall HS HD hkI hl hB HY
      go_wp2_with fail
      refine (HC.out _ (Below.refl _ _)).mono ?_
      rintro e w2 ⟨rfl, hb2⟩
      have HB2 : Hid (Below wr.heap.size wr w2) := hb2
      clear hb2
      go_wp2_with fail
      refine (HL.out _ _ HV.out HB2.out).mono ?_
      rintro e w3 ⟨rfl, rfl⟩
      go_wp2_with fail
      refine (HC.out _ HB2.out).mono ?_
      rintro e w4 ⟨rfl, hb4⟩
      go_wp2_with fail
      go_ret
      exact ⟨⟨k, by rw [← HZ.out.2.1]; rfl, HZ.out.1⟩, HZ.out.2.2 _ hb4⟩

end Go.Proofs.YtoadlpdnpijnbaaDoor
