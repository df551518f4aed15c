import Derived.Test.YtackfmeepggedaaDoorM39
import Derived.Test.YtackfmeepggedaaDoorM14
namespace Go.Proofs.YtackfmeepggedaaDoor
open Go.RowKit

theorem owns_cells {w : World} {lo : Nat} {e : TypeId} {sz g n cap : Nat} {xs : List Value} (h : w.ownsRow lo e sz (.slice (some ⟨g, 0, none⟩) n cap) n xs) : ∀ j u, xs[j]? = some u → w.cell? ⟨g, j, none⟩ = some u := fun j u hj => by
  have := h.cells rfl j u hj
  rwa [Addr.add_mid, Nat.zero_add] at this
theorem owns_heap {w : World} {lo : Nat} {e : TypeId} {sz g n cap : Nat} {xs : List Value} (h : w.ownsRow lo e sz (.slice (some ⟨g, 0, none⟩) n cap) n xs) : ∃ cur, w.heap[g]? = some (.cells cur e) := by
  obtain ⟨_, ⟨h0, _⟩ | ⟨g', cp, cur, e', _, h2, _⟩⟩ := h
  · cases h0
  · cases e'; exact ⟨cur, h2⟩
theorem rlDrew_dr {lo r : Nat} {w w' : World} {q : Rl} {g cap : Nat} (h : RlDrew lo w q g cap) (hd : Dr r w w') (hr : r < lo) : RlDrew lo w' q g cap := ⟨h.small, h.px, h.len, owns_dr h.own hd hr⟩
theorem rlDrew_low {lo lo' : Nat} {w : World} {q : Rl} {g cap : Nat} (h : RlDrew lo w q g cap) (hl : lo' ≤ lo) : RlDrew lo' w q g cap := ⟨h.small, h.px, h.len, ownsRow_low h.own hl⟩

set_option maxRecDepth 10000 in
set_option maxHeartbeats 4000000 in
theorem l5Rule_any (vs : List Int) (s1 s2 s3 : ByteArray) (g cap lo : Nat) (w : World) (hq : RlDrew lo w ⟨vs, s1, s2, s3⟩ g cap) :
    Calls Tryd.prog 15 #[.agg ((⟨vs, s1, s2, s3⟩ : Rl).cells (some ⟨g, 0, none⟩) cap)] w fun e w' => ∃ g' cap', e = .returned (.agg ((⟨vs, s1, s2, s3⟩ : Rl).cells (some ⟨g', 0, none⟩) cap')) ∧ RlDrew w.heap.size w' ⟨vs, s1, s2, s3⟩ g' cap' ∧ Below w.heap.size w w' := by
  obtain ⟨i0, hi, hz0, hz1', hz2⟩ := info_parts Tryd.infoInt
  have hlen := hq.len
  dsimp only at hlen
  have hg := (hq.own.lt g rfl).2
  have HQ : Hid (RlDrew lo w ⟨vs, s1, s2, s3⟩ g cap) := hq
  clear hq
  unfold Rl.cells
  dsimp only
  obtain ⟨W, hW⟩ : ∃ W, W = ((w.alloc (.cells #[.slice (some ⟨g, 0, none⟩) vs.length cap, .string s1, .string s2, .string s3] 27)).alloc (.cells #[.slice none 0 0, .string ⟨#[]⟩, .string ⟨#[]⟩, .string ⟨#[]⟩] 27)).alloc (.cells #[] 3) := ⟨_, rfl⟩
  have bW : Below w.heap.size w W := by rw [hW]; exact ((((Below.refl _ _).alloc (Nat.le_refl _) _).alloc (by simp) _).alloc (by simp; omega) _)
  have k0 : W.heap[w.heap.size]? = some (.cells #[.slice (some ⟨g, 0, none⟩) vs.length cap, .string s1, .string s2, .string s3] 27) := by rw [hW]; exact (Below.heap_alloc _ _ _ (by simp; omega)).trans ((Below.heap_alloc _ _ _ (by simp)).trans (MapKept.heap_alloc w _).1)
  have k1 : W.heap[w.heap.size + 1]? = some (.cells #[.slice none 0 0, .string ⟨#[]⟩, .string ⟨#[]⟩, .string ⟨#[]⟩] 27) := by rw [hW]; exact (Below.heap_alloc _ _ _ (by simp)).trans (at_2 _ _ _)
  have own0 : W.ownsRow (w.heap.size + 1 + 1) 3 1 (.slice (some ⟨w.heap.size + 1 + 1, 0, none⟩) 0 0) 0 [] := ⟨rfl, Or.inr ⟨w.heap.size + 1 + 1, 0, #[], rfl, Nat.le_refl _, by rw [hW]; exact alloc_atG (by simp), Nat.le_refl _, by simp [maxLen], rfl, rfl⟩⟩
  have hz : w.heap.size + 1 + 1 < W.heap.size := by rw [hW]; simp
  have news : ∀ j u, (vs.map (Value.int .i64))[j]? = some u → W.cell? ((⟨g, 0, none⟩ : Addr).add j) = some u := fun j u hj => by
    rw [Addr.add_mid, Nat.zero_add, bW.cell (p := ⟨g, j, none⟩) hg]
    exact owns_cells HQ.out.own j u hj
  have HW : Hid (W.ownsRow (w.heap.size + 1 + 1) 3 1 (.slice (some ⟨w.heap.size + 1 + 1, 0, none⟩) 0 0) 0 [] ∧ (∀ j u, (vs.map (Value.int .i64))[j]? = some u → W.cell? ((⟨g, 0, none⟩ : Addr).add j) = some u) ∧ Below w.heap.size w W) := ⟨own0, news, bW⟩
  have HK : Hid (W.heap[w.heap.size]? = _ ∧ W.heap[w.heap.size + 1]? = _) := ⟨k0, k1⟩
  clear own0 news bW k0 k1
  go_enter Tryd.func15, Tryd.ntmps15
  go_wp2_with (at_builtin; refine hold_here ?_)
  rw [← hW]
  clear hW
  show wpList _ _ _ _ _ _
  refine wpList_append_own _ rfl (.tmp 3) (.tmp 5) 25 rfl (w.heap.size + 1 + 1) 3 i0 (.int .i64 0) 1 8 Tryd.underlying25 hi hz0 hz1' hz2 rfl (by decide) (.slice (some ⟨w.heap.size + 1 + 1, 0, none⟩) 0 0) 0 _ rfl HW.out.1 ⟨g, 0, none⟩ vs.length cap (vs.map (Value.int .i64)) rfl (by simp) HW.out.2.1 (by intro u hu; simp at hu; obtain ⟨x, _, rfl⟩ := hu; rfl) (by unfold maxLen; omega) (by omega) (by omega) ?_
  intro v' w1 hown hgr hnil
  rw [Nat.zero_add, List.nil_append] at hown
  obtain ⟨g', cap', rfl⟩ := owns_some hown (fun e => by have := (hnil.1 e).1; cases this)
  have hgr' : ∀ k, k < w.heap.size + 1 + 1 → w1.heap[k]? = W.heap[k]? := fun k hk => grown_block hgr (by omega) (fun q hq => by cases hq; dsimp only; omega)
  have K0 := (hgr' w.heap.size (by omega)).trans HK.out.1
  have K1 := (hgr' (w.heap.size + 1) (by omega)).trans HK.out.2
  have hb1 : Below (w.heap.size + 1 + 1) W w1 := (Below.refl (w.heap.size + 1 + 1) W).grown hgr (by omega) (fun q hq => by cases hq; exact Nat.le_refl _)
  have HF : Hid (w1.ownsRow (w.heap.size + 1 + 1) 3 1 (.slice (some ⟨g', 0, none⟩) vs.length cap') vs.length (vs.map (Value.int .i64)) ∧ Below w.heap.size w w1) := ⟨hown, HW.out.2.2.trans (hb1.mono (by omega))⟩
  have cQ := fun j => cell_of_block (o := j) K0
  have fQ := fun j => frozen_of_block (o := j) K0
  have cR := fun j => cell_of_block (o := j) K1
  have fR := fun j => frozen_of_block (o := j) K1
  clear hown hgr hnil hgr' K0 K1 hb1 HK HW
  go_wp2_with fail
  refine bodyPost_ret (v := .agg #[.slice (some ⟨g', 0, none⟩) vs.length cap', .string s1, .string s2, .string s3]) (by simp [results, Tryd.results15, go_sem, cR]) rfl ⟨g', cap', rfl, ⟨HQ.out.small, HQ.out.px, HQ.out.len, ?_⟩, ?_⟩
  · refine ownsRow_low (base := w.heap.size + 1 + 1) ?_ (by omega)
    have hk : ∀ q, (Value.slice (some ⟨g', 0, none⟩) vs.length cap').ownBlock = some q → q ≠ w.heap.size + 1 := fun q hq => by have := (HF.out.1.lt q hq).1; omega
    have hk0 : ∀ q, (Value.slice (some ⟨g', 0, none⟩) vs.length cap').ownBlock = some q → q ≠ w.heap.size := fun q hq => by have := (HF.out.1.lt q hq).1; omega
    iterate 4 refine owns_set ?_ hk
    refine owns_set ?_ hk0
    exact HF.out.1
  · have h0 : w.heap.size ≤ w.heap.size := Nat.le_refl _
    have h1 : w.heap.size ≤ w.heap.size + 1 := Nat.le_succ _
    iterate 4 refine Below.setCell ?_ h1 _
    refine Below.setCell ?_ h0 _
    exact HF.out.2

structure RlEnt (lo : Nat) (w : World) (q : Rl) (g : Nat) (cap : Nat) : Prop where
  small : q.Small
  len : q.vs.length ≤ 5
  own : w.ownsRow lo 3 1 (.slice (some ⟨g, 0, none⟩) q.vs.length cap) q.vs.length (q.vs.map (Value.int .i64))
theorem rlEnt_of {lo : Nat} {w : World} {q : Rl} {g cap : Nat} (h : RlDrew lo w q g cap) : RlEnt lo w q g cap := ⟨h.small, h.len, h.own⟩
/-- A rule, and where its verbs lie. -/
structure RlE where
  q : Rl
  g : Nat
  cap : Nat
def RlE.row (x : RlE) : List Value := [.slice (some ⟨x.g, 0, none⟩) x.q.vs.length x.cap, .string x.q.kd, .string x.q.tm, .string x.q.px]
structure RuleRow (lo : Nat) (w : World) (a : Option Addr) (cap : Nat) (xs : List RlE) : Prop where
  own : w.ownsRow lo 27 4 (.slice a xs.length cap) xs.length (xs.flatMap RlE.row)
  each : ∀ x ∈ xs, RlEnt lo w x.q x.g x.cap
theorem ruleRow_dr {lo r : Nat} {w w' : World} {a : Option Addr} {cap : Nat} {xs : List RlE} (h : RuleRow lo w a cap xs) (hd : Dr r w w') (hr : r < lo) : RuleRow lo w' a cap xs :=
  ⟨owns_dr h.own hd hr, fun x hx => ⟨(h.each x hx).small, (h.each x hx).len, owns_dr (h.each x hx).own hd hr⟩⟩
theorem ruleRow_more {lo : Nat} {w w' : World} {a a' : Option Addr} {cap cap' : Nat} {xs : List RlE} {x : RlE} {o : Obj} (h : RuleRow lo w a cap xs) (hx : RlEnt lo w x.q x.g x.cap) (ho : w'.ownsRow lo 27 4 (.slice a' (xs.length + 1) cap') (xs.length + 1) (xs.flatMap RlE.row ++ x.row)) (hg : (w.alloc o).grownBy w' (Value.slice a xs.length cap).ownBlock) : RuleRow lo w' a' cap' (xs ++ [x]) := by
  refine ⟨by rw [List.length_append, List.flatMap_append]; simpa using ho, fun y hy => ?_⟩
  have hy' : RlEnt lo w y.q y.g y.cap := by
    rcases List.mem_append.1 hy with h1 | h1
    · exact h.each y h1
    · rw [List.mem_singleton.1 h1]; exact hx
  refine ⟨hy'.small, hy'.len, ownsRow_same hy'.own fun q hq => ?_⟩
  have hql := (hy'.own.lt q hq).2
  rw [grown_block hg (by simp; omega) (fun q' hq' e => ?_), Below.heap_alloc _ _ _ hql]
  subst e
  cases hq
  obtain ⟨c1, e1⟩ := owns_heap hy'.own
  obtain ⟨_, ⟨h0, _⟩ | ⟨g', cp, cur, e', _, h2, _⟩⟩ := h.own
  · rw [h0] at hq'; cases hq'
  · rw [e'] at hq'; cases hq'
    rw [e1] at h2
    simp at h2
theorem flat_at (xs : List RlE) (i j : Nat) (hi : i < xs.length) (hj : j < 4) : (xs.flatMap RlE.row)[i * 4 + j]? = xs[i].row[j]? := by
  induction xs generalizing i with
  | nil => simp at hi
  | cons y ys ih =>
    rw [List.flatMap_cons]
    rcases i with _ | i
    · rw [Nat.zero_mul, Nat.zero_add, List.getElem?_append_left (by simpa [RlE.row] using hj)]; rfl
    · rw [List.getElem?_append_right (by simp [RlE.row]; omega)]
      have e : (i + 1) * 4 + j - y.row.length = i * 4 + j := by simp [RlE.row]; omega
      rw [e, ih i (by simpa using hi)]; rfl
theorem ruleRow_at {lo r : Nat} {w : World} {a : Option Addr} {cap : Nat} {xs : List RlE} (h : RuleRow lo w a cap xs) (hr : r < lo) (hn : xs.length ≤ 1000) : RlsAt (clr r w) a (xs.map RlE.q) := by
  refine ⟨by simp [maxLen]; omega, fun hne => ?_⟩
  obtain ⟨_, ⟨_, h1⟩ | ⟨g, cp, cur, e, h1, h2, h3⟩⟩ := id h.own
  · exact absurd (List.length_eq_zero_iff.1 h1) (fun e => hne (by rw [e]; rfl))
  · cases e
    have hgr : g ≠ r := by omega
    refine ⟨g, 0, rfl, by rw [clr_size]; exact (Array.getElem?_eq_some_iff.1 h2).1, fun i hi => ?_⟩
    have hi' : i < xs.length := by simpa using hi
    have hd := h.each xs[i] (List.getElem_mem hi')
    refine ⟨some ⟨xs[i].g, 0, none⟩, xs[i].cap, ⟨?_, ?_, fun j hj => ?_⟩⟩
    · simpa using hd.small
    · have := owns_ints hd.own hr (by have := hd.len; unfold maxLen; omega)
      simpa using this
    · have e : (clr r w).cell? ⟨g, 0 + i * 4 + j, none⟩ = w.cell? ⟨g, i * 4 + j, none⟩ := by simp only [World.cell?, clr_other w hgr, Nat.zero_add]
      rw [e]
      have hs : xs[i].row[j]? = some (xs[i].row[j]'(by simpa [RlE.row] using hj)) := List.getElem?_eq_getElem _
      rw [owns_cells h.own (i * 4 + j) _ ((flat_at xs i j hi' hj).trans hs), ← hs]
      simp [RlE.row, Rl.cells]

end Go.Proofs.YtackfmeepggedaaDoor

namespace Go.Proofs.YtackfmeepggedaaDoor
open Go.RowKit

theorem dec_len (k : Nat) : (Lib.decDigits k).length ≤ k + 1 := by
  induction k using Nat.strongRecOn with
  | _ k ih =>
    rw [Lib.decDigits]
    split
    · simp
    · have := ih (k / 10) (by omega)
      rw [List.length_append, List.length_singleton]
      omega
theorem free_small {l : ByteArray} {L : List ByteArray} {k : Nat} (h : Gate.IsFree l L k) (hl : l.size ≤ 1) (hL : L.length ≤ 4611686018427387904) : (Gate.numbered l k).size ≤ maxLen := by
  have h1 := Gate.numbered_le k L h.ahead
  have h2 := dec_len k
  unfold Gate.numbered maxLen
  rw [ByteArray.size_append]
  have h3 : (⟨(Lib.decDigits k).toArray⟩ : ByteArray).size = (Lib.decDigits k).length := by simp [ByteArray.size]
  omega

theorem uncov_any (ta : Option Addr) (tcap : Nat) (ts : List Tm) (ra : Option Addr) (rcap : Nat) (rs : List Rl) (r : Rl) (a : Option Addr) (cap : Nat) (w : World) (hw : TmsAt w ta ts) (hr : RlsAt w ra rs) (hm : r.Small) (hi : IntsAt w a r.vs) (htab : TabW w) (hlm : ts.length + rs.length < 2305843009213693952) :
    Calls Tryd.prog 6 #[.slice ta ts.length tcap, .slice ra rs.length rcap, .agg (r.cells a cap)] w fun e w' => ∃ (x : Ac) (ok : Bool), e = .returned (.tuple #[.agg x.cells, .bool ok]) ∧ x.Small ∧ ok = (Gate.allOk ts rs r && !Gate.covers ts rs r) ∧ (ok = true → Gate.allows ts r x = true ∧ ∀ q ∈ rs, Gate.allows ts q x = false) ∧ Below w.heap.size w w' := by
  have hno : Gate.noAct.Small := ⟨by unfold maxLen; decide, by unfold maxLen; decide, by unfold maxLen; decide⟩
  by_cases h1 : Gate.teamsOk ts = true
  rotate_left
  · have h1' : Gate.teamsOk ts = false := Bool.eq_false_iff.2 h1
    refine (implUncovered_teams ta tcap ts ra rcap rs r a cap w hw h1').mono ?_
    rintro e w1 ⟨rfl, hb⟩
    exact ⟨Gate.noAct, false, rfl, hno, by unfold Gate.allOk; rw [h1']; rfl, (fun h => by cases h), hb⟩
  by_cases h2 : Gate.ruleOk r = true
  rotate_left
  · have h2' : Gate.ruleOk r = false := Bool.eq_false_iff.2 h2
    refine (implUncovered_rule ta tcap ts ra rcap rs r a cap w hw hr hm hi h1 h2').mono ?_
    rintro e w1 ⟨rfl, hb⟩
    exact ⟨Gate.noAct, false, rfl, hno, by unfold Gate.allOk; rw [h1, h2']; rfl, (fun h => by cases h), hb⟩
  by_cases h3 : Gate.rulesOk rs = true
  rotate_left
  · have h3' : Gate.rulesOk rs = false := Bool.eq_false_iff.2 h3
    refine (implUncovered_rules ta tcap ts ra rcap rs r a cap w hw hr hm hi h1 h2 h3').mono ?_
    rintro e w1 ⟨rfl, hb⟩
    exact ⟨Gate.noAct, false, rfl, hno, by unfold Gate.allOk; rw [h1, h2, h3']; rfl, (fun h => by cases h), hb⟩
  have hall : Gate.allOk ts rs r = true := by unfold Gate.allOk; rw [h1, h2, h3]; rfl
  by_cases h4 : Gate.leftBits ts rs r = 0
  · refine (implUncovered_none ta tcap ts ra rcap rs r a cap w hw hr hm hi h1 h2 h3 h4).mono ?_
    rintro e w1 ⟨rfl, hb⟩
    exact ⟨Gate.noAct, false, rfl, hno, by unfold Gate.covers; rw [hall, h4]; rfl, (fun h => by cases h), hb⟩
  · refine (implUncovered_yes ta tcap ts ra rcap rs r a cap w hw hr hm hi h1 h2 h3 h4 htab hlm).mono ?_
    rintro e w1 ⟨⟨x, rfl, hv, hx⟩, hb⟩
    have hcov : Gate.covers ts rs r = false := by
      unfold Gate.covers
      rw [hall, Bool.true_and, beq_eq_false_iff_ne]
      exact h4
    have hfree : Gate.FreeAct ts rs r x := by
      refine ⟨hx.nm, ?_, ?_⟩
      · have := hx.kd
        split at this
        · rename_i hk
          rw [if_pos hk]
          obtain ⟨k, e, hf⟩ := this
          rw [e]; exact hf.no
        · rename_i hk
          rw [if_neg hk]; exact this
      · have := hx.tm
        split at this
        · rename_i hk
          rw [if_pos hk]
          obtain ⟨k, e, hf⟩ := this
          rw [e]
          have h9 := hf.no
          rw [List.mem_append] at h9
          exact ⟨fun h => h9 (Or.inl h), fun h => h9 (Or.inr h)⟩
        · rename_i hk
          rw [if_neg hk]; exact this
    have hsm : x.Small := by
      refine ⟨?_, ?_, ?_⟩
      · have := hx.kd
        split at this
        · obtain ⟨k, e, hf⟩ := this
          rw [e]; exact free_small hf (by decide) (by simp; omega)
        · rw [this]; exact hm.kd
      · have := hx.tm
        split at this
        · obtain ⟨k, e, hf⟩ := this
          rw [e]; exact free_small hf (by decide) (by simp; omega)
        · rw [this]; exact hm.tm
      · rw [hx.nm]; exact hm.px
    exact ⟨x, true, rfl, hsm, by rw [hall, hcov]; rfl, fun _ => Gate.free_good h1 h2 h4 hv hfree, hb⟩

end Go.Proofs.YtackfmeepggedaaDoor
