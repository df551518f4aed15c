import Derived.Test.YtponiggfclcbgaaGreatM20
import Derived.ProofKit
namespace Go.Proofs.YtponiggfclcbgaaGreat
open Go.RowKit

namespace Gate
def readsI (s : Shp) (ms : List Mnd) (p : Nat) : List Int := ms.flatMap fun m => if turns m s p = true then (readNames m).map (fieldIx s.fs) else []
theorem readsI_snoc (s : Shp) (ms : List Mnd) (p k : Nat) (h : k < ms.length) : readsI s (ms.take (k + 1)) p = readsI s (ms.take k) p ++ if turns ms[k] s p = true then (readNames ms[k]).map (fieldIx s.fs) else [] := by
  unfold readsI
  rw [List.take_succ_eq_append_getElem h, List.flatMap_append]
  simp
theorem readNames_le (m : Mnd) : (readNames m).length ≤ 2 := List.length_filter_le _ _
theorem readsI_le (s : Shp) (p : Nat) : ∀ ms : List Mnd, (readsI s ms p).length ≤ ms.length * 2
  | [] => Nat.le_refl _
  | m :: ms => by
    have h1 := readsI_le s p ms
    have h2 := readNames_le m
    unfold readsI at h1 ⊢
    rw [List.flatMap_cons, List.length_append, List.length_cons]
    by_cases h : turns m s p = true
    · rw [if_pos h, List.length_map]; omega
    · rw [if_neg h, List.length_nil]; omega
end Gate

theorem rows_apart {w : World} {lo lo' : Nat} {e e' : TypeId} {v v' : Value} {n n' : Nat} {xs xs' : List Value} (h : w.ownsRow lo e 1 v n xs) (h' : w.ownsRow lo' e' 1 v' n' xs') (he : e ≠ e') : ∀ g, v.ownBlock = some g → ∀ g', v'.ownBlock = some g' → g ≠ g' := by
  intro g hg g' hg' hgg
  subst hgg
  obtain ⟨_, ⟨rfl, _⟩ | ⟨b, cap, cur, rfl, _, hh, _⟩⟩ := h
  · cases hg
  · obtain ⟨_, ⟨rfl, _⟩ | ⟨b', cap', cur', rfl, _, hh', _⟩⟩ := h'
    · cases hg'
    · have e1 : b = g := Option.some.inj hg
      have e2 : b' = g := Option.some.inj hg'
      rw [e1] at hh
      rw [e2, hh] at hh'
      simp only [Option.some.injEq, Obj.cells.injEq] at hh'
      exact he hh'.2.1

theorem ownsRow_slice {w : World} {lo : Nat} {e : TypeId} {v : Value} {n : Nat} {xs : List Value} (h : w.ownsRow lo e 1 v n xs) : ∃ a cap, v = .slice a n cap := by
  obtain ⟨_, ⟨rfl, h0⟩ | ⟨b, cap, cur, rfl, _⟩⟩ := h
  · exact ⟨none, 0, by rw [h0]⟩
  · exact ⟨_, cap, rfl⟩

def ints (l : List Int) : List Value := l.map (Value.int .i64)

set_option maxRecDepth 20000 in
set_option maxHeartbeats 4000000 in
theorem readsOf_any (s : Shp) (ms : List Mnd) (p bm bs : Nat) (ma fa : Option Addr) (mcap fcap : Nat) (w : World) (hm : MndsAt w ma ms) (hf : FldsAt w fa s.fs) (hp : p < s.fs.length) (hl : ms.length ≤ 1048576)
    (hbs : bs < w.heap.size) (hcm : w.cell? ⟨bm, 0, none⟩ = some (.slice ma ms.length mcap)) (hcs : ∀ j, w.cell? ⟨bs, j, none⟩ = (#[.string s.kd, .slice fa s.fs.length fcap] : Array Value)[j]?) :
    Calls Tryz.prog 87 #[.int .i64 p, .pointer (some ⟨bm, 0, none⟩), .pointer (some ⟨bs, 0, none⟩)] w fun e w' => ∃ v, e = .returned v ∧ w'.ownsRow w.heap.size 3 1 v (Gate.readsI s ms p).length (ints (Gate.readsI s ms p)) ∧ Below w.heap.size w w' := by
  obtain ⟨i0, hi, hz0, hz1', hz2⟩ := info_parts Tryz.infoInt
  have HM : Hid (MndsAt w ma ms) := hm
  have HF : Hid (FldsAt w fa s.fs) := hf
  clear hm hf
  go_enter Tryz.func87, Tryz.ntmps87
  go_wp2_with fail
  go_loopw [5, 12] (fun v0 iv wr => ∃ (k : Nat) (v : Value), v = v0 ∧ k ≤ ms.length ∧ iv = .int .i64 k ∧ wr.ownsRow w.heap.size 3 1 v (Gate.readsI s (ms.take k) p).length (ints (Gate.readsI s (ms.take k) p)) ∧ Below w.heap.size w wr) (fun _ iv _ => ms.length - (intOf iv).toNat)
  case atStart => exact ⟨0, _, rfl, Nat.zero_le _, rfl, World.ownsRow_nil _ _ _ _, Below.refl _ _⟩
  case round =>
    obtain ⟨k, v, hv, hk, rfl, hown, hB⟩ := hrel
    subst hv
    by_cases hlt : k < ms.length
    · obtain ⟨b, off, rfl, hb, c0, c1, c2, c3, c4, c5⟩ := HM.out.load hB k hlt
      have hltI : (k : Int) < (ms.length : Int) := by omega
      have hbw : b < wr.heap.size := Nat.lt_of_lt_of_le hb hB.size
      have hcsr := box_later hcs hbs hB
      have hbsr : bs < wr.heap.size := Nat.lt_of_lt_of_le hbs hB.size
      have HW : Hid (wr.ownsRow w.heap.size 3 1 v (Gate.readsI s (ms.take k) p).length (ints (Gate.readsI s (ms.take k) p))) := hown
      have HB : Hid (Below w.heap.size w wr) := hB
      clear hown hB
      go_wp2_with fail
      have hba := (Below.refl wr.heap.size wr).alloc (Nat.le_refl _) (.cells #[.string ms[k].kd, .string ms[k].fd, .string ms[k].wh, .string ms[k].wi, .string ms[k].pt, .string ms[k].fr] 71)
      have ht := turns_any ms[k] s fa fcap p (wr.alloc (.cells #[.string ms[k].kd, .string ms[k].fd, .string ms[k].wh, .string ms[k].wi, .string ms[k].pt, .string ms[k].fr] 71)) (HF.out.mono (HB.out.trans (hba.mono HB.out.size))) hp
      by_cases htt : Gate.turns ms[k] s p = true
      · have HS : Hid (Gate.readsI s (ms.take (k + 1)) p = Gate.readsI s (ms.take k) p ++ (Gate.readNames ms[k]).map (Gate.fieldIx s.fs)) := by unfold Hid; rw [Gate.readsI_snoc s ms p k hlt, if_pos htt]
        rw [htt] at ht
        refine ht.mono ?_
        rintro e w1 ⟨rfl, hb1⟩
        have hX1 := box_later (box_new wr _ _) (by simp) hb1
        have HB1 : Hid (Below wr.heap.size wr w1) := hba.trans (hb1.mono hba.size)
        have hz1 : wr.heap.size < w1.heap.size := by have := hb1.size; simp at this; omega
        have hcs1 := box_later hcsr hbsr HB1.out
        clear ht hba hb1 c0 c1 c2 c3 c4 c5
        go_wp2_with fail
        refine (readNames_any ms[k] w1).mono ?_
        rintro e w2 ⟨nv, rfl, hn, hb2⟩
        obtain ⟨na, ncap, rfl⟩ := ownsRow_slice hn
        have HN2 : Hid (w2.ownsRow w1.heap.size 9 1 (.slice na (Gate.readNames ms[k]).length ncap) (Gate.readNames ms[k]).length ((Gate.readNames ms[k]).map Value.string)) := hn
        have HB2 : Hid (Below wr.heap.size wr w2) := HB1.out.trans (hb2.mono HB1.out.size)
        have HW2 : Hid (w2.ownsRow w.heap.size 3 1 v (Gate.readsI s (ms.take k) p).length (ints (Gate.readsI s (ms.take k) p))) := ownsRow_later HW.out HB2.out
        have HNL : Hid ((Gate.readNames ms[k]).length ≤ 2) := Gate.readNames_le _
        have HRL : Hid ((Gate.readsI s (ms.take k) p).length ≤ 2097152) := by have h1 := Gate.readsI_le s p (ms.take k); rw [List.length_take] at h1; show _ ≤ _; omega
        have hcs2 := box_later hcs1 (Nat.lt_trans hbsr hz1) hb2
        clear hn hb2 hX1 hcs1 hcsr
        revert HS HN2 HNL
        generalize Gate.readNames ms[k] = names
        intro HS HN2 HNL
        go_wp2_with fail
        have hszw : wr.heap.size ≤ w2.heap.size := HB2.out.size
        go_loopw [5, 24] (fun v0 iv wq => ∃ (j : Nat) (v1 : Value), v1 = v0 ∧ j ≤ names.length ∧ iv = .int .i64 j ∧ wq.ownsRow w.heap.size 3 1 v1 ((Gate.readsI s (ms.take k) p) ++ (names.take j).map (Gate.fieldIx s.fs)).length (ints ((Gate.readsI s (ms.take k) p) ++ (names.take j).map (Gate.fieldIx s.fs))) ∧ wq.ownsRow w1.heap.size 9 1 (.slice na names.length ncap) names.length (names.map Value.string) ∧ Below w.heap.size w wq) (fun _ iv _ => names.length - (intOf iv).toNat)
        case atStart => exact ⟨0, _, rfl, Nat.zero_le _, rfl, by simpa using HW2.out, HN2.out, HB.out.trans (HB2.out.mono HB.out.size)⟩
        case round =>
          obtain ⟨j, v1, hv1, hj, rfl, hown, hnames, hB⟩ := hrel
          subst hv1
          by_cases hjl : j < names.length
          · obtain ⟨g, rfl, hcell⟩ : ∃ g, na = some ⟨g, 0, none⟩ ∧ wr.cell? ⟨g, j, none⟩ = some (.string names[j]) := by
              obtain ⟨_, ⟨h0, h1⟩ | ⟨g, cap, cur, h0, h1⟩⟩ := id hnames
              · rw [h1] at hjl; exact absurd hjl (by omega)
              · cases h0
                refine ⟨g, rfl, ?_⟩
                rw [hnames.cellAt j (by omega)]
                simp [hjl]
            have hjI : (j : Int) < (names.length : Int) := by omega
            have hcsr := box_later hcs hbs hB
            have hbsr' : bs < wr.heap.size := Nat.lt_of_lt_of_le hbs hB.size
            have HX : Hid (wr.ownsRow w.heap.size 3 1 v1 ((Gate.readsI s (ms.take k) p) ++ (names.take j).map (Gate.fieldIx s.fs)).length (ints ((Gate.readsI s (ms.take k) p) ++ (names.take j).map (Gate.fieldIx s.fs))) ∧ wr.ownsRow w1.heap.size 9 1 (.slice (some ⟨g, 0, none⟩) names.length ncap) names.length (names.map Value.string) ∧ Below w.heap.size w wr) := ⟨hown, hnames, hB⟩
            have HTK : Hid ((names.take (j + 1)).map (Gate.fieldIx s.fs) = (names.take j).map (Gate.fieldIx s.fs) ++ [Gate.fieldIx s.fs names[j]]) := by unfold Hid; rw [List.take_succ_eq_append_getElem hjl, List.map_append]; rfl
            have HLL : Hid (((Gate.readsI s (ms.take k) p) ++ (names.take j).map (Gate.fieldIx s.fs)).length ≤ 2097156) := by have h1 := HRL.out; have h2 := HNL.out; show _ ≤ _; rw [List.length_append, List.length_map, List.length_take]; omega
            clear hown hnames hB
            go_wp2_with fail
            refine (fieldPlace_any fa fcap s.fs names[j] wr (HF.out.mono HX.out.2.2)).mono ?_
            rintro e w3 ⟨rfl, hb3⟩
            have HB3 : Hid (Below wr.heap.size wr w3) := hb3
            have HX3 : Hid (w3.ownsRow w.heap.size 3 1 v1 ((Gate.readsI s (ms.take k) p) ++ (names.take j).map (Gate.fieldIx s.fs)).length (ints ((Gate.readsI s (ms.take k) p) ++ (names.take j).map (Gate.fieldIx s.fs))) ∧ w3.ownsRow w1.heap.size 9 1 (.slice (some ⟨g, 0, none⟩) names.length ncap) names.length (names.map Value.string) ∧ Below w.heap.size w w3) := ⟨ownsRow_later HX.out.1 hb3, ownsRow_later HX.out.2.1 hb3, HX.out.2.2.trans (hb3.mono HX.out.2.2.size)⟩
            clear hb3 hcell hcsr
            go_wp2_with (at_builtin; refine wpList_append_own _ rfl (.tmp 28) (.tmp 33) 87 rfl w.heap.size 3 i0 (.int .i64 0) 1 8 Tryz.underlying87 hi hz0 hz1' hz2 rfl (by decide) _ _ _ rfl (HX3.out.1.alloc _) ⟨w3.heap.size, 0, none⟩ 1 1 [.int .i64 (Gate.fieldIx s.fs names[j])] rfl rfl (one_news _ _ _) (by intro u hu; simp at hu; subst hu; rfl) (by have := HLL.out; unfold maxLen; omega) (by have := HLL.out; omega) (by have := HX3.out.2.2.size; simp; omega) ?_; intro v' w4 hown' hgr _)
            have hgb : ∀ g', v1.ownBlock = some g' → w.heap.size ≤ g' := fun g' hg' => (HX3.out.1.lt g' hg').1
            have hap := rows_apart HX3.out.1 HX3.out.2.1 (by decide)
            refine ⟨⟨j + 1, _, rfl, by omega, by rw [wrap_one (by have := HNL.out; omega)], ?_, ?_, grown_below HX3.out.2.2 HX3.out.2.2.size hgr hgb⟩, step_less hjl (by have := HNL.out; omega)⟩
            · rw [HTK.out, ← List.append_assoc, List.length_append]
              have e1 : ints ((Gate.readsI s (ms.take k) p ++ (names.take j).map (Gate.fieldIx s.fs)) ++ [Gate.fieldIx s.fs names[j]]) = ints (Gate.readsI s (ms.take k) p ++ (names.take j).map (Gate.fieldIx s.fs)) ++ [.int .i64 (Gate.fieldIx s.fs names[j])] := by simp [ints]
              rw [e1]
              exact hown'
            · refine ownsRow_same HX3.out.2.1 (fun g' hg' => ?_)
              rw [grown_block hgr (by have := (HX3.out.2.1.lt g' hg').2; simp; omega) (fun q hq => fun e => hap q hq g' hg' e.symm), Below.heap_alloc _ _ _ (HX3.out.2.1.lt g' hg').2]
          · have e : j = names.length := by omega
            subst e
            rw [List.take_of_length_le (Nat.le_refl _), ← HS.out] at hown
            have HX : Hid (wr.ownsRow w.heap.size 3 1 v1 (Gate.readsI s (ms.take (k + 1)) p).length (ints (Gate.readsI s (ms.take (k + 1)) p)) ∧ Below w.heap.size w wr) := ⟨hown, hB⟩
            clear hown hnames hB
            go_wp2_with fail
            exact ⟨⟨k + 1, _, rfl, by omega, by go_num, HX.out.1, HX.out.2⟩, step_less' hlt⟩
      · have htf : Gate.turns ms[k] s p = false := by simpa using htt
        have HS : Hid (Gate.readsI s (ms.take (k + 1)) p = Gate.readsI s (ms.take k) p) := by unfold Hid; rw [Gate.readsI_snoc s ms p k hlt, if_neg htt]; simp
        rw [htf] at ht
        refine ht.mono ?_
        rintro e w1 ⟨rfl, hb1⟩
        have HB1 : Hid (Below wr.heap.size wr w1) := hba.trans (hb1.mono hba.size)
        clear ht hba hb1
        go_wp2_with fail
        exact ⟨⟨k + 1, _, rfl, by omega, by go_num, by rw [HS.out]; exact ownsRow_later HW.out HB1.out, HB.out.trans (HB1.out.mono HB.out.size)⟩, step_less' hlt⟩
    · have e : k = ms.length := by omega
      subst e
      rw [List.take_of_length_le (Nat.le_refl _)] at hown
      have HW : Hid (wr.ownsRow w.heap.size 3 1 v (Gate.readsI s ms p).length (ints (Gate.readsI s ms p)) ∧ Below w.heap.size w wr) := ⟨hown, hB⟩
      clear hown hB
      go_wp2_with fail
      go_ret
      exact ⟨v, rfl, HW.out⟩

end Go.Proofs.YtponiggfclcbgaaGreat

namespace Go.Proofs.YtponiggfclcbgaaGreat.Gate

/-- How far a walk is: what it has met (true: it stands in the row already), and the row. -/
structure Far where
  far : Nat → Option Bool
  row : List Nat

def Far.under (s : Far) (p : Nat) : Far := ⟨fun q => if q = p then some false else s.far q, s.row⟩
def Far.behind (s : Far) (p : Nat) : Far := ⟨fun q => if q = p then some true else s.far q, s.row ++ [p]⟩

/-- A list of items gone down in a row, till one is false. -/
def downList (d : Nat → Far → Bool × Far) : List Nat → Far → Bool × Far
  | [], s => (true, s)
  | q :: qs, s => if (d q s).1 then downList d qs (d q s).2 else (false, (d q s).2)

def down (rd : Nat → List Nat) : Nat → Nat → Far → Bool × Far
  | 0, _, s => (false, s)
  | f + 1, p, s =>
    match s.far p with
    | some b => (b, s)
    | none =>
      if (downList (down rd f) (rd p) (s.under p)).1 then (true, (downList (down rd f) (rd p) (s.under p)).2.behind p)
      else (false, (downList (down rd f) (rd p) (s.under p)).2)

def noFar : Far := ⟨fun _ => none, []⟩
/-- The whole walk over the places below n. -/
def walkAll (rd : Nat → List Nat) (n : Nat) : Bool × Far := downList (down rd (n + 1)) (List.range n) noFar

/-- How many places below n are not met. -/
def open' (n : Nat) (s : Far) : Nat := ((List.range n).filter fun q => (s.far q).isNone).length

/-- What a step leaves of a state: what was met stays met, what was under stays under, what was behind stays behind. -/
structure Grew (s t : Far) : Prop where
  met : ∀ q, (s.far q).isSome → t.far q = s.far q
  only : ∀ q, t.far q = some false → s.far q = some false

theorem Grew.refl (s : Far) : Grew s s := ⟨fun _ _ => rfl, fun _ h => h⟩
theorem Grew.trans {s t u : Far} (h : Grew s t) (k : Grew t u) : Grew s u :=
  ⟨fun q hq => by rw [k.met q (by rw [h.met q hq]; exact hq), h.met q hq], fun q hq => h.only q (k.only q hq)⟩

theorem open_under {n p : Nat} {s : Far} (hp : p < n) (hn : s.far p = none) : open' n (s.under p) < open' n s := by
  unfold open'
  have hsub : ∀ q, ((s.under p).far q).isNone = true → (s.far q).isNone = true := by
    intro q hq
    unfold Far.under at hq
    simp only at hq
    by_cases h : q = p
    · rw [if_pos h] at hq; simp at hq
    · rwa [if_neg h] at hq
  have key : ∀ l : List Nat, p ∈ l → (l.filter fun q => ((s.under p).far q).isNone).length < (l.filter fun q => (s.far q).isNone).length := by
    intro l
    induction l with
    | nil => intro h; cases h
    | cons a l ih =>
      intro h
      have hle : (l.filter fun q => ((s.under p).far q).isNone).length ≤ (l.filter fun q => (s.far q).isNone).length := by
        clear ih h
        induction l with
        | nil => exact Nat.le_refl _
        | cons b l ih =>
          by_cases hb : ((s.under p).far b).isNone = true
          · rw [List.filter_cons_of_pos (by simpa using hb), List.filter_cons_of_pos (by simpa using hsub b hb)]
            simp only [List.length_cons]; omega
          · rw [List.filter_cons_of_neg (by simpa using hb)]
            by_cases hb2 : (s.far b).isNone = true
            · rw [List.filter_cons_of_pos (by simpa using hb2)]; simp only [List.length_cons]; omega
            · rw [List.filter_cons_of_neg (by simpa using hb2)]; exact ih
      by_cases hap : a = p
      · subst hap
        rw [List.filter_cons_of_neg (by simp [Far.under]), List.filter_cons_of_pos (by simp [hn])]
        simp only [List.length_cons]; omega
      · have hm : p ∈ l := by
          rcases List.mem_cons.1 h with h' | h'
          · exact absurd h'.symm hap
          · exact h'
        have := ih hm
        by_cases hb : ((s.under p).far a).isNone = true
        · rw [List.filter_cons_of_pos (by simpa using hb), List.filter_cons_of_pos (by simpa using hsub a hb)]
          simp only [List.length_cons]; omega
        · rw [List.filter_cons_of_neg (by simpa using hb)]
          by_cases hb2 : (s.far a).isNone = true
          · rw [List.filter_cons_of_pos (by simpa using hb2)]; simp only [List.length_cons]; omega
          · rw [List.filter_cons_of_neg (by simpa using hb2)]; exact this
  exact key _ (List.mem_range.2 hp)

theorem open_mono {n : Nat} {s t : Far} (h : ∀ q, (s.far q).isSome → (t.far q).isSome) : open' n t ≤ open' n s := by
  unfold open'
  generalize List.range n = l
  induction l with
  | nil => exact Nat.le_refl _
  | cons b l ih =>
    by_cases hb : (t.far b).isNone = true
    · have hs : (s.far b).isNone = true := by
        rcases hsb : s.far b with _ | v
        · rfl
        · have := h b (by rw [hsb]; rfl)
          rw [Option.isNone_iff_eq_none] at hb; rw [hb] at this; cases this
      rw [List.filter_cons_of_pos (by simpa using hb), List.filter_cons_of_pos (by simpa using hs)]
      simp only [List.length_cons]; omega
    · rw [List.filter_cons_of_neg (by simpa using hb)]
      by_cases hb2 : (s.far b).isNone = true
      · rw [List.filter_cons_of_pos (by simpa using hb2)]; simp only [List.length_cons]; omega
      · rw [List.filter_cons_of_neg (by simpa using hb2)]; exact ih

/-- What was met stays met, whatever comes out. -/
theorem down_met (rd : Nat → List Nat) : ∀ f p s q, (s.far q).isSome → ((down rd f p s).2.far q).isSome := by
  intro f
  induction f with
  | zero => intro p s q h; exact h
  | succ f ih =>
    intro p s q h
    unfold down
    rcases hp : s.far p with _ | b
    · simp only
      have hl : ∀ (l : List Nat) (t : Far), (t.far q).isSome → ((downList (down rd f) l t).2.far q).isSome := by
        intro l
        induction l with
        | nil => intro t ht; exact ht
        | cons a l il =>
          intro t ht
          unfold downList
          split
          · exact il _ (ih _ _ _ ht)
          · exact ih _ _ _ ht
      have h1 : ((s.under p).far q).isSome := by
        unfold Far.under; simp only
        split
        · rfl
        · exact h
      split
      · unfold Far.behind; simp only
        split
        · rfl
        · exact hl _ _ h1
      · exact hl _ _ h1
    · exact h

theorem downList_met (rd : Nat → List Nat) (f : Nat) (q : Nat) : ∀ (l : List Nat) (t : Far), (t.far q).isSome → ((downList (down rd f) l t).2.far q).isSome := by
  intro l
  induction l with
  | nil => intro t ht; exact ht
  | cons a l il =>
    intro t ht
    unfold downList
    split
    · exact il _ (down_met _ _ _ _ _ ht)
    · exact down_met _ _ _ _ _ ht

/-- What the row of a state is like: each place once, those that are behind, each behind what it reads. -/
structure Rowed (rd : Nat → List Nat) (s : Far) : Prop where
  mem : ∀ q, q ∈ s.row ↔ s.far q = some true
  nodup : s.row.Nodup
  ahead : ∀ i (h : i < s.row.length), ∀ q ∈ rd (s.row[i]), ∃ j, ∃ hj : j < i, s.row[j]'(by omega) = q

theorem Rowed.under {rd : Nat → List Nat} {s : Far} (h : Rowed rd s) {p : Nat} (hp : s.far p = none) : Rowed rd (s.under p) := by
  refine ⟨fun q => ?_, h.nodup, h.ahead⟩
  unfold Far.under; simp only
  by_cases hq : q = p
  · rw [if_pos hq]; subst hq
    constructor
    · intro hm; rw [h.mem, hp] at hm; cases hm
    · intro hm; cases hm
  · rw [if_neg hq]; exact h.mem q

theorem Rowed.behind {rd : Nat → List Nat} {s : Far} (h : Rowed rd s) {p : Nat} (hp : s.far p = some false) (hr : ∀ q ∈ rd p, s.far q = some true) : Rowed rd (s.behind p) := by
  have hnm : p ∉ s.row := fun hm => by rw [h.mem, hp] at hm; cases hm
  refine ⟨fun q => ?_, ?_, fun i hi q hq => ?_⟩
  · unfold Far.behind; simp only [List.mem_append, List.mem_singleton]
    by_cases hq : q = p
    · simp [hq]
    · rw [if_neg hq, h.mem]; simp [hq]
  · unfold Far.behind; simp only
    rw [List.nodup_append]
    exact ⟨h.nodup, by simp, fun a ha b hb => by rw [List.mem_singleton] at hb; subst hb; exact fun e => hnm (e ▸ ha)⟩
  · have hlen : (s.behind p).row.length = s.row.length + 1 := by simp [Far.behind]
    rcases Nat.lt_or_ge i s.row.length with hlt | hge
    · have e : (s.behind p).row[i] = s.row[i] := by simp [Far.behind, List.getElem_append_left hlt]
      rw [e] at hq
      obtain ⟨j, hj, hjq⟩ := h.ahead i hlt q hq
      refine ⟨j, hj, ?_⟩
      rw [← hjq]; simp only [Far.behind]; rw [List.getElem_append_left (by omega)]
    · have ei : i = s.row.length := by omega
      subst ei
      have e : (s.behind p).row[s.row.length] = p := by simp [Far.behind]
      rw [e] at hq
      have hm := (h.mem q).2 (hr q hq)
      obtain ⟨j, hj, hjq⟩ := List.mem_iff_getElem.1 hm
      refine ⟨j, hj, ?_⟩
      rw [← hjq]; simp only [Far.behind]; rw [List.getElem_append_left hj]

/-- A walk that comes out true: all that it met newly is behind. -/
theorem down_true (rd : Nat → List Nat) : ∀ f p s, Rowed rd s → (down rd f p s).1 = true → Rowed rd (down rd f p s).2 ∧ Grew s (down rd f p s).2 ∧ (down rd f p s).2.far p = some true := by
  intro f
  induction f with
  | zero => intro p s _ h; cases h
  | succ f ih =>
    have hl : ∀ (l : List Nat) (t : Far), Rowed rd t → (downList (down rd f) l t).1 = true → Rowed rd (downList (down rd f) l t).2 ∧ Grew t (downList (down rd f) l t).2 ∧ ∀ q ∈ l, (downList (down rd f) l t).2.far q = some true := by
      intro l
      induction l with
      | nil => intro t ht _; exact ⟨ht, Grew.refl _, fun q hq => by cases hq⟩
      | cons a l il =>
        intro t ht h
        unfold downList at h ⊢
        by_cases ha : (down rd f a t).1 = true
        · rw [if_pos ha] at h ⊢
          obtain ⟨r1, g1, f1⟩ := ih a t ht ha
          obtain ⟨r2, g2, f2⟩ := il _ r1 h
          refine ⟨r2, g1.trans g2, fun q hq => ?_⟩
          rcases List.mem_cons.1 hq with rfl | hq
          · rw [g2.met _ (by rw [f1]; rfl), f1]
          · exact f2 q hq
        · rw [if_neg ha] at h; cases h
    intro p s hs h
    unfold down at h ⊢
    rcases hp : s.far p with _ | b
    · rw [hp] at h
      simp only at h ⊢
      by_cases hc : (downList (down rd f) (rd p) (s.under p)).1 = true
      · rw [if_pos hc]
        obtain ⟨r1, g1, f1⟩ := hl _ _ (hs.under hp) hc
        have hpu : (s.under p).far p = some false := by simp [Far.under]
        have hp1 : (downList (down rd f) (rd p) (s.under p)).2.far p = some false := by rw [g1.met p (by rw [hpu]; rfl), hpu]
        refine ⟨r1.behind hp1 f1, ⟨fun q hq => ?_, fun q hq => ?_⟩, by simp [Far.behind]⟩
        · have hqp : q ≠ p := by rintro rfl; rw [hp] at hq; cases hq
          have h1 : (s.under p).far q = s.far q := by simp [Far.under, hqp]
          simp only [Far.behind, if_neg hqp]
          rw [g1.met q (by rw [h1]; exact hq), h1]
        · simp only [Far.behind] at hq
          by_cases hqp : q = p
          · rw [if_pos hqp] at hq; cases hq
          · rw [if_neg hqp] at hq
            have := g1.only q hq
            simpa [Far.under, hqp] using this
      · rw [if_neg hc] at h; cases h
    · rw [hp] at h
      simp only at h ⊢
      subst h
      exact ⟨hs, Grew.refl _, hp⟩

theorem downList_true (rd : Nat → List Nat) (f : Nat) : ∀ (l : List Nat) (t : Far), Rowed rd t → (downList (down rd f) l t).1 = true → Rowed rd (downList (down rd f) l t).2 ∧ Grew t (downList (down rd f) l t).2 ∧ ∀ q ∈ l, (downList (down rd f) l t).2.far q = some true := by
  intro l
  induction l with
  | nil => intro t ht _; exact ⟨ht, Grew.refl _, fun q hq => by cases hq⟩
  | cons a l il =>
    intro t ht h
    unfold downList at h ⊢
    by_cases ha : (down rd f a t).1 = true
    · rw [if_pos ha] at h ⊢
      obtain ⟨r1, g1, f1⟩ := down_true rd f a t ht ha
      obtain ⟨r2, g2, f2⟩ := il _ r1 h
      refine ⟨r2, g1.trans g2, fun q hq => ?_⟩
      rcases List.mem_cons.1 hq with rfl | hq
      · rw [g2.met _ (by rw [f1]; rfl), f1]
      · exact f2 q hq
    · rw [if_neg ha] at h; cases h

/-- Numbers by which each place stands above what it reads. -/
def Ranked (rd : Nat → List Nat) (n : Nat) (rk : Nat → Nat) : Prop := (∀ p, p < n → rk p < n) ∧ ∀ p, p < n → ∀ q ∈ rd p, q < n ∧ rk q < rk p

theorem down_ranked {rd : Nat → List Nat} {n : Nat} {rk : Nat → Nat} (hr : Ranked rd n rk) : ∀ f p s, p < n → rk p < f → (∀ q, s.far q = some false → rk p < rk q) →
    (down rd f p s).1 = true ∧ ∀ q, (down rd f p s).2.far q = some false → s.far q = some false := by
  intro f
  induction f with
  | zero => intro p s _ h; omega
  | succ f ih =>
    intro p s hp hf hu
    have hl : ∀ (l : List Nat) (t : Far), (∀ q ∈ l, q < n ∧ rk q < f) → (∀ a ∈ l, ∀ q, t.far q = some false → rk a < rk q) →
        (downList (down rd f) l t).1 = true ∧ ∀ q, (downList (down rd f) l t).2.far q = some false → t.far q = some false := by
      intro l
      induction l with
      | nil => intro t _ _; exact ⟨rfl, fun q h => h⟩
      | cons a l il =>
        intro t h1 h2
        obtain ⟨ha1, ha2⟩ := h1 a (by simp)
        obtain ⟨hd, hk⟩ := ih a t ha1 ha2 (h2 a (by simp))
        unfold downList
        rw [if_pos hd]
        obtain ⟨he, hm⟩ := il _ (fun q hq => h1 q (by simp [hq])) (fun b hb q hq => h2 b (by simp [hb]) q (hk q hq))
        exact ⟨he, fun q hq => hk q (hm q hq)⟩
    unfold down
    rcases hfp : s.far p with _ | b
    · simp only
      have hsmall := hr.2 p hp
      obtain ⟨hc, hm⟩ := hl (rd p) (s.under p) (fun q hq => ⟨(hsmall q hq).1, by have := (hsmall q hq).2; omega⟩) (fun a ha q hq => by
        have h1 := (hsmall a ha).2
        simp only [Far.under] at hq
        by_cases hqp : q = p
        · subst hqp; exact h1
        · rw [if_neg hqp] at hq; have := hu q hq; omega)
      rw [if_pos hc]
      refine ⟨rfl, fun q hq => ?_⟩
      simp only [Far.behind] at hq
      by_cases hqp : q = p
      · rw [if_pos hqp] at hq; cases hq
      · rw [if_neg hqp] at hq
        have := hm q hq
        simpa [Far.under, hqp] using this
    · simp only
      cases b with
      | true => exact ⟨rfl, fun q h => h⟩
      | false => exact absurd (hu p hfp) (by omega)

theorem walkAll_ranked {rd : Nat → List Nat} {n : Nat} {rk : Nat → Nat} (hr : Ranked rd n rk) : (walkAll rd n).1 = true := by
  unfold walkAll
  have key : ∀ (l : List Nat) (t : Far), (∀ q ∈ l, q < n) → (∀ q, t.far q ≠ some false) → (downList (down rd (n + 1)) l t).1 = true := by
    intro l
    induction l with
    | nil => intro t _ _; rfl
    | cons a l il =>
      intro t h1 h2
      have ha := h1 a (by simp)
      obtain ⟨hd, hk⟩ := down_ranked hr (n + 1) a t ha (by have := hr.1 a ha; omega) (fun q hq => absurd hq (h2 q))
      unfold downList
      rw [if_pos hd]
      exact il _ (fun q hq => h1 q (by simp [hq])) (fun q hq => h2 q (hk q hq))
  exact key _ _ (fun q hq => List.mem_range.1 hq) (fun q h => by cases h)

theorem noFar_rowed (rd : Nat → List Nat) : Rowed rd noFar := ⟨fun q => by simp [noFar], by simp [noFar], fun i h => by simp [noFar] at h⟩

end Go.Proofs.YtponiggfclcbgaaGreat.Gate

namespace Go.Proofs.YtponiggfclcbgaaGreat.Gate

/-- A row of the places below n in which each stands behind what it reads. -/
structure Topo (rd : Nat → List Nat) (n : Nat) (row : List Nat) : Prop where
  nodup : row.Nodup
  mem : ∀ q, q ∈ row ↔ q < n
  ahead : ∀ r1 p r2, row = r1 ++ p :: r2 → ∀ q ∈ rd p, q ∈ r1

theorem length_le_of {α : Type} [DecidableEq α] : ∀ (l m : List α), l.Nodup → (∀ x ∈ l, x ∈ m) → l.length ≤ m.length := by
  intro l
  induction l with
  | nil => intro m _ _; exact Nat.zero_le _
  | cons a l ih =>
    intro m hn hm
    rw [List.nodup_cons] at hn
    have ha := hm a (by simp)
    have h1 := ih (m.erase a) hn.2 (fun x hx => by
      have hne : x ≠ a := by rintro rfl; exact hn.1 hx
      exact (List.mem_erase_of_ne hne).2 (hm x (by simp [hx])))
    rw [List.length_erase_of_mem ha] at h1
    have : 0 < m.length := List.length_pos_of_mem ha
    simp only [List.length_cons]; omega

theorem full_mem {n : Nat} {l : List Nat} (hn : l.Nodup) (hm : ∀ x ∈ l, x < n) (hl : l.length = n) (q : Nat) (hq : q < n) : q ∈ l := by
  by_cases h : q ∈ l
  · exact h
  · exfalso
    have := length_le_of (q :: l) (List.range n) (List.nodup_cons.2 ⟨h, hn⟩) (fun x hx => by
      rcases List.mem_cons.1 hx with rfl | hx
      · exact List.mem_range.2 hq
      · exact List.mem_range.2 (hm x hx))
    simp only [List.length_cons, List.length_range] at this
    omega

theorem split_at {l : List Nat} {i : Nat} (h : i < l.length) : l = l.take i ++ l[i] :: l.drop (i + 1) := by
  conv => lhs; rw [← List.take_append_drop i l, List.drop_eq_getElem_cons h]

theorem idx_lt_of_split {r1 r2 : List Nat} {p q : Nat} (hq : q ∈ r1) (hp : p ∉ r1) : (r1 ++ p :: r2).idxOf q < (r1 ++ p :: r2).idxOf p := by
  have h1 : ∀ (l : List Nat), q ∈ l → (l ++ p :: r2).idxOf q < l.length := by
    intro l
    induction l with
    | nil => intro h; cases h
    | cons a l ih =>
      intro h
      by_cases ha : a = q
      · subst ha; simp
      · have hm : q ∈ l := by
          rcases List.mem_cons.1 h with h' | h'
          · exact absurd h'.symm ha
          · exact h'
        have := ih hm
        rw [List.cons_append, List.idxOf_cons, List.length_cons, beq_false_of_ne ha, cond_false]; omega
  have h2 : ∀ (l : List Nat), p ∉ l → l.length ≤ (l ++ p :: r2).idxOf p := by
    intro l
    induction l with
    | nil => intro _; exact Nat.zero_le _
    | cons a l ih =>
      intro h
      rw [List.mem_cons] at h
      have := ih (fun hm => h (Or.inr hm))
      rw [List.cons_append, List.idxOf_cons, List.length_cons, beq_false_of_ne (fun e => h (Or.inl (Eq.symm e))), cond_false]; omega
  exact Nat.lt_of_lt_of_le (h1 r1 hq) (h2 r1 hp)

theorem Topo.ranked {rd : Nat → List Nat} {n : Nat} {row : List Nat} (h : Topo rd n row) : Ranked rd n (fun p => row.idxOf p) := by
  have hlen : row.length ≤ n := by
    have := length_le_of row (List.range n) h.nodup (fun x hx => List.mem_range.2 ((h.mem x).1 hx))
    simpa using this
  refine ⟨fun p hp => Nat.lt_of_lt_of_le (List.idxOf_lt_length_of_mem ((h.mem p).2 hp)) hlen, fun p hp q hq => ?_⟩
  have hpm := (h.mem p).2 hp
  obtain ⟨r1, r2, e⟩ := List.append_of_mem hpm
  have hq1 := h.ahead r1 p r2 e q hq
  have hnd := h.nodup
  rw [e] at hnd
  have hp1 : p ∉ r1 := by
    intro hm
    rw [List.nodup_append] at hnd
    exact hnd.2.2 p hm p (by simp) rfl
  refine ⟨(h.mem q).1 (by rw [e]; simp [hq1]), ?_⟩
  simp only [e]
  exact idx_lt_of_split hq1 hp1

theorem walkAll_topo {rd : Nat → List Nat} {n : Nat} (hrd : ∀ p, p < n → ∀ q ∈ rd p, q < n) (h : (walkAll rd n).1 = true) : Topo rd n (walkAll rd n).2.row := by
  have hfar : ∀ q, ((walkAll rd n).2.far q).isSome → q < n := by
    have hd : ∀ f p s, p < n → (∀ q, (s.far q).isSome → q < n) → ∀ q, ((down rd f p s).2.far q).isSome → q < n := by
      intro f
      induction f with
      | zero => intro p s _ hs q hq; exact hs q hq
      | succ f ih =>
        intro p s hp hs q hq
        have hl : ∀ (l : List Nat) (t : Far), (∀ a ∈ l, a < n) → (∀ q, (t.far q).isSome → q < n) → ∀ q, ((downList (down rd f) l t).2.far q).isSome → q < n := by
          intro l
          induction l with
          | nil => intro t _ ht q hq; exact ht q hq
          | cons a l il =>
            intro t ha ht q hq
            unfold downList at hq
            have h1 := ih a t (ha a (by simp)) ht
            split at hq
            · exact il _ (fun b hb => ha b (by simp [hb])) h1 q hq
            · exact h1 q hq
        have hu : ∀ q, ((s.under p).far q).isSome → q < n := by
          intro q hq
          by_cases hqp : q = p
          · omega
          · simp only [Far.under, if_neg hqp] at hq; exact hs q hq
        unfold down at hq
        rcases hfp : s.far p with _ | b
        · rw [hfp] at hq
          simp only at hq
          split at hq
          · by_cases hqp : q = p
            · omega
            · simp only [Far.behind, if_neg hqp] at hq
              exact hl _ _ (hrd p hp) hu q hq
          · exact hl _ _ (hrd p hp) hu q hq
        · rw [hfp] at hq; exact hs q hq
    have hl : ∀ (l : List Nat) (t : Far), (∀ a ∈ l, a < n) → (∀ q, (t.far q).isSome → q < n) → ∀ q, ((downList (down rd (n + 1)) l t).2.far q).isSome → q < n := by
      intro l
      induction l with
      | nil => intro t _ ht q hq; exact ht q hq
      | cons a l il =>
        intro t ha ht q hq
        unfold downList at hq
        have h1 := hd (n + 1) a t (ha a (by simp)) ht
        split at hq
        · exact il _ (fun b hb => ha b (by simp [hb])) h1 q hq
        · exact h1 q hq
    exact hl _ _ (fun a ha => List.mem_range.1 ha) (fun q hq => by cases hq)
  obtain ⟨r, _, hall⟩ := downList_true rd (n + 1) (List.range n) noFar (noFar_rowed rd) h
  refine ⟨r.nodup, fun q => ⟨fun hq => hfar q (by have h2 := (r.mem q).1 hq; unfold walkAll; rw [h2]; rfl), fun hq => (r.mem q).2 (hall q (List.mem_range.2 hq))⟩, fun r1 p r2 e q hq => ?_⟩
  have e' : (downList (down rd (n + 1)) (List.range n) noFar).2.row = r1 ++ p :: r2 := e
  have hi : r1.length < (downList (down rd (n + 1)) (List.range n) noFar).2.row.length := by rw [e']; simp
  have hx : (downList (down rd (n + 1)) (List.range n) noFar).2.row[r1.length] = p := by
    have : (downList (down rd (n + 1)) (List.range n) noFar).2.row[r1.length]? = some p := by rw [e']; simp
    rw [List.getElem?_eq_getElem hi] at this; exact Option.some.inj this
  obtain ⟨j, hj, hjq⟩ := r.ahead r1.length hi q (by rw [hx]; exact hq)
  have : (downList (down rd (n + 1)) (List.range n) noFar).2.row[j]? = some q := by rw [List.getElem?_eq_getElem (by omega), hjq]
  rw [e', List.getElem?_append_left hj] at this
  exact List.mem_of_getElem? this

/-- The first place that is not in the row and all whose reads are. -/
def ready (rd : Nat → List Nat) (row : List Nat) (i : Nat) : Bool := !decide (i ∈ row) && (rd i).all fun q => decide (q ∈ row)
def pick (rd : Nat → List Nat) (n : Nat) (row : List Nat) : Option Nat := (List.range n).find? (ready rd row)
def more (rd : Nat → List Nat) (n : Nat) (row : List Nat) : List Nat := match pick rd n row with | none => row | some i => row ++ [i]
def greedy (rd : Nat → List Nat) (n : Nat) : Nat → List Nat
  | 0 => []
  | k + 1 => more rd n (greedy rd n k)

structure Part (rd : Nat → List Nat) (n : Nat) (row : List Nat) : Prop where
  nodup : row.Nodup
  mem : ∀ q ∈ row, q < n
  ahead : ∀ r1 p r2, row = r1 ++ p :: r2 → ∀ q ∈ rd p, q ∈ r1

theorem ready_iff {rd : Nat → List Nat} {row : List Nat} {i : Nat} : ready rd row i = true ↔ i ∉ row ∧ ∀ q ∈ rd i, q ∈ row := by
  unfold ready; simp

theorem snoc_split {r1 r2 row : List Nat} {p i : Nat} (e : row ++ [i] = r1 ++ p :: r2) : (r2 = [] ∧ p = i ∧ r1 = row) ∨ ∃ r3, r2 = r3 ++ [i] ∧ row = r1 ++ p :: r3 := by
  rcases List.eq_nil_or_concat r2 with rfl | ⟨r3, b, rfl⟩
  · left
    have h2 := List.append_inj' e rfl
    exact ⟨rfl, by simpa using h2.2.symm, h2.1.symm⟩
  · right
    rw [List.concat_eq_append] at e ⊢
    have e2 : row ++ [i] = (r1 ++ p :: r3) ++ [b] := by rw [e]; simp
    have h2 := List.append_inj' e2 rfl
    exact ⟨r3, by simpa using h2.2.symm, h2.1⟩

theorem Part.more {rd : Nat → List Nat} {n : Nat} {row : List Nat} (h : Part rd n row) : Part rd n (more rd n row) := by
  unfold Gate.more
  rcases hp : pick rd n row with _ | i
  · exact h
  · unfold pick at hp
    have hi := List.find?_some hp
    have hin := List.mem_of_find?_eq_some hp
    rw [ready_iff] at hi
    refine ⟨?_, fun q hq => ?_, fun r1 p r2 e q hq => ?_⟩
    · rw [List.nodup_append]
      exact ⟨h.nodup, by simp, fun a ha b hb => by rw [List.mem_singleton] at hb; subst hb; exact fun e => hi.1 (e ▸ ha)⟩
    · rcases List.mem_append.1 hq with hq | hq
      · exact h.mem q hq
      · rw [List.mem_singleton] at hq; subst hq; exact List.mem_range.1 hin
    · rcases snoc_split e with ⟨_, rfl, rfl⟩ | ⟨r3, _, e3⟩
      · exact hi.2 q hq
      · exact h.ahead r1 p r3 e3 q hq

theorem greedy_part (rd : Nat → List Nat) (n : Nat) : ∀ k, Part rd n (greedy rd n k)
  | 0 => ⟨by simp [greedy], fun q hq => by simp [greedy] at hq, fun r1 p r2 e => by simp [greedy] at e⟩
  | k + 1 => (greedy_part rd n k).more

theorem Part.topo {rd : Nat → List Nat} {n : Nat} {row : List Nat} (h : Part rd n row) (hl : row.length = n) : Topo rd n row :=
  ⟨h.nodup, fun q => ⟨h.mem q, full_mem h.nodup h.mem hl q⟩, h.ahead⟩

theorem pick_some {rd : Nat → List Nat} {n : Nat} {rk : Nat → Nat} (hr : Ranked rd n rk) (row : List Nat) : ∀ r p, p < n → p ∉ row → rk p ≤ r → ∃ i, pick rd n row = some i := by
  intro r
  have fin : ∀ p, p < n → p ∉ row → (∀ q ∈ rd p, q ∈ row) → ∃ i, pick rd n row = some i := by
    intro p hp hm ha
    have : (pick rd n row).isSome := by
      unfold pick
      rw [List.find?_isSome]
      exact ⟨p, List.mem_range.2 hp, ready_iff.2 ⟨hm, ha⟩⟩
    exact Option.isSome_iff_exists.1 this
  induction r with
  | zero =>
    intro p hp hm hk
    refine fin p hp hm (fun q hq => ?_)
    have := (hr.2 p hp q hq).2; omega
  | succ r ih =>
    intro p hp hm hk
    by_cases ha : ∀ q ∈ rd p, q ∈ row
    · exact fin p hp hm ha
    · have : ∃ q, q ∈ rd p ∧ q ∉ row := by
        by_cases h : ∃ q, q ∈ rd p ∧ q ∉ row
        · exact h
        · exact absurd (fun q hq => Classical.byContradiction fun hn => h ⟨q, hq, hn⟩) ha
      obtain ⟨q, hq, hqm⟩ := this
      have h1 := hr.2 p hp q hq
      exact ih q h1.1 hqm (by omega)

theorem greedy_full {rd : Nat → List Nat} {n : Nat} {rk : Nat → Nat} (hr : Ranked rd n rk) : ∀ k, k ≤ n → (greedy rd n k).length = k := by
  intro k
  induction k with
  | zero => intro _; rfl
  | succ k ih =>
    intro hk
    have hl := ih (by omega)
    have hpart := greedy_part rd n k
    have : ∃ p, p < n ∧ p ∉ greedy rd n k := by
      by_cases h : ∃ p, p < n ∧ p ∉ greedy rd n k
      · exact h
      · exfalso
        have := length_le_of (List.range n) (greedy rd n k) List.nodup_range (fun x hx => Classical.byContradiction fun hn => h ⟨x, List.mem_range.1 hx, hn⟩)
        simp only [List.length_range] at this; omega
    obtain ⟨p, hp, hm⟩ := this
    obtain ⟨i, hi⟩ := pick_some hr (greedy rd n k) (rk p) p hp hm (Nat.le_refl _)
    show (more rd n (greedy rd n k)).length = k + 1
    unfold more; rw [hi]; simp [hl]

/-- Both ways of looking for a row find one at the same mends. -/
theorem walk_iff_greedy {rd : Nat → List Nat} {n : Nat} (hrd : ∀ p, p < n → ∀ q ∈ rd p, q < n) : (walkAll rd n).1 = decide ((greedy rd n n).length = n) := by
  by_cases h : (walkAll rd n).1 = true
  · rw [h]; exact (decide_eq_true (greedy_full (walkAll_topo hrd h).ranked n (Nat.le_refl _))).symm
  · have hf : (walkAll rd n).1 = false := by simpa using h
    rw [hf]
    symm
    rw [decide_eq_false_iff_not]
    intro hl
    exact h (walkAll_ranked ((greedy_part rd n n).topo hl).ranked)

/-- The values behind a row of turns. -/
def turnRow {α : Type} (D : Nat → List α → α) (row : List Nat) (vs : List α) : List α := row.foldl (fun us p => us.set p (D p us)) vs

theorem turnRow_length {α : Type} (D : Nat → List α → α) : ∀ (row : List Nat) (vs : List α), (turnRow D row vs).length = vs.length := by
  intro row
  induction row with
  | nil => intro vs; rfl
  | cons a l ih => intro vs; show (turnRow D l (vs.set a (D a vs))).length = _; rw [ih]; simp

theorem turnRow_out {α : Type} (D : Nat → List α → α) (p : Nat) : ∀ (row : List Nat) (vs : List α), p ∉ row → (turnRow D row vs)[p]? = vs[p]? := by
  intro row
  induction row with
  | nil => intro vs _; rfl
  | cons a l ih =>
    intro vs h
    rw [List.mem_cons] at h
    show (turnRow D l (vs.set a (D a vs)))[p]? = _
    rw [ih _ (fun hm => h (Or.inr hm)), List.getElem?_set_ne (fun e => h (Or.inl e.symm))]

theorem turnRow_append {α : Type} (D : Nat → List α → α) (r1 r2 : List Nat) (vs : List α) : turnRow D (r1 ++ r2) vs = turnRow D r2 (turnRow D r1 vs) := by
  unfold turnRow; rw [List.foldl_append]

theorem turnRow_at {α : Type} (D : Nat → List α → α) (r1 r2 : List Nat) (p : Nat) (vs : List α) (hp : p < vs.length) (h2 : p ∉ r2) : (turnRow D (r1 ++ p :: r2) vs)[p]? = some (D p (turnRow D r1 vs)) := by
  rw [turnRow_append]
  show (turnRow D r2 ((turnRow D r1 vs).set p (D p (turnRow D r1 vs))))[p]? = _
  rw [turnRow_out D p r2 _ h2, List.getElem?_set_self (by rw [turnRow_length]; exact hp)]

/-- A turn hangs on what it reads and on the place's own value alone. -/
def Hangs {α : Type} (rd : Nat → List Nat) (n : Nat) (D : Nat → List α → α) : Prop := ∀ p, p < n → ∀ us vs : List α, us.length = n → vs.length = n → (∀ q ∈ rd p, us[q]? = vs[q]?) → us[p]? = vs[p]? → D p us = D p vs

theorem turnRow_last {α : Type} {D : Nat → List α → α} {rd : Nat → List Nat} {n : Nat} {row : List Nat} (h : Topo rd n row) (vs : List α) (hl : vs.length = n) (p : Nat) (hp : p < n) :
    ∃ us : List α, us.length = n ∧ (turnRow D row vs)[p]? = some (D p us) ∧ us[p]? = vs[p]? ∧ ∀ q ∈ rd p, us[q]? = (turnRow D row vs)[q]? := by
  obtain ⟨r1, r2, e⟩ := List.append_of_mem ((h.mem p).2 hp)
  have hnd := h.nodup
  rw [e, List.nodup_append] at hnd
  have hp1 : p ∉ r1 := fun hm => hnd.2.2 p hm p (by simp) rfl
  have hp2 : p ∉ r2 := (List.nodup_cons.1 hnd.2.1).1
  refine ⟨turnRow D r1 vs, by rw [turnRow_length, hl], by rw [e]; exact turnRow_at D r1 r2 p vs (by omega) hp2, turnRow_out D p r1 vs hp1, fun q hq => ?_⟩
  have hq1 := h.ahead r1 p r2 e q hq
  have hq2 : q ∉ p :: r2 := fun hm => hnd.2.2 q hq1 q hm rfl
  rw [e, turnRow_append, turnRow_out D q _ _ hq2]

/-- Whichever row is taken, the values come out the same. -/
theorem turnRow_any {α : Type} {D : Nat → List α → α} {rd : Nat → List Nat} {n : Nat} {r r' : List Nat} (h : Topo rd n r) (h' : Topo rd n r') (hD : Hangs rd n D) (vs : List α) (hl : vs.length = n) : turnRow D r vs = turnRow D r' vs := by
  have hr := h.ranked
  have key : ∀ k p, p < n → r.idxOf p < k → (turnRow D r vs)[p]? = (turnRow D r' vs)[p]? := by
    intro k
    induction k with
    | zero => intro p _ hk; omega
    | succ k ih =>
      intro p hp hk
      obtain ⟨us, u1, u2, u3, u4⟩ := turnRow_last (D := D) h vs hl p hp
      obtain ⟨us', u1', u2', u3', u4'⟩ := turnRow_last (D := D) h' vs hl p hp
      rw [u2, u2']
      congr 1
      refine hD p hp us us' u1 u1' (fun q hq => ?_) (u3.trans u3'.symm)
      have h1 := hr.2 p hp q hq
      have h2 : r.idxOf q < r.idxOf p := h1.2
      rw [u4 q hq, u4' q hq]
      exact ih q h1.1 (by omega)
  apply List.ext_getElem?
  intro p
  rcases Nat.lt_or_ge p n with hp | hp
  · exact key (r.idxOf p + 1) p hp (Nat.lt_succ_self _)
  · rw [List.getElem?_eq_none (by rw [turnRow_length, hl]; exact hp), List.getElem?_eq_none (by rw [turnRow_length, hl]; exact hp)]

end Go.Proofs.YtponiggfclcbgaaGreat.Gate
