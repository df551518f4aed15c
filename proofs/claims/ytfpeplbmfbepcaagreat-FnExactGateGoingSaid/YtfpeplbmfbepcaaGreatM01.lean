import Derived.ProofKit
import Derived.TacticsInMore
namespace Go.Proofs.YtfpeplbmfbepcaaGreat.Gate
structure Far where
  far : Nat -> Option Bool
  row : List Nat
def Far.under (s : Far) (p : Nat) : Far := ⟨fun q => if q = p then some false else s.far q, s.row⟩
def Far.behind (s : Far) (p : Nat) : Far := ⟨fun q => if q = p then some true else s.far q, s.row ++ [p]⟩
def zm (d : Nat -> Far -> Bool × Far) : List Nat -> Far -> Bool × Far
  | [], s => (true, s)
  | q :: qs, s => if (d q s).1 then zm d qs (d q s).2 else (false, (d q s).2)
def down (rd : Nat -> List Nat) : Nat -> Nat -> Far -> Bool × Far
  | 0, _, s => (false, s)
  | f + 1, p, s =>
    match s.far p with
    | some b => (b, s)
    | none =>
      if (zm (down rd f) (rd p) (s.under p)).1 then (true, (zm (down rd f) (rd p) (s.under p)).2.behind p)
      else (false, (zm (down rd f) (rd p) (s.under p)).2)
def q8 : Far := ⟨fun _ => none, []⟩
def zD (rd : Nat -> List Nat) (n : Nat) : Bool × Far := zm (down rd (n + 1)) (List.range n) q8
def open' (n : Nat) (s : Far) : Nat := ((List.range n).filter fun q => (s.far q).isNone).length
structure zhL (s t : Far) : Prop where
  met : ∀ q, (s.far q).isSome -> t.far q = s.far q
  only : ∀ q, t.far q = some false -> s.far q = some false
theorem zhL.refl (s : Far) : zhL s s := ⟨fun _ _ => rfl, fun _ h => h⟩
theorem zhL.trans {s t u : Far} (h : zhL s t) (k : zhL t u) : zhL s u :=
  ⟨fun q hq => by rw [k.met q (by rw [h.met q hq]; exact hq), h.met q hq], fun q hq => h.only q (k.only q hq)⟩
theorem ze9 {n p : Nat} {s : Far} (hp : p < n) (hn : s.far p = none) : open' n (s.under p) < open' n s := by
  unfold open'
  have hsub : ∀ q, ((s.under p).far q).isNone = true -> (s.far q).isNone = true := by
    intro q hq
    unfold Far.under at hq
    simp only at hq
    by_cases h : q = p
    · rw [if_pos h] at hq; simp at hq
    · rwa [if_neg h] at hq
  have key : ∀ l : List Nat, p ∈ l -> (l.filter fun q => ((s.under p).far q).isNone).length < (l.filter fun q => (s.far q).isNone).length := by
    intro l
    induction l with
    | nil => intro h; cases h
    | cons a l ih =>
      intro h
      have hle : (l.filter fun q => ((s.under p).far q).isNone).length <= (l.filter fun q => (s.far q).isNone).length := by
        clear ih h
        induction l with
        | nil => exact Nat.le_refl _
        | cons b l ih =>
          by_cases hb : ((s.under p).far b).isNone = true
          · rw [List.filter_cons_of_pos (by simpa using hb), List.filter_cons_of_pos (by simpa using hsub b hb)]
            simp only [List.length_cons]; omega
          · rw [List.filter_cons_of_neg (by simpa using hb)]
            by_cases hb2 : (s.far b).isNone = true
            · rw [List.filter_cons_of_pos (by simpa using hb2)]; simp only [List.length_cons]; omega
            · rw [List.filter_cons_of_neg (by simpa using hb2)]; exact ih
      by_cases hap : a = p
      · subst hap
        rw [List.filter_cons_of_neg (by simp [Far.under]), List.filter_cons_of_pos (by simp [hn])]
        simp only [List.length_cons]; omega
      · have hm : p ∈ l := by
          rcases List.mem_cons.1 h with h' | h'
          · exact absurd h'.symm hap
          · exact h'
        have := ih hm
        by_cases hb : ((s.under p).far a).isNone = true
        · rw [List.filter_cons_of_pos (by simpa using hb), List.filter_cons_of_pos (by simpa using hsub a hb)]
          simp only [List.length_cons]; omega
        · rw [List.filter_cons_of_neg (by simpa using hb)]
          by_cases hb2 : (s.far a).isNone = true
          · rw [List.filter_cons_of_pos (by simpa using hb2)]; simp only [List.length_cons]; omega
          · rw [List.filter_cons_of_neg (by simpa using hb2)]; exact this
  exact key _ (List.mem_range.2 hp)
theorem zj8 {n : Nat} {s t : Far} (h : ∀ q, (s.far q).isSome -> (t.far q).isSome) : open' n t <= open' n s := by
  unfold open'
  generalize List.range n = l
  induction l with
  | nil => exact Nat.le_refl _
  | cons b l ih =>
    by_cases hb : (t.far b).isNone = true
    · have hs : (s.far b).isNone = true := by
        rcases hsb : s.far b with _ | v
        · rfl
        · have := h b (by rw [hsb]; rfl)
          rw [Option.isNone_iff_eq_none] at hb; rw [hb] at this; cases this
      rw [List.filter_cons_of_pos (by simpa using hb), List.filter_cons_of_pos (by simpa using hs)]
      simp only [List.length_cons]; omega
    · rw [List.filter_cons_of_neg (by simpa using hb)]
      by_cases hb2 : (s.far b).isNone = true
      · rw [List.filter_cons_of_pos (by simpa using hb2)]; simp only [List.length_cons]; omega
      · rw [List.filter_cons_of_neg (by simpa using hb2)]; exact ih
theorem zmH (rd : Nat -> List Nat) : ∀ f p s q, (s.far q).isSome -> ((down rd f p s).2.far q).isSome := by
  intro f
  induction f with
  | zero => intro p s q h; exact h
  | succ f ih =>
    intro p s q h
    unfold down
    rcases hp : s.far p with _ | b
    · simp only
      have hl : ∀ (l : List Nat) (t : Far), (t.far q).isSome -> ((zm (down rd f) l t).2.far q).isSome := by
        intro l
        induction l with
        | nil => intro t ht; exact ht
        | cons a l il =>
          intro t ht
          unfold zm
          split
          · exact il _ (ih _ _ _ ht)
          · exact ih _ _ _ ht
      have h1 : ((s.under p).far q).isSome := by
        unfold Far.under; simp only
        split
        · rfl
        · exact h
      split
      · unfold Far.behind; simp only
        split
        · rfl
        · exact hl _ _ h1
      · exact hl _ _ h1
    · exact h
theorem zkO (rd : Nat -> List Nat) (f : Nat) (q : Nat) : ∀ (l : List Nat) (t : Far), (t.far q).isSome -> ((zm (down rd f) l t).2.far q).isSome := by
  intro l
  induction l with
  | nil => intro t ht; exact ht
  | cons a l il =>
    intro t ht
    unfold zm
    split
    · exact il _ (zmH _ _ _ _ _ ht)
    · exact zmH _ _ _ _ _ ht
structure zcT (rd : Nat -> List Nat) (s : Far) : Prop where
  mem : ∀ q, q ∈ s.row ↔ s.far q = some true
  nodup : s.row.Nodup
  ahead : ∀ i (h : i < s.row.length), ∀ q ∈ rd (s.row[i]), ∃ j, ∃ hj : j < i, s.row[j]'(by omega) = q
theorem zcT.under {rd : Nat -> List Nat} {s : Far} (h : zcT rd s) {p : Nat} (hp : s.far p = none) : zcT rd (s.under p) := by
  refine ⟨fun q => ?_, h.nodup, h.ahead⟩
  unfold Far.under; simp only
  by_cases hq : q = p
  · rw [if_pos hq]; subst hq
    constructor
    · intro hm; rw [h.mem, hp] at hm; cases hm
    · intro hm; cases hm
  · rw [if_neg hq]; exact h.mem q
theorem zcT.behind {rd : Nat -> List Nat} {s : Far} (h : zcT rd s) {p : Nat} (hp : s.far p = some false) (hr : ∀ q ∈ rd p, s.far q = some true) : zcT rd (s.behind p) := by
  have hnm : p ∉ s.row := fun hm => by rw [h.mem, hp] at hm; cases hm
  refine ⟨fun q => ?_, ?_, fun i hi q hq => ?_⟩
  · unfold Far.behind; simp only [List.mem_append, List.mem_singleton]
    by_cases hq : q = p
    · simp [hq]
    · rw [if_neg hq, h.mem]; simp [hq]
  · unfold Far.behind; simp only
    rw [List.nodup_append]
    exact ⟨h.nodup, by simp, fun a ha b hb => by rw [List.mem_singleton] at hb; subst hb; exact fun e => hnm (e ▸ ha)⟩
  · have hlen : (s.behind p).row.length = s.row.length + 1 := by simp [Far.behind]
    rcases Nat.lt_or_ge i s.row.length with hlt | hge
    · have e : (s.behind p).row[i] = s.row[i] := by simp [Far.behind, List.getElem_append_left hlt]
      rw [e] at hq
      obtain ⟨j, hj, hjq⟩ := h.ahead i hlt q hq
      refine ⟨j, hj, ?_⟩
      rw [<- hjq]; simp only [Far.behind]; rw [List.getElem_append_left (by omega)]
    · have ei : i = s.row.length := by omega
      subst ei
      have e : (s.behind p).row[s.row.length] = p := by simp [Far.behind]
      rw [e] at hq
      have hm := (h.mem q).2 (hr q hq)
      obtain ⟨j, hj, hjq⟩ := List.mem_iff_getElem.1 hm
      refine ⟨j, hj, ?_⟩
      rw [<- hjq]; simp only [Far.behind]; rw [List.getElem_append_left hj]
theorem zoV (rd : Nat -> List Nat) : ∀ f p s, zcT rd s -> (down rd f p s).1 = true -> zcT rd (down rd f p s).2 /\ zhL s (down rd f p s).2 /\ (down rd f p s).2.far p = some true := by
  intro f
  induction f with
  | zero => intro p s _ h; cases h
  | succ f ih =>
    have hl : ∀ (l : List Nat) (t : Far), zcT rd t -> (zm (down rd f) l t).1 = true -> zcT rd (zm (down rd f) l t).2 /\ zhL t (zm (down rd f) l t).2 /\ ∀ q ∈ l, (zm (down rd f) l t).2.far q = some true := by
      intro l
      induction l with
      | nil => intro t ht _; exact ⟨ht, zhL.refl _, fun q hq => by cases hq⟩
      | cons a l il =>
        intro t ht h
        unfold zm at h ⊢
        by_cases ha : (down rd f a t).1 = true
        · rw [if_pos ha] at h ⊢
          obtain ⟨r1, g1, f1⟩ := ih a t ht ha
          obtain ⟨r2, g2, f2⟩ := il _ r1 h
          refine ⟨r2, g1.trans g2, fun q hq => ?_⟩
          rcases List.mem_cons.1 hq with rfl | hq
          · rw [g2.met _ (by rw [f1]; rfl), f1]
          · exact f2 q hq
        · rw [if_neg ha] at h; cases h
    intro p s hs h
    unfold down at h ⊢
    rcases hp : s.far p with _ | b
    · rw [hp] at h
      simp only at h ⊢
      by_cases hc : (zm (down rd f) (rd p) (s.under p)).1 = true
      · rw [if_pos hc]
        obtain ⟨r1, g1, f1⟩ := hl _ _ (hs.under hp) hc
        have hpu : (s.under p).far p = some false := by simp [Far.under]
        have hp1 : (zm (down rd f) (rd p) (s.under p)).2.far p = some false := by rw [g1.met p (by rw [hpu]; rfl), hpu]
        refine ⟨r1.behind hp1 f1, ⟨fun q hq => ?_, fun q hq => ?_⟩, by simp [Far.behind]⟩
        · have hqp : q ≠ p := by rintro rfl; rw [hp] at hq; cases hq
          have h1 : (s.under p).far q = s.far q := by simp [Far.under, hqp]
          simp only [Far.behind, if_neg hqp]
          rw [g1.met q (by rw [h1]; exact hq), h1]
        · simp only [Far.behind] at hq
          by_cases hqp : q = p
          · rw [if_pos hqp] at hq; cases hq
          · rw [if_neg hqp] at hq
            have := g1.only q hq
            simpa [Far.under, hqp] using this
      · rw [if_neg hc] at h; cases h
    · rw [hp] at h
      simp only at h ⊢
      subst h
      exact ⟨hs, zhL.refl _, hp⟩
theorem zjF (rd : Nat -> List Nat) (f : Nat) : ∀ (l : List Nat) (t : Far), zcT rd t -> (zm (down rd f) l t).1 = true -> zcT rd (zm (down rd f) l t).2 /\ zhL t (zm (down rd f) l t).2 /\ ∀ q ∈ l, (zm (down rd f) l t).2.far q = some true := by
  intro l
  induction l with
  | nil => intro t ht _; exact ⟨ht, zhL.refl _, fun q hq => by cases hq⟩
  | cons a l il =>
    intro t ht h
    unfold zm at h ⊢
    by_cases ha : (down rd f a t).1 = true
    · rw [if_pos ha] at h ⊢
      obtain ⟨r1, g1, f1⟩ := zoV rd f a t ht ha
      obtain ⟨r2, g2, f2⟩ := il _ r1 h
      refine ⟨r2, g1.trans g2, fun q hq => ?_⟩
      rcases List.mem_cons.1 hq with rfl | hq
      · rw [g2.met _ (by rw [f1]; rfl), f1]
      · exact f2 q hq
    · rw [if_neg ha] at h; cases h
def ziG (rd : Nat -> List Nat) (n : Nat) (rk : Nat -> Nat) : Prop := (∀ p, p < n -> rk p < n) /\ ∀ p, p < n -> ∀ q ∈ rd p, q < n /\ rk q < rk p
theorem zl9 {rd : Nat -> List Nat} {n : Nat} {rk : Nat -> Nat} (hr : ziG rd n rk) : ∀ f p s, p < n -> rk p < f -> (∀ q, s.far q = some false -> rk p < rk q) ->
    (down rd f p s).1 = true /\ ∀ q, (down rd f p s).2.far q = some false -> s.far q = some false := by
  intro f
  induction f with
  | zero => intro p s _ h; omega
  | succ f ih =>
    intro p s hp hf hu
    have hl : ∀ (l : List Nat) (t : Far), (∀ q ∈ l, q < n /\ rk q < f) -> (∀ a ∈ l, ∀ q, t.far q = some false -> rk a < rk q) ->
        (zm (down rd f) l t).1 = true /\ ∀ q, (zm (down rd f) l t).2.far q = some false -> t.far q = some false := by
      intro l
      induction l with
      | nil => intro t _ _; exact ⟨rfl, fun q h => h⟩
      | cons a l il =>
        intro t h1 h2
        obtain ⟨ha1, ha2⟩ := h1 a (by simp)
        obtain ⟨hd, hk⟩ := ih a t ha1 ha2 (h2 a (by simp))
        unfold zm
        rw [if_pos hd]
        obtain ⟨he, hm⟩ := il _ (fun q hq => h1 q (by simp [hq])) (fun b hb q hq => h2 b (by simp [hb]) q (hk q hq))
        exact ⟨he, fun q hq => hk q (hm q hq)⟩
    unfold down
    rcases hfp : s.far p with _ | b
    · simp only
      have hsmall := hr.2 p hp
      obtain ⟨hc, hm⟩ := hl (rd p) (s.under p) (fun q hq => ⟨(hsmall q hq).1, by have := (hsmall q hq).2; omega⟩) (fun a ha q hq => by
        have h1 := (hsmall a ha).2
        simp only [Far.under] at hq
        by_cases hqp : q = p
        · subst hqp; exact h1
        · rw [if_neg hqp] at hq; have := hu q hq; omega)
      rw [if_pos hc]
      refine ⟨rfl, fun q hq => ?_⟩
      simp only [Far.behind] at hq
      by_cases hqp : q = p
      · rw [if_pos hqp] at hq; cases hq
      · rw [if_neg hqp] at hq
        have := hm q hq
        simpa [Far.under, hqp] using this
    · simp only
      cases b with
      | true => exact ⟨rfl, fun q h => h⟩
      | false => exact absurd (hu p hfp) (by omega)
theorem ziO {rd : Nat -> List Nat} {n : Nat} {rk : Nat -> Nat} (hr : ziG rd n rk) : (zD rd n).1 = true := by
  unfold zD
  have key : ∀ (l : List Nat) (t : Far), (∀ q ∈ l, q < n) -> (∀ q, t.far q ≠ some false) -> (zm (down rd (n + 1)) l t).1 = true := by
    intro l
    induction l with
    | nil => intro t _ _; rfl
    | cons a l il =>
      intro t h1 h2
      have ha := h1 a (by simp)
      obtain ⟨hd, hk⟩ := zl9 hr (n + 1) a t ha (by have := hr.1 a ha; omega) (fun q hq => absurd hq (h2 q))
      unfold zm
      rw [if_pos hd]
      exact il _ (fun q hq => h1 q (by simp [hq])) (fun q hq => h2 q (hk q hq))
  exact key _ _ (fun q hq => List.mem_range.1 hq) (fun q h => by cases h)
theorem zlR (rd : Nat -> List Nat) : zcT rd q8 := ⟨fun q => by simp [q8], by simp [q8], fun i h => by simp [q8] at h⟩
end Go.Proofs.YtfpeplbmfbepcaaGreat.Gate

namespace Go.Proofs.YtfpeplbmfbepcaaGreat.Gate
structure zjM (rd : Nat -> List Nat) (n : Nat) (row : List Nat) : Prop where
  nodup : row.Nodup
  mem : ∀ q, q ∈ row ↔ q < n
  ahead : ∀ r1 p r2, row = r1 ++ p :: r2 -> ∀ q ∈ rd p, q ∈ r1
theorem zbp {α : Type} [DecidableEq α] : ∀ (l m : List α), l.Nodup -> (∀ x ∈ l, x ∈ m) -> l.length <= m.length := by
  intro l
  induction l with
  | nil => intro m _ _; exact Nat.zero_le _
  | cons a l ih =>
    intro m hn hm
    rw [List.nodup_cons] at hn
    have ha := hm a (by simp)
    have h1 := ih (m.erase a) hn.2 (fun x hx => by
      have hne : x ≠ a := by rintro rfl; exact hn.1 hx
      exact (List.mem_erase_of_ne hne).2 (hm x (by simp [hx])))
    rw [List.length_erase_of_mem ha] at h1
    have : 0 < m.length := List.length_pos_of_mem ha
    simp only [List.length_cons]; omega
theorem zpR {n : Nat} {l : List Nat} (hn : l.Nodup) (hm : ∀ x ∈ l, x < n) (hl : l.length = n) (q : Nat) (hq : q < n) : q ∈ l := by
  by_cases h : q ∈ l
  · exact h
  · exfalso
    have := zbp (q :: l) (List.range n) (List.nodup_cons.2 ⟨h, hn⟩) (fun x hx => by
      rcases List.mem_cons.1 hx with rfl | hx
      · exact List.mem_range.2 hq
      · exact List.mem_range.2 (hm x hx))
    simp only [List.length_cons, List.length_range] at this
    omega
theorem zhv {r1 r2 : List Nat} {p q : Nat} (hq : q ∈ r1) (hp : p ∉ r1) : (r1 ++ p :: r2).idxOf q < (r1 ++ p :: r2).idxOf p := by
  have h1 : ∀ (l : List Nat), q ∈ l -> (l ++ p :: r2).idxOf q < l.length := by
    intro l
    induction l with
    | nil => intro h; cases h
    | cons a l ih =>
      intro h
      by_cases ha : a = q
      · subst ha; simp
      · have hm : q ∈ l := by
          rcases List.mem_cons.1 h with h' | h'
          · exact absurd h'.symm ha
          · exact h'
        have := ih hm
        rw [List.cons_append, List.idxOf_cons, List.length_cons, beq_false_of_ne ha, cond_false]; omega
  have h2 : ∀ (l : List Nat), p ∉ l -> l.length <= (l ++ p :: r2).idxOf p := by
    intro l
    induction l with
    | nil => intro _; exact Nat.zero_le _
    | cons a l ih =>
      intro h
      rw [List.mem_cons] at h
      have := ih (fun hm => h (Or.inr hm))
      rw [List.cons_append, List.idxOf_cons, List.length_cons, beq_false_of_ne (fun e => h (Or.inl (Eq.symm e))), cond_false]; omega
  exact Nat.lt_of_lt_of_le (h1 r1 hq) (h2 r1 hp)
theorem zjM.zkV {rd : Nat -> List Nat} {n : Nat} {row : List Nat} (h : zjM rd n row) : ziG rd n (fun p => row.idxOf p) := by
  have hlen : row.length <= n := by
    have := zbp row (List.range n) h.nodup (fun x hx => List.mem_range.2 ((h.mem x).1 hx))
    simpa using this
  refine ⟨fun p hp => Nat.lt_of_lt_of_le (List.idxOf_lt_length_of_mem ((h.mem p).2 hp)) hlen, fun p hp q hq => ?_⟩
  have hpm := (h.mem p).2 hp
  obtain ⟨r1, r2, e⟩ := List.append_of_mem hpm
  have hq1 := h.ahead r1 p r2 e q hq
  have hnd := h.nodup
  rw [e] at hnd
  have hp1 : p ∉ r1 := by
    intro hm
    rw [List.nodup_append] at hnd
    exact hnd.2.2 p hm p (by simp) rfl
  refine ⟨(h.mem q).1 (by rw [e]; simp [hq1]), ?_⟩
  simp only [e]
  exact zhv hq1 hp1
theorem zdo {rd : Nat -> List Nat} {n : Nat} (hrd : ∀ p, p < n -> ∀ q ∈ rd p, q < n) (h : (zD rd n).1 = true) : zjM rd n (zD rd n).2.row := by
  have hfar : ∀ q, ((zD rd n).2.far q).isSome -> q < n := by
    have hd : ∀ f p s, p < n -> (∀ q, (s.far q).isSome -> q < n) -> ∀ q, ((down rd f p s).2.far q).isSome -> q < n := by
      intro f
      induction f with
      | zero => intro p s _ hs q hq; exact hs q hq
      | succ f ih =>
        intro p s hp hs q hq
        have hl : ∀ (l : List Nat) (t : Far), (∀ a ∈ l, a < n) -> (∀ q, (t.far q).isSome -> q < n) -> ∀ q, ((zm (down rd f) l t).2.far q).isSome -> q < n := by
          intro l
          induction l with
          | nil => intro t _ ht q hq; exact ht q hq
          | cons a l il =>
            intro t ha ht q hq
            unfold zm at hq
            have h1 := ih a t (ha a (by simp)) ht
            split at hq
            · exact il _ (fun b hb => ha b (by simp [hb])) h1 q hq
            · exact h1 q hq
        have hu : ∀ q, ((s.under p).far q).isSome -> q < n := by
          intro q hq
          by_cases hqp : q = p
          · omega
          · simp only [Far.under, if_neg hqp] at hq; exact hs q hq
        unfold down at hq
        rcases hfp : s.far p with _ | b
        · rw [hfp] at hq
          simp only at hq
          split at hq
          · by_cases hqp : q = p
            · omega
            · simp only [Far.behind, if_neg hqp] at hq
              exact hl _ _ (hrd p hp) hu q hq
          · exact hl _ _ (hrd p hp) hu q hq
        · rw [hfp] at hq; exact hs q hq
    have hl : ∀ (l : List Nat) (t : Far), (∀ a ∈ l, a < n) -> (∀ q, (t.far q).isSome -> q < n) -> ∀ q, ((zm (down rd (n + 1)) l t).2.far q).isSome -> q < n := by
      intro l
      induction l with
      | nil => intro t _ ht q hq; exact ht q hq
      | cons a l il =>
        intro t ha ht q hq
        unfold zm at hq
        have h1 := hd (n + 1) a t (ha a (by simp)) ht
        split at hq
        · exact il _ (fun b hb => ha b (by simp [hb])) h1 q hq
        · exact h1 q hq
    exact hl _ _ (fun a ha => List.mem_range.1 ha) (fun q hq => by cases hq)
  obtain ⟨r, _, hall⟩ := zjF rd (n + 1) (List.range n) q8 (zlR rd) h
  refine ⟨r.nodup, fun q => ⟨fun hq => hfar q (by have h2 := (r.mem q).1 hq; unfold zD; rw [h2]; rfl), fun hq => (r.mem q).2 (hall q (List.mem_range.2 hq))⟩, fun r1 p r2 e q hq => ?_⟩
  have e' : (zm (down rd (n + 1)) (List.range n) q8).2.row = r1 ++ p :: r2 := e
  have hi : r1.length < (zm (down rd (n + 1)) (List.range n) q8).2.row.length := by rw [e']; simp
  have hx : (zm (down rd (n + 1)) (List.range n) q8).2.row[r1.length] = p := by
    have : (zm (down rd (n + 1)) (List.range n) q8).2.row[r1.length]? = some p := by rw [e']; simp
    rw [List.getElem?_eq_getElem hi] at this; exact Option.some.inj this
  obtain ⟨j, hj, hjq⟩ := r.ahead r1.length hi q (by rw [hx]; exact hq)
  have : (zm (down rd (n + 1)) (List.range n) q8).2.row[j]? = some q := by rw [List.getElem?_eq_getElem (by omega), hjq]
  rw [e', List.getElem?_append_left hj] at this
  exact List.mem_of_getElem? this
def ready (rd : Nat -> List Nat) (row : List Nat) (i : Nat) : Bool := !decide (i ∈ row) && (rd i).all fun q => decide (q ∈ row)
def pick (rd : Nat -> List Nat) (n : Nat) (row : List Nat) : Option Nat := (List.range n).find? (ready rd row)
def more (rd : Nat -> List Nat) (n : Nat) (row : List Nat) : List Nat := match pick rd n row with | none => row | some i => row ++ [i]
def greedy (rd : Nat -> List Nat) (n : Nat) : Nat -> List Nat
  | 0 => []
  | k + 1 => more rd n (greedy rd n k)
structure Part (rd : Nat -> List Nat) (n : Nat) (row : List Nat) : Prop where
  nodup : row.Nodup
  mem : ∀ q ∈ row, q < n
  ahead : ∀ r1 p r2, row = r1 ++ p :: r2 -> ∀ q ∈ rd p, q ∈ r1
theorem zgD {rd : Nat -> List Nat} {row : List Nat} {i : Nat} : ready rd row i = true ↔ i ∉ row /\ ∀ q ∈ rd i, q ∈ row := by
  unfold ready; simp
theorem znf {r1 r2 row : List Nat} {p i : Nat} (e : row ++ [i] = r1 ++ p :: r2) : (r2 = [] /\ p = i /\ r1 = row) \/ ∃ r3, r2 = r3 ++ [i] /\ row = r1 ++ p :: r3 := by
  rcases List.eq_nil_or_concat r2 with rfl | ⟨r3, b, rfl⟩
  · left
    have h2 := List.append_inj' e rfl
    exact ⟨rfl, by simpa using h2.2.symm, h2.1.symm⟩
  · right
    rw [List.concat_eq_append] at e ⊢
    have e2 : row ++ [i] = (r1 ++ p :: r3) ++ [b] := by rw [e]; simp
    have h2 := List.append_inj' e2 rfl
    exact ⟨r3, by simpa using h2.2.symm, h2.1⟩
theorem Part.more {rd : Nat -> List Nat} {n : Nat} {row : List Nat} (h : Part rd n row) : Part rd n (more rd n row) := by
  change Part rd n (match pick rd n row with | none => row | some i => row ++ [i])
  rcases hp : pick rd n row with _ | i
  · exact h
  · unfold pick at hp
    have hi := List.find?_some hp
    have hin := List.mem_of_find?_eq_some hp
    rw [zgD] at hi
    refine ⟨?_, fun q hq => ?_, fun r1 p r2 e q hq => ?_⟩
    · rw [List.nodup_append]
      exact ⟨h.nodup, by simp, fun a ha b hb => by rw [List.mem_singleton] at hb; subst hb; exact fun e => hi.1 (e ▸ ha)⟩
    · rcases List.mem_append.1 hq with hq | hq
      · exact h.mem q hq
      · rw [List.mem_singleton] at hq; subst hq; exact List.mem_range.1 hin
    · rcases znf e with ⟨_, rfl, rfl⟩ | ⟨r3, _, e3⟩
      · exact hi.2 q hq
      · exact h.ahead r1 p r3 e3 q hq
theorem zbK (rd : Nat -> List Nat) (n : Nat) : ∀ k, Part rd n (greedy rd n k)
  | 0 => ⟨by simp [greedy], fun q hq => by simp [greedy] at hq, fun r1 p r2 e => by simp [greedy] at e⟩
  | k + 1 => (zbK rd n k).more
theorem Part.zpa {rd : Nat -> List Nat} {n : Nat} {row : List Nat} (h : Part rd n row) (hl : row.length = n) : zjM rd n row :=
  ⟨h.nodup, fun q => ⟨h.mem q, zpR h.nodup h.mem hl q⟩, h.ahead⟩
theorem zor {rd : Nat -> List Nat} {n : Nat} {rk : Nat -> Nat} (hr : ziG rd n rk) (row : List Nat) : ∀ r p, p < n -> p ∉ row -> rk p <= r -> ∃ i, pick rd n row = some i := by
  intro r
  have fin : ∀ p, p < n -> p ∉ row -> (∀ q ∈ rd p, q ∈ row) -> ∃ i, pick rd n row = some i := by
    intro p hp hm ha
    have : (pick rd n row).isSome := by
      unfold pick
      rw [List.find?_isSome]
      exact ⟨p, List.mem_range.2 hp, zgD.2 ⟨hm, ha⟩⟩
    exact Option.isSome_iff_exists.1 this
  induction r with
  | zero =>
    intro p hp hm hk
    refine fin p hp hm (fun q hq => ?_)
    have := (hr.2 p hp q hq).2; omega
  | succ r ih =>
    intro p hp hm hk
    by_cases ha : ∀ q ∈ rd p, q ∈ row
    · exact fin p hp hm ha
    · have : ∃ q, q ∈ rd p /\ q ∉ row := by
        by_cases h : ∃ q, q ∈ rd p /\ q ∉ row
        · exact h
        · exact absurd (fun q hq => Classical.byContradiction fun hn => h ⟨q, hq, hn⟩) ha
      obtain ⟨q, hq, hqm⟩ := this
      have h1 := hr.2 p hp q hq
      exact ih q h1.1 hqm (by omega)
theorem zg4 {rd : Nat -> List Nat} {n : Nat} {rk : Nat -> Nat} (hr : ziG rd n rk) : ∀ k, k <= n -> (greedy rd n k).length = k := by
  intro k
  induction k with
  | zero => intro _; rfl
  | succ k ih =>
    intro hk
    have hl := ih (by omega)
    have hpart := zbK rd n k
    have : ∃ p, p < n /\ p ∉ greedy rd n k := by
      by_cases h : ∃ p, p < n /\ p ∉ greedy rd n k
      · exact h
      · exfalso
        have := zbp (List.range n) (greedy rd n k) List.nodup_range (fun x hx => Classical.byContradiction fun hn => h ⟨x, List.mem_range.1 hx, hn⟩)
        simp only [List.length_range] at this; omega
    obtain ⟨p, hp, hm⟩ := this
    obtain ⟨i, hi⟩ := zor hr (greedy rd n k) (rk p) p hp hm (Nat.le_refl _)
    show (more rd n (greedy rd n k)).length = k + 1
    unfold more; rw [hi]; simp [hl]
theorem zhj {rd : Nat -> List Nat} {n : Nat} (hrd : ∀ p, p < n -> ∀ q ∈ rd p, q < n) : (zD rd n).1 = decide ((greedy rd n n).length = n) := by
  by_cases h : (zD rd n).1 = true
  · rw [h]; exact (decide_eq_true (zg4 (zdo hrd h).zkV n (Nat.le_refl _))).symm
  · have hf : (zD rd n).1 = false := by simpa using h
    rw [hf]
    symm
    rw [decide_eq_false_iff_not]
    intro hl
    exact h (ziO ((zbK rd n n).zpa hl).zkV)
def zQ {α : Type} (D : Nat -> List α -> α) (row : List Nat) (vs : List α) : List α := row.foldl (fun us p => us.set p (D p us)) vs
theorem qX {α : Type} (D : Nat -> List α -> α) : ∀ (row : List Nat) (vs : List α), (zQ D row vs).length = vs.length := by
  intro row
  induction row with
  | nil => intro vs; rfl
  | cons a l ih => intro vs; show (zQ D l (vs.set a (D a vs))).length = _; rw [ih]; simp
theorem zd9 {α : Type} (D : Nat -> List α -> α) (p : Nat) : ∀ (row : List Nat) (vs : List α), p ∉ row -> (zQ D row vs)[p]? = vs[p]? := by
  intro row
  induction row with
  | nil => intro vs _; rfl
  | cons a l ih =>
    intro vs h
    rw [List.mem_cons] at h
    show (zQ D l (vs.set a (D a vs)))[p]? = _
    rw [ih _ (fun hm => h (Or.inr hm)), List.getElem?_set_ne (fun e => h (Or.inl e.symm))]
theorem zcl {α : Type} (D : Nat -> List α -> α) (r1 r2 : List Nat) (vs : List α) : zQ D (r1 ++ r2) vs = zQ D r2 (zQ D r1 vs) := by
  unfold zQ; rw [List.foldl_append]
theorem zns {α : Type} (D : Nat -> List α -> α) (r1 r2 : List Nat) (p : Nat) (vs : List α) (hp : p < vs.length) (h2 : p ∉ r2) : (zQ D (r1 ++ p :: r2) vs)[p]? = some (D p (zQ D r1 vs)) := by
  rw [zcl]
  show (zQ D r2 ((zQ D r1 vs).set p (D p (zQ D r1 vs))))[p]? = _
  rw [zd9 D p r2 _ h2, List.getElem?_set_self (by rw [qX]; exact hp)]
def zqg {α : Type} (rd : Nat -> List Nat) (n : Nat) (D : Nat -> List α -> α) : Prop := ∀ p, p < n -> ∀ us vs : List α, us.length = n -> vs.length = n -> (∀ q ∈ rd p, us[q]? = vs[q]?) -> us[p]? = vs[p]? -> D p us = D p vs
theorem zfo {α : Type} {D : Nat -> List α -> α} {rd : Nat -> List Nat} {n : Nat} {row : List Nat} (h : zjM rd n row) (vs : List α) (hl : vs.length = n) (p : Nat) (hp : p < n) :
    ∃ us : List α, us.length = n /\ (zQ D row vs)[p]? = some (D p us) /\ us[p]? = vs[p]? /\ ∀ q ∈ rd p, us[q]? = (zQ D row vs)[q]? := by
  obtain ⟨r1, r2, e⟩ := List.append_of_mem ((h.mem p).2 hp)
  have hnd := h.nodup
  rw [e, List.nodup_append] at hnd
  have hp1 : p ∉ r1 := fun hm => hnd.2.2 p hm p (by simp) rfl
  have hp2 : p ∉ r2 := (List.nodup_cons.1 hnd.2.1).1
  refine ⟨zQ D r1 vs, by rw [qX, hl], by rw [e]; exact zns D r1 r2 p vs (by omega) hp2, zd9 D p r1 vs hp1, fun q hq => ?_⟩
  have hq1 := h.ahead r1 p r2 e q hq
  have hq2 : q ∉ p :: r2 := fun hm => hnd.2.2 q hq1 q hm rfl
  rw [e, zcl, zd9 D q _ _ hq2]
theorem zlW {α : Type} {D : Nat -> List α -> α} {rd : Nat -> List Nat} {n : Nat} {r r' : List Nat} (h : zjM rd n r) (h' : zjM rd n r') (hD : zqg rd n D) (vs : List α) (hl : vs.length = n) : zQ D r vs = zQ D r' vs := by
  have hr := h.zkV
  have key : ∀ k p, p < n -> r.idxOf p < k -> (zQ D r vs)[p]? = (zQ D r' vs)[p]? := by
    intro k
    induction k with
    | zero => intro p _ hk; omega
    | succ k ih =>
      intro p hp hk
      obtain ⟨us, u1, u2, u3, u4⟩ := zfo (D := D) h vs hl p hp
      obtain ⟨us', u1', u2', u3', u4'⟩ := zfo (D := D) h' vs hl p hp
      rw [u2, u2']
      congr 1
      refine hD p hp us us' u1 u1' (fun q hq => ?_) (u3.trans u3'.symm)
      have h1 := hr.2 p hp q hq
      have h2 : r.idxOf q < r.idxOf p := h1.2
      rw [u4 q hq, u4' q hq]
      exact ih q h1.1 (by omega)
  apply List.ext_getElem?
  intro p
  rcases Nat.lt_or_ge p n with hp | hp
  · exact key (r.idxOf p + 1) p hp (Nat.lt_succ_self _)
  · rw [List.getElem?_eq_none (by rw [qX, hl]; exact hp), List.getElem?_eq_none (by rw [qX, hl]; exact hp)]
end Go.Proofs.YtfpeplbmfbepcaaGreat.Gate

namespace Go.Proofs.YtfpeplbmfbepcaaGreat
theorem zkW {F : Fence} {n : Nat} {P : Program} {id : Nat} {ops : Array Oper} {b : Bool} {Q : Exit -> Act -> World -> Prop} {a : Act} {w : World} (R : Act -> World -> Prop) (h1 : (Code.region id ops b).wpIn F n P (fun e a' w' => e = .normal /\ R a' w') a w) (h2 : ∀ a' w', R a' w' -> Q .normal a' w') : (Code.region id ops b).wpIn F n P Q a w :=
  Code.wpIn_mono (fun e a' w' ⟨he, hr⟩ => by subst he; exact h2 a' w' hr) h1
theorem zmm {F : Fence} {n : Nat} {P : Program} {id : Nat} {ops : Array Oper} {b : Bool} {Q : Exit -> Act -> World -> Prop} {a : Act} {w : World} (R : Act -> World -> Prop) (h1 : (Code.region id ops b).wpIn F n P (Exit.then R (fun _ _ _ => False)) a w) (h2 : ∀ a' w', R a' w' -> Q .normal a' w') : (Code.region id ops b).wpIn F n P Q a w :=
  Code.wpIn_mono (fun e a' w' hr => by cases e <;> first | exact h2 a' w' hr | exact False.elim hr) h1
end Go.Proofs.YtfpeplbmfbepcaaGreat
