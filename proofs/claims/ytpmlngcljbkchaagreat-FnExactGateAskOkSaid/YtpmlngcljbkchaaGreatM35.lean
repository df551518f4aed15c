import Derived.Test.YtpmlngcljbkchaaGreatM34
namespace Go.Proofs.YtpmlngcljbkchaaGreat.Gate

theorem shapes_at {ss : List Shp} (h : shapesOk ss = true) (i : Nat) (hi : i < ss.length) : shapeAt ss i = true := by
  unfold shapesOk at h
  rw [Bool.and_eq_true] at h
  exact up_at hi h.2

theorem kinds_less {ss : List Shp} (h : shapesOk ss = true) : ∀ (j : Nat) (hj : j < ss.length) (i : Nat) (hi : i < j), less (ss[i]'(by omega)).kd ss[j].kd = true := by
  intro j
  induction j with
  | zero => intro _ i hi; omega
  | succ j ih =>
    intro hj i hi
    have h1 := shapes_at h (j + 1) hj
    rw [shapeAt_more ss j hj] at h1
    simp only [Bool.and_eq_true] at h1
    have h2 := h1.1.2
    rcases Nat.lt_or_ge i j with hlt | hge
    · exact bytesLess_trans _ _ _ (ih (by omega) i hlt) h2
    · have e : i = j := by omega
      subst e; exact h2

theorem shapeOf_self {ss : List Shp} (h : shapesOk ss = true) (i : Nat) (hi : i < ss.length) : shapeOf ss ss[i].kd = ss[i] := by
  refine shapeOf_at ss _ i hi ?_ rfl
  unfold hasKind
  rw [List.any_eq_false]
  intro x hx
  obtain ⟨k, hk, rfl⟩ := List.mem_iff_getElem.1 hx
  have hk' : k < i := by simp at hk; omega
  have h1 := kinds_less h i hi k hk'
  simp only [List.getElem_take, decide_eq_true_eq]
  intro e
  unfold less at h1
  rw [e, bytesLess_irrefl] at h1
  cases h1

theorem fields_few {ss : List Shp} (h : shapesOk ss = true) (i : Nat) (hi : i < ss.length) : ss[i].fs.length ≤ 6 := by
  have h1 := shapes_at h i hi
  unfold shapeAt at h1
  rw [getD_at ss i _ hi] at h1
  simp only [Bool.and_eq_true] at h1
  have h2 := h1.2
  unfold fieldsOk at h2
  simp only [Bool.and_eq_true, decide_eq_true_eq] at h2
  exact h2.1

/-- A mend is as it must be. -/
def mendAt (ss : List Shp) (m : Mnd) : Bool := hasKind ss m.kd && mendOk (shapeOf ss m.kd).fs m
/-- The fields of each kind can be put in a row. -/
def rowOk (ms : List Mnd) (s : Shp) : Bool := (walkAll (readsN s ms) s.fs.length).1
def mendsOk (ss : List Shp) (ms : List Mnd) : Bool := decide (ms.length ≤ 12) && shapesOk ss && ms.all (mendAt ss) && ss.all (rowOk ms)

theorem reads_ok {ss : List Shp} {ms : List Mnd} (h : shapesOk ss = true) (hm : ms.all (mendAt ss) = true) (i : Nat) (hi : i < ss.length) : ∀ q, q < ss[i].fs.length → ∀ x ∈ readsI ss[i] ms q, 0 ≤ x ∧ x < ss[i].fs.length := by
  intro q _ x hx
  unfold readsI at hx
  obtain ⟨m, hmm, hx⟩ := List.mem_flatMap.1 hx
  by_cases ht : turns m ss[i] q = true
  · rw [if_pos ht] at hx
    obtain ⟨v, hv, rfl⟩ := List.mem_map.1 hx
    unfold turns at ht
    simp only [Bool.and_eq_true, decide_eq_true_eq] at ht
    have h1 := List.all_eq_true.1 hm m hmm
    unfold mendAt at h1
    rw [ht.1, shapeOf_self h i hi] at h1
    simp only [Bool.and_eq_true] at h1
    have h2 := h1.2
    unfold mendOk at h2
    simp only [Bool.and_eq_true] at h2
    have h3 := List.all_eq_true.1 h2.1.2 v hv
    unfold nameFits at h3
    simp only [Bool.and_eq_true] at h3
    rcases field_cases ss[i].fs v with ⟨_, h5⟩ | ⟨k, hk, h4, _⟩
    · rw [plain_none h5] at h3; exact absurd h3.2 (by simp)
    · rw [h4]; omega
  · rw [if_neg ht] at hx; cases hx

end Go.Proofs.YtpmlngcljbkchaaGreat.Gate
