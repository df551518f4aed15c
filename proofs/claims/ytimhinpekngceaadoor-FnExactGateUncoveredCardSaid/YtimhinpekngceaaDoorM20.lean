import Derived.Test.YtimhinpekngceaaDoorM08
namespace Go.Proofs.YtimhinpekngceaaDoor
namespace Gate

/-- The least verb of a set of verbs, 8 if it is empty. -/
def low5 (a b c d e : Bool) : Int := if a then 1 else if b then 2 else if c then 3 else if d then 4 else if e then 5 else 8
def low (f : Int → Bool) : Int := low5 (f 1) (f 2) (f 3) (f 4) (f 5)

theorem low_is {f : Int → Bool} {x : Int} (hx : 1 ≤ x ∧ x ≤ 5) (hf : f x = true) (hn : ∀ v, 1 ≤ v → v < x → f v = false) : low f = x := by
  have hc : x = 1 ∨ x = 2 ∨ x = 3 ∨ x = 4 ∨ x = 5 := by omega
  unfold low low5
  rcases hc with rfl | rfl | rfl | rfl | rfl
  · simp [hf]
  · simp [hf, hn 1 (by omega) (by omega)]
  · simp [hf, hn 1 (by omega) (by omega), hn 2 (by omega) (by omega)]
  · simp [hf, hn 1 (by omega) (by omega), hn 2 (by omega) (by omega), hn 3 (by omega) (by omega)]
  · simp [hf, hn 1 (by omega) (by omega), hn 2 (by omega) (by omega), hn 3 (by omega) (by omega), hn 4 (by omega) (by omega)]

theorem verbs_less {vs : List Int} (h : verbsOk vs = true) : ∀ (j : Nat) (hj : j < vs.length) (i : Nat) (hi : i < j), vs[i]'(by omega) < vs[j] := by
  unfold verbsOk at h
  rw [Bool.and_eq_true] at h
  intro j
  induction j with
  | zero => intro _ i hi; omega
  | succ j ih =>
    intro hj i hi
    have h1 := up_at hj h.2
    unfold verbAt at h1
    rw [getD_at vs (j + 1) _ hj, Nat.add_sub_cancel, getD_at vs j _ (by omega)] at h1
    simp only [Bool.and_eq_true] at h1
    have h2 : vs[j] < vs[j + 1] := by simpa using h1.2
    rcases Nat.lt_or_ge i j with hlt | hge
    · exact Int.lt_trans (ih (by omega) i hlt) h2
    · have e : i = j := by omega
      subst e; exact h2

/-- The first verb that lacks is the least one. -/
theorem lacks_low {ts : List Tm} (hok : teamsOk ts = true) (rs : List Rl) {r : Rl} (hv : verbsOk r.vs = true) (hne : ¬ (leftBits ts rs r == 0) = true) : lacksS ts rs r = low (lacksAt ts rs r) ∧ ¬ lacksS ts rs r = 0 := by
  rw [left_zero_iff rs hv] at hne
  rw [lacks_find hok]
  cases hf : r.vs.find? (fun v => !(rs.any fun q => covs ts r q v)) with
  | none =>
    rw [List.find?_eq_none] at hf
    exact absurd (fun v hm => by simpa using hf v hm) hne
  | some x =>
    have hx := List.mem_of_find?_eq_some hf
    have hp := List.find?_some hf
    obtain ⟨i, hi, rfl⟩ := List.mem_iff_getElem.1 hx
    have h5 := verbsOk_at hv i hi
    refine ⟨(low_is h5 ?_ ?_).symm, by show ¬ r.vs[i] = 0; omega⟩
    · unfold lacksAt
      have hh : hasVerb r.vs r.vs[i] = true := hasVerb_at r.vs _ i hi rfl
      rw [hh]
      simpa using hp
    · intro v _ hlt
      unfold lacksAt
      cases hh : hasVerb r.vs v
      · rfl
      · unfold hasVerb at hh
        rw [List.any_eq_true] at hh
        obtain ⟨y, hy, he⟩ := hh
        have e : y = v := by simpa using he
        subst e
        obtain ⟨k, hk, rfl⟩ := List.mem_iff_getElem.1 hy
        have hki : k < i := by
          rcases Nat.lt_or_ge k i with h | h
          · exact h
          · rcases Nat.eq_or_lt_of_le h with e | h
            · subst e; omega
            · have := verbs_less hv k hk i h; omega
        rw [List.find?_eq_some_iff_getElem] at hf
        obtain ⟨_, j, hj, he2, hb⟩ := hf
        have hij : i = j := by
          rcases Nat.lt_trichotomy i j with h | h | h
          · have := verbs_less hv j hj i h; omega
          · exact h
          · have := verbs_less hv i hi j h; omega
        subst hij
        have := hb k hki
        simpa using this

end Gate
end Go.Proofs.YtimhinpekngceaaDoor
