import Derived.Test.YtpmlngcljbkchaaGreatM40
namespace Go.Proofs.YtpmlngcljbkchaaGreat.Gate

theorem has_iff (ws : List ByteArray) (v : ByteArray) : has ws v = true ↔ v ∈ ws := by
  unfold has
  rw [List.any_eq_true]
  constructor
  · rintro ⟨x, hx, he⟩
    have : x = v := by simpa using he
    rw [← this]; exact hx
  · intro h; exact ⟨v, h, by simp⟩

theorem field_at {ss : List Shp} (h : shapesOk ss = true) (i : Nat) (hi : i < ss.length) (j : Nat) (hj : j < ss[i].fs.length) : okAt ss ss[i].fs j = true := by
  have h1 := shapes_at h i hi
  unfold shapeAt at h1
  rw [getD_at ss i _ hi] at h1
  simp only [Bool.and_eq_true] at h1
  have h2 := h1.2
  unfold fieldsOk at h2
  simp only [Bool.and_eq_true] at h2
  exact up_at hj h2.2

theorem field_named {ss : List Shp} (h : shapesOk ss = true) (i : Nat) (hi : i < ss.length) (j : Nat) (hj : j < ss[i].fs.length) : isSet ss[i].fs[j].nm = true := by
  have h1 := field_at h i hi j hj
  rw [okAt_eq _ _ _ hj] at h1
  simp only [Bool.and_eq_true] at h1
  have h2 := h1.1.1
  rw [isSet_iff]
  intro e
  rw [e] at h2
  revert h2
  decide

theorem names_apart {ss : List Shp} (h : shapesOk ss = true) (i : Nat) (hi : i < ss.length) (j k : Nat) (hj : j < k) (hk : k < ss[i].fs.length) : (ss[i].fs[j]'(by omega)).nm ≠ ss[i].fs[k].nm := by
  have h1 := field_at h i hi k hk
  rw [okAt_eq _ _ _ hk] at h1
  simp only [Bool.and_eq_true, Bool.not_eq_true'] at h1
  have h2 := h1.1.2
  intro e
  unfold hasName at h2
  rw [List.any_eq_false] at h2
  have hm : ss[i].fs[j]'(by omega) ∈ ss[i].fs.take k := by
    rw [List.mem_iff_getElem]
    exact ⟨j, by simp; omega, by simp⟩
  exact h2 _ hm (by simpa using e)

theorem nmAt_inj {ss : List Shp} (h : shapesOk ss = true) (i : Nat) (hi : i < ss.length) (j k : Nat) (hj : j < ss[i].fs.length) (hk : k < ss[i].fs.length) (e : nmAt ss[i] j = nmAt ss[i] k) : j = k := by
  unfold nmAt at e
  rw [getD_at _ _ _ hj, getD_at _ _ _ hk] at e
  rcases Nat.lt_trichotomy j k with h1 | h1 | h1
  · exact absurd e (names_apart h i hi j k h1 hk)
  · exact h1
  · exact absurd e.symm (names_apart h i hi k j h1 hj)

theorem mend_spec {ss : List Shp} (h : shapesOk ss = true) (m : Mnd) : mendAt ss m = specAt ss m := by
  unfold mendAt specAt
  by_cases hk : hasKind ss m.kd = true
  · rw [hk, Bool.true_and, Bool.true_and]
    unfold hasKind at hk
    rw [List.any_eq_true] at hk
    obtain ⟨x, hx, he⟩ := hk
    obtain ⟨i, hi, rfl⟩ := List.mem_iff_getElem.1 hx
    have hkd : ss[i].kd = m.kd := by simpa using he
    rw [← hkd, shapeOf_self h i hi]
    unfold mendOk specOk
    by_cases hp : plain ss[i].fs m.fd = true
    · have hfd : isSet m.fd = true := by
        rcases field_cases ss[i].fs m.fd with ⟨_, h2⟩ | ⟨k, hk', _, h2, _⟩
        · rw [plain_none h2] at hp; cases hp
        · rw [← h2]; exact field_named h i hi k hk'
      have hne : ∀ v, isSet v = false → v ≠ m.fd := fun v hv e => by rw [e, hfd] at hv; cases hv
      rw [hp, Bool.true_and, Bool.true_and]
      have e : (readNames m).all (nameFits ss[i].fs m) = ((!isSet m.wh || plain ss[i].fs m.wh) && (!isSet m.fr || plain ss[i].fs m.fr) && !decide (m.wh = m.fd) && !decide (m.fr = m.fd)) := by
        unfold readNames
        rw [List.all_filter]
        unfold nameFits
        rcases hw : isSet m.wh with _ | _ <;> rcases hf : isSet m.fr with _ | _
        · simp [hw, hf, hne _ hw, hne _ hf]
        · simp [hw, hf, hne _ hw]
          cases plain ss[i].fs m.fr <;> simp
        · simp [hw, hf, hne _ hf]
          cases plain ss[i].fs m.wh <;> simp
        · simp [hw, hf]
          cases plain ss[i].fs m.wh <;> cases plain ss[i].fs m.fr <;> simp
      rw [e]
    · have hpf : plain ss[i].fs m.fd = false := by simpa using hp
      rw [hpf]; simp
  · have hkf : hasKind ss m.kd = false := by simpa using hk
    rw [hkf]; rfl

theorem ready_same {ss : List Shp} {ms : List Mnd} (h : shapesOk ss = true) (hm : ms.all (mendAt ss) = true) (i : Nat) (hi : i < ss.length) (row : List Nat) (hrow : ∀ q ∈ row, q < ss[i].fs.length) (j : Nat) (hj : j < ss[i].fs.length) :
    readyName ss[i] ms (row.map (nmAt ss[i])) j = ready (readsN ss[i] ms) row j := by
  have hmem : ∀ q, q < ss[i].fs.length → (has (row.map (nmAt ss[i])) (nmAt ss[i] q) = true ↔ q ∈ row) := by
    intro q hq
    rw [has_iff, List.mem_map]
    constructor
    · rintro ⟨p, hp, e⟩
      rw [← nmAt_inj h i hi p q (hrow p hp) hq e]; exact hp
    · intro hp; exact ⟨q, hp, rfl⟩
  rw [Bool.eq_iff_iff, ready_iff]
  unfold readyName
  rw [Bool.and_eq_true, Bool.not_eq_true', ← Bool.not_eq_true, hmem j hj]
  refine and_congr Iff.rfl ?_
  unfold readyN
  rw [List.all_eq_true]
  -- what a mend that turns j reads
  have hread : ∀ m ∈ ms, turns m ss[i] j = true → ∀ v ∈ readNames m, ∃ q, q < ss[i].fs.length ∧ fieldIx ss[i].fs v = (q : Int) ∧ nmAt ss[i] q = v := by
    intro m hmm ht v hv
    unfold turns at ht
    simp only [Bool.and_eq_true, decide_eq_true_eq] at ht
    have h1 := List.all_eq_true.1 hm m hmm
    unfold mendAt at h1
    rw [ht.1, shapeOf_self h i hi] at h1
    simp only [Bool.and_eq_true] at h1
    have h2 := h1.2
    unfold mendOk at h2
    simp only [Bool.and_eq_true] at h2
    have h3 := List.all_eq_true.1 h2.1.2 v hv
    unfold nameFits at h3
    simp only [Bool.and_eq_true] at h3
    rcases field_cases ss[i].fs v with ⟨_, h5⟩ | ⟨k, hk, h4, h5, _⟩
    · rw [plain_none h5] at h3; exact absurd h3.2 (by simp)
    · exact ⟨k, hk, h4, by unfold nmAt; rw [getD_at _ _ _ hk]; exact h5⟩
  have hR : ∀ m, mendReady ss[i].kd (nmAt ss[i] j) (row.map (nmAt ss[i])) m = true ↔ (turns m ss[i] j = true → ∀ v ∈ readNames m, has (row.map (nmAt ss[i])) v = true) := by
    intro m
    have e1 : turns m ss[i] j = (decide (m.kd = ss[i].kd) && decide (m.fd = nmAt ss[i] j)) := rfl
    unfold mendReady
    rw [← e1]
    rcases turns m ss[i] j with _ | _
    · simp
    · unfold readNames
      rcases hw : isSet m.wh with _ | _ <;> rcases hf : isSet m.fr with _ | _ <;> simp [hw, hf]
  constructor
  · intro hall q hq
    unfold readsN at hq
    obtain ⟨x, hx, rfl⟩ := List.mem_map.1 hq
    unfold readsI at hx
    obtain ⟨m, hmm, hx⟩ := List.mem_flatMap.1 hx
    by_cases ht : turns m ss[i] j = true
    · rw [if_pos ht] at hx
      obtain ⟨v, hv, rfl⟩ := List.mem_map.1 hx
      obtain ⟨q, hq, e1, e2⟩ := hread m hmm ht v hv
      have := (hR m).1 (hall m hmm) ht v hv
      rw [e1, Int.toNat_natCast]
      rw [← e2] at this
      exact (hmem q hq).1 this
    · rw [if_neg ht] at hx; cases hx
  · intro hall m hmm
    rw [hR]
    intro ht v hv
    obtain ⟨q, hq, e1, e2⟩ := hread m hmm ht v hv
    rw [← e2, hmem q hq]
    refine hall q ?_
    unfold readsN
    rw [List.mem_map]
    refine ⟨(q : Int), ?_, Int.toNat_natCast _⟩
    unfold readsI
    rw [List.mem_flatMap]
    refine ⟨m, hmm, ?_⟩
    rw [if_pos ht, List.mem_map]
    exact ⟨v, hv, e1⟩

theorem find_congr {α : Type} {f g : α → Bool} : ∀ {l : List α}, (∀ x ∈ l, f x = g x) → l.find? f = l.find? g
  | [], _ => rfl
  | a :: l, h => by
    have h1 := h a (by simp)
    have h2 := find_congr (f := f) (g := g) (l := l) (fun x hx => h x (by simp [hx]))
    rw [List.find?_cons, List.find?_cons, h1, h2]

theorem greedy_names {ss : List Shp} {ms : List Mnd} (h : shapesOk ss = true) (hm : ms.all (mendAt ss) = true) (i : Nat) (hi : i < ss.length) : ∀ k, greedyN ss[i] ms k = (greedy (readsN ss[i] ms) ss[i].fs.length k).map (nmAt ss[i])
  | 0 => rfl
  | k + 1 => by
    show moreN ss[i] ms (greedyN ss[i] ms k) = (more (readsN ss[i] ms) ss[i].fs.length (greedy (readsN ss[i] ms) ss[i].fs.length k)).map (nmAt ss[i])
    rw [greedy_names h hm i hi k]
    have hpart := greedy_part (readsN ss[i] ms) ss[i].fs.length k
    have e : (List.range ss[i].fs.length).find? (readyName ss[i] ms ((greedy (readsN ss[i] ms) ss[i].fs.length k).map (nmAt ss[i]))) = pick (readsN ss[i] ms) ss[i].fs.length (greedy (readsN ss[i] ms) ss[i].fs.length k) := by
      unfold pick
      apply find_congr
      intro x hx
      exact ready_same h hm i hi _ hpart.mem x (List.mem_range.1 hx)
    unfold moreN more
    rw [e]
    cases pick (readsN ss[i] ms) ss[i].fs.length (greedy (readsN ss[i] ms) ss[i].fs.length k) with
    | none => rfl
    | some q => simp

theorem row_same {ss : List Shp} {ms : List Mnd} (h : shapesOk ss = true) (hm : ms.all (mendAt ss) = true) (i : Nat) (hi : i < ss.length) : rowOk ms ss[i] = rowOkS ms ss[i] := by
  unfold rowOk rowOkS
  rw [greedy_names h hm i hi, List.length_map]
  refine walk_iff_greedy (fun p hp q hq => ?_)
  unfold readsN at hq
  obtain ⟨x, hx, rfl⟩ := List.mem_map.1 hq
  have := reads_ok h hm i hi p hp x hx
  omega

theorem mendsOk_same (ss : List Shp) (ms : List Mnd) : mendsOk ss ms = mendsOkS ss ms := by
  unfold mendsOk mendsOkS
  by_cases h : shapesOk ss = true
  · have e1 : ms.all (specAt ss) = ms.all (mendAt ss) := by congr 1; funext m; exact (mend_spec h m).symm
    rw [e1, h]
    by_cases hm : ms.all (mendAt ss) = true
    · have e2 : ss.all (rowOk ms) = ss.all (rowOkS ms) := by
        rw [Bool.eq_iff_iff, List.all_eq_true, List.all_eq_true]
        constructor
        · intro ha x hx
          obtain ⟨i, hi, rfl⟩ := List.mem_iff_getElem.1 hx
          rw [← row_same h hm i hi]; exact ha _ hx
        · intro ha x hx
          obtain ⟨i, hi, rfl⟩ := List.mem_iff_getElem.1 hx
          rw [row_same h hm i hi]; exact ha _ hx
      rw [e2]; cases decide (ms.length ≤ 12) <;> simp
    · have hmf : ms.all (mendAt ss) = false := by simpa using hm
      rw [hmf]; simp
  · have hf : shapesOk ss = false := by simpa using h
    rw [hf]; simp

end Go.Proofs.YtpmlngcljbkchaaGreat.Gate
