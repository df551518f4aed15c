import Derived.Test.YthldiefbpemoaaaGreatM30
import Derived.Test.YthldiefbpemoaaaGreatM26
import Derived.Test.YthldiefbpemoaaaGreatM25
import Derived.Test.YthldiefbpemoaaaGreatM17
import Derived.Test.YthldiefbpemoaaaGreatM15
import Derived.Test.YthldiefbpemoaaaGreatM16
namespace Go.Proofs.YthldiefbpemoaaaGreat.Gate

theorem has_iff (ws : List ByteArray) (v : ByteArray) : has ws v = true ↔ v ∈ ws := by
  unfold has
  rw [List.any_eq_true]
  constructor
  · rintro ⟨x, hx, he⟩
    have : x = v := by simpa using he
    rw [← this]; exact hx
  · intro h; exact ⟨v, h, by simp⟩

theorem field_at {ss : List Shp} (h : shapesOk ss = true) (i : Nat) (hi : i < ss.length) (j : Nat) (hj : j < ss[i].fs.length) : okAt ss ss[i].fs j = true := by
  have h1 := shapes_at h i hi
  unfold shapeAt at h1
  rw [getD_at ss i _ hi] at h1
  simp only [Bool.and_eq_true] at h1
  have h2 := h1.2
  unfold fieldsOk at h2
  simp only [Bool.and_eq_true] at h2
  exact up_at hj h2.2

theorem field_named {ss : List Shp} (h : shapesOk ss = true) (i : Nat) (hi : i < ss.length) (j : Nat) (hj : j < ss[i].fs.length) : isSet ss[i].fs[j].nm = true := by
  have h1 := field_at h i hi j hj
  rw [okAt_eq _ _ _ hj] at h1
  simp only [Bool.and_eq_true] at h1
  have h2 := h1.1.1
  rw [isSet_iff]
  intro e
  rw [e] at h2
  revert h2
  decide

theorem names_apart {ss : List Shp} (h : shapesOk ss = true) (i : Nat) (hi : i < ss.length) (j k : Nat) (hj : j < k) (hk : k < ss[i].fs.length) : (ss[i].fs[j]'(by omega)).nm ≠ ss[i].fs[k].nm := by
  have h1 := field_at h i hi k hk
  rw [okAt_eq _ _ _ hk] at h1
  simp only [Bool.and_eq_true, Bool.not_eq_true'] at h1
  have h2 := h1.1.2
  intro e
  unfold hasName at h2
  rw [List.any_eq_false] at h2
  have hm : ss[i].fs[j]'(by omega) ∈ ss[i].fs.take k := by
    rw [List.mem_iff_getElem]
    exact ⟨j, by simp; omega, by simp⟩
  exact h2 _ hm (by simpa using e)

theorem nmAt_inj {ss : List Shp} (h : shapesOk ss = true) (i : Nat) (hi : i < ss.length) (j k : Nat) (hj : j < ss[i].fs.length) (hk : k < ss[i].fs.length) (e : nmAt ss[i] j = nmAt ss[i] k) : j = k := by
  unfold nmAt at e
  rw [getD_at _ _ _ hj, getD_at _ _ _ hk] at e
  rcases Nat.lt_trichotomy j k with h1 | h1 | h1
  · exact absurd e (names_apart h i hi j k h1 hk)
  · exact h1
  · exact absurd e.symm (names_apart h i hi k j h1 hj)

theorem mend_spec {ss : List Shp} (h : shapesOk ss = true) (m : Mnd) : mendAt ss m = specAt ss m := by
  unfold mendAt specAt
  by_cases hk : hasKind ss m.kd = true
  · rw [hk, Bool.true_and, Bool.true_and]
    unfold hasKind at hk
    rw [List.any_eq_true] at hk
    obtain ⟨x, hx, he⟩ := hk
    obtain ⟨i, hi, rfl⟩ := List.mem_iff_getElem.1 hx
    have hkd : ss[i].kd = m.kd := by simpa using he
    rw [← hkd, shapeOf_self h i hi]
    unfold mendOk specOk
    by_cases hp : plain ss[i].fs m.fd = true
    · have hfd : isSet m.fd = true := by
        rcases field_cases ss[i].fs m.fd with ⟨_, h2⟩ | ⟨k, hk', _, h2, _⟩
        · rw [plain_none h2] at hp; cases hp
        · rw [← h2]; exact field_named h i hi k hk'
      have hne : ∀ v, isSet v = false → v ≠ m.fd := fun v hv e => by rw [e, hfd] at hv; cases hv
      rw [hp, Bool.true_and, Bool.true_and]
      have e : (readNames m).all (nameFits ss[i].fs m) = ((!isSet m.wh || plain ss[i].fs m.wh) && (!isSet m.fr || plain ss[i].fs m.fr) && !decide (m.wh = m.fd) && !decide (m.fr = m.fd)) := by
        unfold readNames
        rw [List.all_filter]
        unfold nameFits
        rcases hw : isSet m.wh with _ | _ <;> rcases hf : isSet m.fr with _ | _
        · simp [hw, hf, hne _ hw, hne _ hf]
        · simp [hw, hf, hne _ hw]
          cases plain ss[i].fs m.fr <;> simp
        · simp [hw, hf, hne _ hf]
          cases plain ss[i].fs m.wh <;> simp
        · simp [hw, hf]
          cases plain ss[i].fs m.wh <;> cases plain ss[i].fs m.fr <;> simp
      rw [e]
    · have hpf : plain ss[i].fs m.fd = false := by simpa using hp
      rw [hpf]; simp
  · have hkf : hasKind ss m.kd = false := by simpa using hk
    rw [hkf]; rfl

theorem ready_same {ss : List Shp} {ms : List Mnd} (h : shapesOk ss = true) (hm : ms.all (mendAt ss) = true) (i : Nat) (hi : i < ss.length) (row : List Nat) (hrow : ∀ q ∈ row, q < ss[i].fs.length) (j : Nat) (hj : j < ss[i].fs.length) :
    readyName ss[i] ms (row.map (nmAt ss[i])) j = ready (readsN ss[i] ms) row j := by
  have hmem : ∀ q, q < ss[i].fs.length → (has (row.map (nmAt ss[i])) (nmAt ss[i] q) = true ↔ q ∈ row) := by
    intro q hq
    rw [has_iff, List.mem_map]
    constructor
    · rintro ⟨p, hp, e⟩
      rw [← nmAt_inj h i hi p q (hrow p hp) hq e]; exact hp
    · intro hp; exact ⟨q, hp, rfl⟩
  rw [Bool.eq_iff_iff, ready_iff]
  unfold readyName
  rw [Bool.and_eq_true, Bool.not_eq_true', ← Bool.not_eq_true, hmem j hj]
  refine and_congr Iff.rfl ?_
  unfold readyN
  rw [List.all_eq_true]
  -- what a mend that turns j reads
  have hread : ∀ m ∈ ms, turns m ss[i] j = true → ∀ v ∈ readNames m, ∃ q, q < ss[i].fs.length ∧ fieldIx ss[i].fs v = (q : Int) ∧ nmAt ss[i] q = v := by
    intro m hmm ht v hv
    unfold turns at ht
    simp only [Bool.and_eq_true, decide_eq_true_eq] at ht
    have h1 := List.all_eq_true.1 hm m hmm
    unfold mendAt at h1
    rw [ht.1, shapeOf_self h i hi] at h1
    simp only [Bool.and_eq_true] at h1
    have h2 := h1.2
    unfold mendOk at h2
    simp only [Bool.and_eq_true] at h2
    have h3 := List.all_eq_true.1 h2.1.2 v hv
    unfold nameFits at h3
    simp only [Bool.and_eq_true] at h3
    rcases field_cases ss[i].fs v with ⟨_, h5⟩ | ⟨k, hk, h4, h5, _⟩
    · rw [plain_none h5] at h3; exact absurd h3.2 (by simp)
    · exact ⟨k, hk, h4, by unfold nmAt; rw [getD_at _ _ _ hk]; exact h5⟩
  have hR : ∀ m, mendReady ss[i].kd (nmAt ss[i] j) (row.map (nmAt ss[i])) m = true ↔ (turns m ss[i] j = true → ∀ v ∈ readNames m, has (row.map (nmAt ss[i])) v = true) := by
    intro m
    have e1 : turns m ss[i] j = (decide (m.kd = ss[i].kd) && decide (m.fd = nmAt ss[i] j)) := rfl
    unfold mendReady
    rw [← e1]
    rcases turns m ss[i] j with _ | _
    · simp
    · unfold readNames
      rcases hw : isSet m.wh with _ | _ <;> rcases hf : isSet m.fr with _ | _ <;> simp [hw, hf]
  constructor
  · intro hall q hq
    unfold readsN at hq
    obtain ⟨x, hx, rfl⟩ := List.mem_map.1 hq
    unfold readsI at hx
    obtain ⟨m, hmm, hx⟩ := List.mem_flatMap.1 hx
    by_cases ht : turns m ss[i] j = true
    · rw [if_pos ht] at hx
      obtain ⟨v, hv, rfl⟩ := List.mem_map.1 hx
      obtain ⟨q, hq, e1, e2⟩ := hread m hmm ht v hv
      have := (hR m).1 (hall m hmm) ht v hv
      rw [e1, Int.toNat_natCast]
      rw [← e2] at this
      exact (hmem q hq).1 this
    · rw [if_neg ht] at hx; cases hx
  · intro hall m hmm
    rw [hR]
    intro ht v hv
    obtain ⟨q, hq, e1, e2⟩ := hread m hmm ht v hv
    rw [← e2, hmem q hq]
    refine hall q ?_
    unfold readsN
    rw [List.mem_map]
    refine ⟨(q : Int), ?_, Int.toNat_natCast _⟩
    unfold readsI
    rw [List.mem_flatMap]
    refine ⟨m, hmm, ?_⟩
    rw [if_pos ht, List.mem_map]
    exact ⟨v, hv, e1⟩

theorem find_congr {α : Type} {f g : α → Bool} : ∀ {l : List α}, (∀ x ∈ l, f x = g x) → l.find? f = l.find? g
  | [], _ => rfl
  | a :: l, h => by
    have h1 := h a (by simp)
    have h2 := find_congr (f := f) (g := g) (l := l) (fun x hx => h x (by simp [hx]))
    rw [List.find?_cons, List.find?_cons, h1, h2]

theorem greedy_names {ss : List Shp} {ms : List Mnd} (h : shapesOk ss = true) (hm : ms.all (mendAt ss) = true) (i : Nat) (hi : i < ss.length) : ∀ k, greedyN ss[i] ms k = (greedy (readsN ss[i] ms) ss[i].fs.length k).map (nmAt ss[i])
  | 0 => rfl
  | k + 1 => by
    show moreN ss[i] ms (greedyN ss[i] ms k) = (more (readsN ss[i] ms) ss[i].fs.length (greedy (readsN ss[i] ms) ss[i].fs.length k)).map (nmAt ss[i])
    rw [greedy_names h hm i hi k]
    have hpart := greedy_part (readsN ss[i] ms) ss[i].fs.length k
    have e : (List.range ss[i].fs.length).find? (readyName ss[i] ms ((greedy (readsN ss[i] ms) ss[i].fs.length k).map (nmAt ss[i]))) = pick (readsN ss[i] ms) ss[i].fs.length (greedy (readsN ss[i] ms) ss[i].fs.length k) := by
      unfold pick
      apply find_congr
      intro x hx
      exact ready_same h hm i hi _ hpart.mem x (List.mem_range.1 hx)
    unfold moreN more
    rw [e]
    cases pick (readsN ss[i] ms) ss[i].fs.length (greedy (readsN ss[i] ms) ss[i].fs.length k) with
    | none => rfl
    | some q => simp

theorem row_same {ss : List Shp} {ms : List Mnd} (h : shapesOk ss = true) (hm : ms.all (mendAt ss) = true) (i : Nat) (hi : i < ss.length) : rowOk ms ss[i] = rowOkS ms ss[i] := by
  unfold rowOk rowOkS
  rw [greedy_names h hm i hi, List.length_map]
  refine walk_iff_greedy (fun p hp q hq => ?_)
  unfold readsN at hq
  obtain ⟨x, hx, rfl⟩ := List.mem_map.1 hq
  have := reads_ok h hm i hi p hp x hx
  omega

theorem mendsOk_same (ss : List Shp) (ms : List Mnd) : mendsOk ss ms = mendsOkS ss ms := by
  unfold mendsOk mendsOkS
  by_cases h : shapesOk ss = true
  · have e1 : ms.all (specAt ss) = ms.all (mendAt ss) := by congr 1; funext m; exact (mend_spec h m).symm
    rw [e1, h]
    by_cases hm : ms.all (mendAt ss) = true
    · have e2 : ss.all (rowOk ms) = ss.all (rowOkS ms) := by
        rw [Bool.eq_iff_iff, List.all_eq_true, List.all_eq_true]
        constructor
        · intro ha x hx
          obtain ⟨i, hi, rfl⟩ := List.mem_iff_getElem.1 hx
          rw [← row_same h hm i hi]; exact ha _ hx
        · intro ha x hx
          obtain ⟨i, hi, rfl⟩ := List.mem_iff_getElem.1 hx
          rw [row_same h hm i hi]; exact ha _ hx
      rw [e2]; cases decide (ms.length ≤ 12) <;> simp
    · have hmf : ms.all (mendAt ss) = false := by simpa using hm
      rw [hmf]; simp
  · have hf : shapesOk ss = false := by simpa using h
    rw [hf]; simp

end Go.Proofs.YthldiefbpemoaaaGreat.Gate

namespace Go.Proofs.YthldiefbpemoaaaGreat
open Go.RowKit

set_option maxRecDepth 20000 in
set_option maxHeartbeats 4000000 in
theorem implMendsOk_any (a a' : Option Addr) (cap cap' : Nat) (ss : List Shp) (ms : List Mnd) (w : World) (hw : ShpsAt w a ss) (hm : MndsAt w a' ms) (hml : ms.length ≤ 1048576) :
    Calls Tryz.prog 49 #[.slice a ss.length cap, .slice a' ms.length cap'] w fun e w' => e = .returned (.bool (Gate.mendsOk ss ms)) ∧ Below w.heap.size w w' := by
  have HW : Hid (ShpsAt w a ss ∧ MndsAt w a' ms) := ⟨hw, hm⟩
  have hl := hw.len
  unfold maxLen at hl
  clear hw hm
  by_cases h12 : ms.length ≤ 12
  rotate_left
  · have HF : Hid (Gate.mendsOk ss ms = false) := by unfold Hid Gate.mendsOk; rw [decide_eq_false h12]; simp
    go_enter Tryz.func49, Tryz.ntmps49
    go_wp2_with fail
    go_ret
    exact ⟨by rw [HF.out]; rfl, Below.refl _ _⟩
  have h12I : (ms.length : Int) ≤ 12 := by omega
  by_cases hok : Gate.shapesOk ss = true
  rotate_left
  · have hokf : Gate.shapesOk ss = false := by simpa using hok
    have HF : Hid (Gate.mendsOk ss ms = false) := by unfold Hid Gate.mendsOk; rw [hokf]; simp
    go_enter Tryz.func49, Tryz.ntmps49
    go_wp2_with fail
    have h := implShapesOk_any a cap ss w HW.out.1
    rw [hokf] at h
    refine h.mono ?_
    rintro e w1 ⟨rfl, hb1⟩
    clear h
    go_wp2_with fail
    go_ret
    exact ⟨by rw [HF.out]; rfl, hb1⟩
  have HOK : Hid (Gate.shapesOk ss = true) := hok
  go_enter Tryz.func49, Tryz.ntmps49
  go_wp2_with fail
  have h := implShapesOk_any a cap ss w HW.out.1
  rw [hok] at h
  refine h.mono ?_
  rintro e w1 ⟨rfl, hb1⟩
  have HB1 : Hid (Below w.heap.size w w1) := hb1
  clear h hb1 hok
  go_wp2_with fail
  refine (fieldKinds_any _).mono ?_
  rintro e w2 ⟨rfl, hw2⟩
  have HB2 : Hid (Below w.heap.size w w2 ∧ w2.heap[w1.heap.size]? = some (.map kindEs 4) ∧ w1.heap.size < w2.heap.size) := by
    rw [hw2]; exact ⟨HB1.out.trans (((Below.refl _ _).alloc (Nat.le_refl _) _).mono HB1.out.size), alloc_at _ _, by simp⟩
  clear hw2
  go_wp2_with fail
  go_loopw [25] (fun iv wr => ∃ k : Nat, k ≤ ms.length ∧ iv = .int .i64 k ∧ (ms.take k).all (Gate.mendAt ss) = true ∧ Below w2.heap.size w2 wr) (fun iv _ => ms.length - (intOf iv).toNat)
  case atStart => exact ⟨0, Nat.zero_le _, rfl, rfl, Below.refl _ _⟩
  case round =>
    obtain ⟨k, hk, rfl, hall, hB⟩ := hrel
    have HB : Hid (Below w2.heap.size w2 wr ∧ Below w.heap.size w wr) := ⟨hB, HB2.out.1.trans (hB.mono HB2.out.1.size)⟩
    have HA : Hid ((ms.take k).all (Gate.mendAt ss) = true) := hall
    clear hall hB
    by_cases hlt : k < ms.length
    · obtain ⟨b, off, rfl, hb, c0, c1, c2, c3, c4, c5⟩ := HW.out.2.load HB.out.2 k hlt
      have hltI : (k : Int) < (ms.length : Int) := by omega
      have hsm := HW.out.2.small k hlt
      have HTK : Hid ((ms.take (k + 1)).all (Gate.mendAt ss) = Gate.mendAt ss ms[k]) := by
        unfold Hid; rw [List.take_succ_eq_append_getElem hlt, List.all_append, HA.out]; simp
      have HNO : Hid (Gate.mendAt ss ms[k] = false → Gate.mendsOk ss ms = false) := by
        intro h
        have : ms.all (Gate.mendAt ss) = false := by rw [List.all_eq_false]; exact ⟨_, List.getElem_mem hlt, by rw [h]; simp⟩
        unfold Gate.mendsOk; rw [this]; simp
      have hba := (Below.refl wr.heap.size wr).alloc (Nat.le_refl _) (.cells #[.string ms[k].kd, .string ms[k].fd, .string ms[k].wh, .string ms[k].wi, .string ms[k].pt, .string ms[k].fr] 90)
      have HSM : Hid (ms[k].Small) := hsm
      clear hsm
      go_wp2_with fail
      have h := shapeOf_any a cap ss ms[k].kd _ (HW.out.1.mono (HB.out.2.trans (hba.mono HB.out.2.size)))
      by_cases hkk : Gate.hasKind ss ms[k].kd = true
      rotate_left
      · have hkf : Gate.hasKind ss ms[k].kd = false := by simpa using hkk
        rw [hkf] at h
        refine h.mono ?_
        rintro e w3 ⟨fa, fcap, rfl, hfl, hb3⟩
        have HF : Hid (Gate.mendsOk ss ms = false ∧ Below w.heap.size w w3) := ⟨HNO.out (by unfold Gate.mendAt; rw [hkf]; rfl), HB.out.2.trans ((hba.trans (hb3.mono hba.size)).mono HB.out.2.size)⟩
        clear h hba hfl hb3 c0 c1 c2 c3 c4 c5
        go_wp2_with fail
        go_ret
        exact ⟨by rw [HF.out.1]; rfl, HF.out.2.alloc HF.out.2.size _⟩
      rw [hkk] at h
      refine h.mono ?_
      rintro e w3 ⟨fa, fcap, rfl, hfl, hb3⟩
      have hX3 := box_later (box_new wr _ _) (by simp) hb3
      have hz3 : wr.heap.size < w3.heap.size := by have := hb3.size; simp at this; omega
      have HB3 : Hid (Below wr.heap.size wr w3) := hba.trans (hb3.mono hba.size)
      have hbs := (Below.refl w3.heap.size w3).alloc (Nat.le_refl _) (.cells #[.string (Gate.shapeOf ss ms[k].kd).kd, .slice fa (Gate.shapeOf ss ms[k].kd).fs.length fcap] 85)
      have HB4 : Hid (Below wr.heap.size wr (w3.alloc (.cells #[.string (Gate.shapeOf ss ms[k].kd).kd, .slice fa (Gate.shapeOf ss ms[k].kd).fs.length fcap] 85))) := HB3.out.trans (hbs.mono HB3.out.size)
      have HFL : Hid (FldsAt (w3.alloc (.cells #[.string (Gate.shapeOf ss ms[k].kd).kd, .slice fa (Gate.shapeOf ss ms[k].kd).fs.length fcap] 85)) fa (Gate.shapeOf ss ms[k].kd).fs) := (hfl.mono hb3).mono hbs
      have HMA : Hid (Gate.mendAt ss ms[k] = Gate.mendOk (Gate.shapeOf ss ms[k].kd).fs ms[k]) := by unfold Hid Gate.mendAt; rw [hkk]; simp
      have HRM : Hid ((w3.alloc (.cells #[.string (Gate.shapeOf ss ms[k].kd).kd, .slice fa (Gate.shapeOf ss ms[k].kd).fs.length fcap] 85)).heap[w1.heap.size]? = some (.map kindEs 4)) := by
        have h1 := HB.out.1.size
        have h2 := HB2.out.2.2
        exact (HB4.out.block w1.heap.size (by omega)).trans ((HB.out.1.block w1.heap.size h2).trans HB2.out.2.1)
      clear h hba hfl hb3 hbs hkk c0 c1 c2 c3 c4 c5
      go_wp2_with fail
      have h := mendOk_any w1.heap.size fa fcap (Gate.shapeOf ss ms[k].kd).fs ms[k] _ HRM.out HFL.out HSM.out
      by_cases hmo : Gate.mendOk (Gate.shapeOf ss ms[k].kd).fs ms[k] = true
      · rw [hmo] at h
        refine h.mono ?_
        rintro e w5 ⟨rfl, hb5⟩
        have HY : Hid ((ms.take (k + 1)).all (Gate.mendAt ss) = true ∧ Below w2.heap.size w2 w5) := ⟨by rw [HTK.out, HMA.out]; exact hmo, HB.out.1.trans ((HB4.out.trans (hb5.mono HB4.out.size)).mono HB.out.1.size)⟩
        clear h hb5 hmo hX3
        go_wp2_with fail
        exact ⟨⟨k + 1, by omega, by go_num, HY.out.1, HY.out.2⟩, step_less' hlt⟩
      · have hmf : Gate.mendOk (Gate.shapeOf ss ms[k].kd).fs ms[k] = false := by simpa using hmo
        rw [hmf] at h
        refine h.mono ?_
        rintro e w5 ⟨rfl, hb5⟩
        have HF : Hid (Gate.mendsOk ss ms = false ∧ Below w.heap.size w w5) := ⟨HNO.out (by rw [HMA.out]; exact hmf), HB.out.2.trans ((HB4.out.trans (hb5.mono HB4.out.size)).mono HB.out.2.size)⟩
        clear h hb5 hmo hX3
        go_wp2_with fail
        go_ret
        exact ⟨by rw [HF.out.1]; rfl, HF.out.2⟩
    · have e : k = ms.length := by omega
      have hall := HA.out
      rw [e, List.take_of_length_le (Nat.le_refl _)] at hall
      have HALL : Hid (ms.all (Gate.mendAt ss) = true) := hall
      subst e
      clear hall HA
      go_wp2_with fail
      have HBw : Hid (Below w.heap.size w wr) := HB.out.2
      clear HB
      go_loopw [49] (fun iv wq => ∃ k : Nat, k ≤ ss.length ∧ iv = .int .i64 k ∧ (ss.take k).all (Gate.rowOk ms) = true ∧ Below w.heap.size w wq) (fun iv _ => ss.length - (intOf iv).toNat)
      case atStart => exact ⟨0, Nat.zero_le _, rfl, rfl, HBw.out⟩
      case round =>
        obtain ⟨k, hk, rfl, hall, hB⟩ := hrel
        have HB : Hid (Below w.heap.size w wr) := hB
        have HA : Hid ((ss.take k).all (Gate.rowOk ms) = true) := hall
        clear hall hB
        by_cases hlt : k < ss.length
        · obtain ⟨b, off, rfl, hb, hr⟩ := HW.out.1.rows (by rintro rfl; simp at hlt)
          obtain ⟨fa, fcap, hs0⟩ := hr k hlt
          have hs := hs0.mono hb HB.out
          have hck := hs.kind
          have hcl := hs.list
          have hfl := hs.flds
          have hltI : (k : Int) < (ss.length : Int) := by omega
          have HTK : Hid ((ss.take (k + 1)).all (Gate.rowOk ms) = Gate.rowOk ms ss[k]) := by
            unfold Hid; rw [List.take_succ_eq_append_getElem hlt, List.all_append, HA.out]; simp
          have HNO : Hid (Gate.rowOk ms ss[k] = false → Gate.mendsOk ss ms = false) := by
            intro h
            have : ss.all (Gate.rowOk ms) = false := by rw [List.all_eq_false]; exact ⟨_, List.getElem_mem hlt, by rw [h]; simp⟩
            unfold Gate.mendsOk; rw [this]; simp
          have hba := (Below.refl wr.heap.size wr).alloc (Nat.le_refl _) (.cells #[.string ss[k].kd, .slice fa ss[k].fs.length fcap] 85)
          have HFL : Hid (FldsAt (wr.alloc (.cells #[.string ss[k].kd, .slice fa ss[k].fs.length fcap] 85)) fa ss[k].fs) := hfl.mono hba
          have HBA : Hid (Below w.heap.size w (wr.alloc (.cells #[.string ss[k].kd, .slice fa ss[k].fs.length fcap] 85))) := HB.out.trans (hba.mono HB.out.size)
          clear hr hs0 hs hfl hba
          go_wp2_with fail
          have h := mendRow_any ss[k] ms a' fa cap' fcap _ (HW.out.2.mono HBA.out) HFL.out hml (Gate.fields_few HOK.out k hlt) (Gate.reads_ok HOK.out HALL.out k hlt)
          by_cases hrk : Gate.rowOk ms ss[k] = true
          · have hrk' : (Gate.walkAll (Gate.readsN ss[k] ms) ss[k].fs.length).1 = true := hrk
            refine h.mono ?_
            rintro e w5 ⟨v5, rfl, hb5, _⟩
            have HY : Hid ((ss.take (k + 1)).all (Gate.rowOk ms) = true ∧ Below w.heap.size w w5) := ⟨by rw [HTK.out]; exact hrk, HBA.out.trans (hb5.mono HBA.out.size)⟩
            rw [hrk']
            clear h hb5 hrk hrk' hck hcl
            go_wp2_with fail
            exact ⟨⟨k + 1, by omega, by go_num, HY.out.1, HY.out.2⟩, step_less' hlt⟩
          · have hrf : Gate.rowOk ms ss[k] = false := by simpa using hrk
            have hrk' : (Gate.walkAll (Gate.readsN ss[k] ms) ss[k].fs.length).1 = false := hrf
            refine h.mono ?_
            rintro e w5 ⟨v5, rfl, hb5, _⟩
            have HF : Hid (Gate.mendsOk ss ms = false ∧ Below w.heap.size w w5) := ⟨HNO.out hrf, HBA.out.trans (hb5.mono HBA.out.size)⟩
            rw [hrk']
            clear h hb5 hrk hrk' hck hcl
            go_wp2_with fail
            go_ret
            exact ⟨by rw [HF.out.1]; rfl, HF.out.2⟩
        · have e : k = ss.length := by omega
          have hall := HA.out
          rw [e, List.take_of_length_le (Nat.le_refl _)] at hall
          have HF : Hid (Gate.mendsOk ss ms = true) := by unfold Hid Gate.mendsOk; rw [HALL.out, HOK.out, hall, decide_eq_true h12]; rfl
          subst e
          clear hall HA
          go_wp2_with fail
          go_ret
          exact ⟨by rw [HF.out]; rfl, HB.out⟩

end Go.Proofs.YthldiefbpemoaaaGreat

namespace Go.Proofs.YthldiefbpemoaaaGreat
open Go.RowKit

def Gate.lawOk (l : Lw) : Bool := Gate.mendsOk l.ss l.ms && Gate.teamsOk l.ts

set_option maxHeartbeats 1000000 in
theorem implLawOk_any (l : Lw) (a b c : Option Addr) (ca cb cc : Nat) (w : World) (hl : LwAt w l a b c) (hf : l.Few) :
    Calls Tryz.prog 24 #[.agg (l.cells a b c ca cb cc)] w fun e w' => e = .returned (.bool (Gate.lawOk l)) ∧ Below w.heap.size w w' := by
  have HL : Hid (LwAt w l a b c) := hl
  have HF : Hid l.Few := hf
  clear hl hf
  unfold Lw.cells
  by_cases h1 : Gate.mendsOk l.ss l.ms = true
  · have HQ : Hid (Gate.lawOk l = Gate.teamsOk l.ts) := by unfold Hid Gate.lawOk; rw [h1]; rfl
    have HM : Hid (Gate.mendsOk l.ss l.ms = true) := h1
    clear h1
    go_enter Tryz.func24, Tryz.ntmps24
    go_wp2_with fail
    refine (as_bool HM.out (implMendsOk_any _ _ _ _ l.ss l.ms _ (HL.out.ss.mono ((Below.refl _ _).alloc (Nat.le_refl _) _)) (HL.out.ms.mono ((Below.refl _ _).alloc (Nat.le_refl _) _)) HF.out.ms)).mono ?_
    rintro e w1 ⟨rfl, hb⟩
    have hX1 := box_later (box_new w #[.slice a l.ss.length ca, .slice b l.ms.length cb, .slice c l.ts.length cc] 40) (by simp) hb
    have hz1 : w.heap.size < w1.heap.size := by have := hb.size; simp at this; omega
    have hB1 : Below w.heap.size w w1 := ((Below.refl _ _).alloc (Nat.le_refl _) _).trans (hb.mono (by simp))
    clear hb
    go_wp2_with fail
    refine (implTeamsOk_any _ _ l.ts _ (HL.out.ts.mono hB1)).mono ?_
    rintro e w2 ⟨rfl, hb⟩
    have hB2 := hB1.trans (hb.mono hB1.size)
    clear hb hX1 hz1 hB1
    go_wp2_with fail
    go_ret
    exact ⟨ret_bool HQ.out.symm, hB2⟩
  · have h1' : Gate.mendsOk l.ss l.ms = false := by simpa using h1
    have HQ : Hid (Gate.lawOk l = false) := by unfold Hid Gate.lawOk; rw [h1']; rfl
    have HM : Hid (Gate.mendsOk l.ss l.ms = false) := h1'
    clear h1 h1'
    go_enter Tryz.func24, Tryz.ntmps24
    go_wp2_with fail
    refine (as_bool HM.out (implMendsOk_any _ _ _ _ l.ss l.ms _ (HL.out.ss.mono ((Below.refl _ _).alloc (Nat.le_refl _) _)) (HL.out.ms.mono ((Below.refl _ _).alloc (Nat.le_refl _) _)) HF.out.ms)).mono ?_
    rintro e w1 ⟨rfl, hb⟩
    have hB1 : Below w.heap.size w w1 := ((Below.refl _ _).alloc (Nat.le_refl _) _).trans (hb.mono (by simp))
    clear hb
    go_wp2_with fail
    go_ret
    exact ⟨ret_bool HQ.out.symm, hB1⟩

set_option maxHeartbeats 1000000 in
theorem specLawOk_any (l : Lw) (a b c : Option Addr) (ca cb cc : Nat) (w : World) (hl : LwAt w l a b c) :
    Calls Tryz.prog 17 #[.agg (l.cells a b c ca cb cc)] w fun e w' => e = .returned (.bool (Gate.lawOk l)) ∧ Below w.heap.size w w' := by
  have HL : Hid (LwAt w l a b c) := hl
  clear hl
  unfold Lw.cells
  by_cases h1 : Gate.mendsOk l.ss l.ms = true
  · have HQ : Hid (Gate.lawOk l = Gate.teamsOkS l.ts) := by unfold Hid Gate.lawOk; rw [h1, Gate.teamsOk_same]; rfl
    have HM : Hid (Gate.mendsOkS l.ss l.ms = true) := by unfold Hid; rw [← Gate.mendsOk_same]; exact h1
    clear h1
    go_enter Tryz.func17, Tryz.ntmps17
    go_wp2_with fail
    refine (as_bool HM.out (specMendsOk_any _ _ _ _ l.ss l.ms _ (HL.out.ss.mono ((Below.refl _ _).alloc (Nat.le_refl _) _)) (HL.out.ms.mono ((Below.refl _ _).alloc (Nat.le_refl _) _)))).mono ?_
    rintro e w1 ⟨rfl, hb⟩
    have hX1 := box_later (box_new w #[.slice a l.ss.length ca, .slice b l.ms.length cb, .slice c l.ts.length cc] 40) (by simp) hb
    have hz1 : w.heap.size < w1.heap.size := by have := hb.size; simp at this; omega
    have hB1 : Below w.heap.size w w1 := ((Below.refl _ _).alloc (Nat.le_refl _) _).trans (hb.mono (by simp))
    clear hb
    go_wp2_with fail
    refine (specTeamsOk_any _ _ l.ts _ (HL.out.ts.mono hB1)).mono ?_
    rintro e w2 ⟨rfl, hb⟩
    have hB2 := hB1.trans (hb.mono hB1.size)
    clear hb hX1 hz1 hB1
    go_wp2_with fail
    go_ret
    exact ⟨ret_bool HQ.out.symm, hB2⟩
  · have h1' : Gate.mendsOk l.ss l.ms = false := by simpa using h1
    have HQ : Hid (Gate.lawOk l = false) := by unfold Hid Gate.lawOk; rw [h1']; rfl
    have HM : Hid (Gate.mendsOkS l.ss l.ms = false) := by unfold Hid; rw [← Gate.mendsOk_same]; exact h1'
    clear h1 h1'
    go_enter Tryz.func17, Tryz.ntmps17
    go_wp2_with fail
    refine (as_bool HM.out (specMendsOk_any _ _ _ _ l.ss l.ms _ (HL.out.ss.mono ((Below.refl _ _).alloc (Nat.le_refl _) _)) (HL.out.ms.mono ((Below.refl _ _).alloc (Nat.le_refl _) _)))).mono ?_
    rintro e w1 ⟨rfl, hb⟩
    have hB1 : Below w.heap.size w w1 := ((Below.refl _ _).alloc (Nat.le_refl _) _).trans (hb.mono (by simp))
    clear hb
    go_wp2_with fail
    go_ret
    exact ⟨ret_bool HQ.out.symm, hB1⟩

end Go.Proofs.YthldiefbpemoaaaGreat
