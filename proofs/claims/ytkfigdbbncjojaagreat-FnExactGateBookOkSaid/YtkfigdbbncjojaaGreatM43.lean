import Derived.Test.YtkfigdbbncjojaaGreatM42
namespace Go.Proofs.YtkfigdbbncjojaaGreat.Gate
theorem znH (ws : List ByteArray) (v : ByteArray) : has ws v = true ↔ v ∈ ws := by
  unfold has
  rw [List.any_eq_true]
  constructor
  · rintro ⟨x, hx, he⟩
    have : x = v := by simpa using he
    rw [<- this]; exact hx
  · intro h; exact ⟨v, h, by simp⟩
theorem zkH {ss : List Shp} (h : zM ss = true) (i : Nat) (hi : i < ss.length) (j : Nat) (hj : j < ss[i].fs.length) : zdp ss ss[i].fs j = true := by
  have h1 := zfa h i hi
  unfold yA at h1
  rw [getD_at ss i _ hi] at h1
  simp only [Bool.and_eq_true] at h1
  have h2 := h1.2
  unfold yC at h2
  simp only [Bool.and_eq_true] at h2
  exact zfN hj h2.2
theorem zkY {ss : List Shp} (h : zM ss = true) (i : Nat) (hi : i < ss.length) (j : Nat) (hj : j < ss[i].fs.length) : isSet ss[i].fs[j].nm = true := by
  have h1 := zkH h i hi j hj
  rw [zgD _ _ _ hj] at h1
  simp only [Bool.and_eq_true] at h1
  have h2 := h1.1.1
  rw [zmO]
  intro e
  rw [e] at h2
  revert h2
  decide
theorem zds {ss : List Shp} (h : zM ss = true) (i : Nat) (hi : i < ss.length) (j k : Nat) (hj : j < k) (hk : k < ss[i].fs.length) : (ss[i].fs[j]'(by omega)).nm ≠ ss[i].fs[k].nm := by
  have h1 := zkH h i hi k hk
  rw [zgD _ _ _ hk] at h1
  simp only [Bool.and_eq_true, Bool.not_eq_true'] at h1
  have h2 := h1.1.2
  intro e
  unfold hasName at h2
  rw [List.any_eq_false] at h2
  have hm : ss[i].fs[j]'(by omega) ∈ ss[i].fs.take k := by
    rw [List.mem_iff_getElem]
    exact ⟨j, by simp; omega, by simp⟩
  exact h2 _ hm (by simpa using e)
theorem zmY {ss : List Shp} (h : zM ss = true) (i : Nat) (hi : i < ss.length) (j k : Nat) (hj : j < ss[i].fs.length) (hk : k < ss[i].fs.length) (e : zab ss[i] j = zab ss[i] k) : j = k := by
  unfold zab at e
  rw [getD_at _ _ _ hj, getD_at _ _ _ hk] at e
  rcases Nat.lt_trichotomy j k with h1 | h1 | h1
  · exact absurd e (zds h i hi j k h1 hk)
  · exact h1
  · exact absurd e.symm (zds h i hi k j h1 hj)
theorem zms {ss : List Shp} (h : zM ss = true) (m : Mnd) : jc ss m = zaq ss m := by
  unfold jc zaq
  by_cases hk : zC ss m.kd = true
  · rw [hk, Bool.true_and, Bool.true_and]
    unfold zC at hk
    rw [List.any_eq_true] at hk
    obtain ⟨x, hx, he⟩ := hk
    obtain ⟨i, hi, rfl⟩ := List.mem_iff_getElem.1 hx
    have hkd : ss[i].kd = m.kd := by simpa using he
    rw [<- hkd, zcw h i hi]
    unfold j4 zcn
    by_cases hp : plain ss[i].fs m.fd = true
    · have hfd : isSet m.fd = true := by
        rcases qX ss[i].fs m.fd with ⟨_, h2⟩ | ⟨k, hk', _, h2, _⟩
        · rw [zas h2] at hp; cases hp
        · rw [<- h2]; exact zkY h i hi k hk'
      have hne : ∀ v, isSet v = false -> v ≠ m.fd := fun v hv e => by rw [e, hfd] at hv; cases hv
      rw [hp, Bool.true_and, Bool.true_and]
      have e : (zI m).all (qZ ss[i].fs m) = ((!isSet m.wh || plain ss[i].fs m.wh) && (!isSet m.fr || plain ss[i].fs m.fr) && !decide (m.wh = m.fd) && !decide (m.fr = m.fd)) := by
        unfold zI
        rw [List.all_filter]
        unfold qZ
        rcases hw : isSet m.wh with _ | _ <;> rcases hf : isSet m.fr with _ | _
        · simp [hw, hf, hne _ hw, hne _ hf]
        · simp [hw, hf, hne _ hw]
          cases plain ss[i].fs m.fr <;> simp
        · simp [hw, hf, hne _ hf]
          cases plain ss[i].fs m.wh <;> simp
        · simp [hw, hf]
          cases plain ss[i].fs m.wh <;> cases plain ss[i].fs m.fr <;> simp
      rw [e]
    · have hpf : plain ss[i].fs m.fd = false := by simpa using hp
      rw [hpf]; simp
  · have hkf : zC ss m.kd = false := by simpa using hk
    rw [hkf]; rfl
theorem zlC {ss : List Shp} {ms : List Mnd} (h : zM ss = true) (hm : ms.all (jc ss) = true) (i : Nat) (hi : i < ss.length) (row : List Nat) (hrow : ∀ q ∈ row, q < ss[i].fs.length) (j : Nat) (hj : j < ss[i].fs.length) :
    qH ss[i] ms (row.map (zab ss[i])) j = ready (zh ss[i] ms) row j := by
  have hmem : ∀ q, q < ss[i].fs.length -> (has (row.map (zab ss[i])) (zab ss[i] q) = true ↔ q ∈ row) := by
    intro q hq
    rw [znH, List.mem_map]
    constructor
    · rintro ⟨p, hp, e⟩
      rw [<- zmY h i hi p q (hrow p hp) hq e]; exact hp
    · intro hp; exact ⟨q, hp, rfl⟩
  rw [Bool.eq_iff_iff, zeY]
  unfold qH
  rw [Bool.and_eq_true, Bool.not_eq_true', <- Bool.not_eq_true, hmem j hj]
  refine and_congr Iff.rfl ?_
  unfold zbc
  rw [List.all_eq_true]
  -- what a mend that turns j reads
  have hread : ∀ m ∈ ms, turns m ss[i] j = true -> ∀ v ∈ zI m, ∃ q, q < ss[i].fs.length /\ zQ ss[i].fs v = (q : Int) /\ zab ss[i] q = v := by
    intro m hmm ht v hv
    unfold turns at ht
    simp only [Bool.and_eq_true, decide_eq_true_eq] at ht
    have h1 := List.all_eq_true.1 hm m hmm
    unfold jc at h1
    rw [ht.1, zcw h i hi] at h1
    simp only [Bool.and_eq_true] at h1
    have h2 := h1.2
    unfold j4 at h2
    simp only [Bool.and_eq_true] at h2
    have h3 := List.all_eq_true.1 h2.1.2 v hv
    unfold qZ at h3
    simp only [Bool.and_eq_true] at h3
    rcases qX ss[i].fs v with ⟨_, h5⟩ | ⟨k, hk, h4, h5, _⟩
    · rw [zas h5] at h3; exact absurd h3.2 (by simp)
    · exact ⟨k, hk, h4, by unfold zab; rw [getD_at _ _ _ hk]; exact h5⟩
  have hR : ∀ m, yJ ss[i].kd (zab ss[i] j) (row.map (zab ss[i])) m = true ↔ (turns m ss[i] j = true -> ∀ v ∈ zI m, has (row.map (zab ss[i])) v = true) := by
    intro m
    have e1 : turns m ss[i] j = (decide (m.kd = ss[i].kd) && decide (m.fd = zab ss[i] j)) := rfl
    unfold yJ
    rw [<- e1]
    rcases turns m ss[i] j with _ | _
    · simp
    · unfold zI
      rcases hw : isSet m.wh with _ | _ <;> rcases hf : isSet m.fr with _ | _ <;> simp [hw, hf]
  constructor
  · intro hall q hq
    unfold zh at hq
    obtain ⟨x, hx, rfl⟩ := List.mem_map.1 hq
    unfold zZ at hx
    obtain ⟨m, hmm, hx⟩ := List.mem_flatMap.1 hx
    by_cases ht : turns m ss[i] j = true
    · rw [if_pos ht] at hx
      obtain ⟨v, hv, rfl⟩ := List.mem_map.1 hx
      obtain ⟨q, hq, e1, e2⟩ := hread m hmm ht v hv
      have := (hR m).1 (hall m hmm) ht v hv
      rw [e1, Int.toNat_natCast]
      rw [<- e2] at this
      exact (hmem q hq).1 this
    · rw [if_neg ht] at hx; cases hx
  · intro hall m hmm
    rw [hR]
    intro ht v hv
    obtain ⟨q, hq, e1, e2⟩ := hread m hmm ht v hv
    rw [<- e2, hmem q hq]
    refine hall q ?_
    unfold zh
    rw [List.mem_map]
    refine ⟨(q : Int), ?_, Int.toNat_natCast _⟩
    unfold zZ
    rw [List.mem_flatMap]
    refine ⟨m, hmm, ?_⟩
    rw [if_pos ht, List.mem_map]
    exact ⟨v, hv, e1⟩
theorem find_congr {α : Type} {f g : α -> Bool} : ∀ {l : List α}, (∀ x ∈ l, f x = g x) -> l.find? f = l.find? g
  | [], _ => rfl
  | a :: l, h => by
    have h1 := h a (by simp)
    have h2 := find_congr (f := f) (g := g) (l := l) (fun x hx => h x (by simp [hx]))
    rw [List.find?_cons, List.find?_cons, h1, h2]
theorem zcp {ss : List Shp} {ms : List Mnd} (h : zM ss = true) (hm : ms.all (jc ss) = true) (i : Nat) (hi : i < ss.length) : ∀ k, zT ss[i] ms k = (greedy (zh ss[i] ms) ss[i].fs.length k).map (zab ss[i])
  | 0 => rfl
  | k + 1 => by
    show zc1 ss[i] ms (zT ss[i] ms k) = (more (zh ss[i] ms) ss[i].fs.length (greedy (zh ss[i] ms) ss[i].fs.length k)).map (zab ss[i])
    rw [zcp h hm i hi k]
    have hpart := za2 (zh ss[i] ms) ss[i].fs.length k
    have e : (List.range ss[i].fs.length).find? (qH ss[i] ms ((greedy (zh ss[i] ms) ss[i].fs.length k).map (zab ss[i]))) = pick (zh ss[i] ms) ss[i].fs.length (greedy (zh ss[i] ms) ss[i].fs.length k) := by
      unfold pick
      apply find_congr
      intro x hx
      exact zlC h hm i hi _ hpart.mem x (List.mem_range.1 hx)
    unfold zc1 more
    rw [e]
    cases pick (zh ss[i] ms) ss[i].fs.length (greedy (zh ss[i] ms) ss[i].fs.length k) with
    | none => rfl
    | some q => simp
theorem zkc {ss : List Shp} {ms : List Mnd} (h : zM ss = true) (hm : ms.all (jc ss) = true) (i : Nat) (hi : i < ss.length) : rowOk ms ss[i] = za8 ms ss[i] := by
  unfold rowOk za8
  rw [zcp h hm i hi, List.length_map]
  refine zgb (fun p hp q hq => ?_)
  unfold zh at hq
  obtain ⟨x, hx, rfl⟩ := List.mem_map.1 hq
  have := zg1 h hm i hi p hp x hx
  omega
theorem zd8 (ss : List Shp) (ms : List Mnd) : zY ss ms = qD ss ms := by
  unfold zY qD
  by_cases h : zM ss = true
  · have e1 : ms.all (zaq ss) = ms.all (jc ss) := by congr 1; funext m; exact (zms h m).symm
    rw [e1, h]
    by_cases hm : ms.all (jc ss) = true
    · have e2 : ss.all (rowOk ms) = ss.all (za8 ms) := by
        rw [Bool.eq_iff_iff, List.all_eq_true, List.all_eq_true]
        constructor
        · intro ha x hx
          obtain ⟨i, hi, rfl⟩ := List.mem_iff_getElem.1 hx
          rw [<- zkc h hm i hi]; exact ha _ hx
        · intro ha x hx
          obtain ⟨i, hi, rfl⟩ := List.mem_iff_getElem.1 hx
          rw [zkc h hm i hi]; exact ha _ hx
      rw [e2]; cases decide (ms.length <= 12) <;> simp
    · have hmf : ms.all (jc ss) = false := by simpa using hm
      rw [hmf]; simp
  · have hf : zM ss = false := by simpa using h
    rw [hf]; simp
end Go.Proofs.YtkfigdbbncjojaaGreat.Gate

namespace Go.Proofs.YtkfigdbbncjojaaGreat
open Go.RowKit
set_option maxHeartbeats 2000000 in
theorem zfS (a c : Option Addr) (ca cc : Nat) (xs ys : List ByteArray) (w : World) (hx : zB w a xs) (hy : zB w c ys) (hl : xs.length <= 1048576) (hl' : ys.length <= 1048576) :
    Calls Tryz.prog 166 #[.slice a xs.length ca, .slice c ys.length cc] w fun e w' => e = .returned (.bool (decide (xs = ys))) /\ Below w.heap.size w w' := by
  obtain ⟨r, hr⟩ : ∃ r, r = decide (xs = ys) := ⟨_, rfl⟩
  rw [<- hr]
  have HR : Hid (r = decide (xs = ys)) := hr
  have HX : Hid (zB w a xs /\ zB w c ys) := ⟨hx, hy⟩
  clear hr hx hy
  by_cases hn : xs.length = ys.length
  rotate_left
  · have HF : Hid (r = false) := by unfold Hid; rw [HR.out, decide_eq_false_iff_not]; intro e; exact hn (by rw [e])
    have e1 : ((xs.length : Int) != (ys.length : Int)) = true := by simp; omega
    clear hn
    go_enter Tryz.func166, Tryz.ntmps166
    go_wp2_with fail
    go_ret
    exact ⟨ze HF.out.symm, Below.refl _ _⟩
  have e1 : ((xs.length : Int) != (ys.length : Int)) = false := by simp; omega
  have HN : Hid (xs.length = ys.length) := hn
  clear hn
  go_enter Tryz.func166, Tryz.ntmps166
  go_wp2_with fail
  go_loopw [13] (fun iv wr => ∃ k : Nat, k <= xs.length /\ iv = .int .i64 k /\ Hid ((∀ i (h : i < xs.length) (h' : i < ys.length), i < k -> xs[i] = ys[i]) /\ Below w.heap.size w wr)) (fun iv _ => xs.length - (intOf iv).toNat)
  case atStart => exact ⟨0, Nat.zero_le _, rfl, fun i h h' hk => by omega, Below.refl _ _⟩
  case round =>
    obtain ⟨k, hk, rfl, HQ⟩ := hrel
    have hkn : k <= 1048576 := by omega
    by_cases hlt : k < xs.length
    · have hlt' : k < ys.length := by have := HN.out; omega
      obtain ⟨p, po, rfl, hp, hpc⟩ := HX.out.1.cells (by intro e; rw [e] at hlt; simp at hlt)
      obtain ⟨q, qo, rfl, hq, hqc⟩ := HX.out.2.cells (by intro e; rw [e] at hlt'; simp at hlt')
      have c1 := (HQ.out.2.cell (p := ⟨p, po + k, none⟩) hp).trans (hpc k hlt)
      have c2 := (HQ.out.2.cell (p := ⟨q, qo + k, none⟩) hq).trans (hqc k hlt')
      have hltI : (k : Int) < (xs.length : Int) := by omega
      have hltI' : (k : Int) < (ys.length : Int) := by omega
      have hp' : p < wr.heap.size := Nat.lt_of_lt_of_le hp HQ.out.2.size
      have hq' : q < wr.heap.size := Nat.lt_of_lt_of_le hq HQ.out.2.size
      have HB : Hid (Below w.heap.size w wr) := HQ.out.2
      clear hpc hqc
      by_cases he : xs[k] = ys[k]
      · have e2 : (xs[k].toList == ys[k].toList) = true := by rw [Gate.beq_toList]; simpa using he
        have HA : Hid (∀ i (h : i < xs.length) (h' : i < ys.length), i < k + 1 -> xs[i] = ys[i]) := by
          intro i h h' hi
          rcases Nat.eq_or_lt_of_le (Nat.le_of_lt_succ hi) with e | h2
          · subst e; exact he
          · exact HQ.out.1 i h h' h2
        clear he HQ
        go_wp2_with fail
        go_quiet (fail)
        go_wp2_with fail
        exact ⟨⟨k + 1, by omega, by go_num, HA.out, below_drewN HB.out _⟩, zm hlt⟩
      · have e2 : (xs[k].toList == ys[k].toList) = false := by rw [Gate.beq_toList]; simpa using he
        have HF : Hid (r = false) := by
          unfold Hid
          rw [HR.out, decide_eq_false_iff_not]
          intro e
          subst e
          exact he rfl
        clear he HQ
        go_wp2_with fail
        go_quiet (fail)
        go_wp2_with fail
        go_ret
        exact ⟨ze HF.out.symm, below_drewN HB.out _⟩
    · have HF : Hid (r = true) := by
        unfold Hid
        rw [HR.out, decide_eq_true_eq]
        exact List.ext_getElem HN.out fun i h h' => HQ.out.1 i h h' (by omega)
      have HB : Hid (Below w.heap.size w wr) := HQ.out.2
      clear HQ
      go_wp2_with fail
      go_ret
      exact ⟨ze HF.out.symm, HB.out⟩
end Go.Proofs.YtkfigdbbncjojaaGreat

namespace Go.Proofs.YtkfigdbbncjojaaGreat
open Go.RowKit
theorem yx.new (w : World) : yx (w.alloc (.map #[] 0)) w.heap.size (fun _ _ => none) :=
  ⟨⟨#[], 0, Array.getElem?_push_size, fun x hx => (by simp at hx), fun a b v h => (by cases h), fun i j x y hx => (by simp at hx)⟩, fun es c h => by
    have e : (w.alloc (.map #[] 0)).heap[w.heap.size]? = some (.map #[] 0) := Array.getElem?_push_size
    rw [e] at h
    cases h
    exact ⟨fun x hx => (by simp at hx), by simp⟩⟩
theorem zfi.below {r B : Nat} {w0 w w' : World} (h : zfi r w w') (hb : Below B w0 w) (hr : B <= r) : Below B w0 w' :=
  ⟨h.os.trans hb.os, h.tape.trans hb.tape, h.output.trans hb.output, by rw [h.size]; exact hb.size, fun k hk => (h.out k (by omega)).trans (hb.block k hk)⟩
set_option maxHeartbeats 1000000 in
theorem zhQ (o : Ob) (a0 a1 : Option Addr) (c0 c1 : Nat) (w : World) : Calls Tryz.prog 164 #[.agg (oC o a0 a1 c0 c1)] w fun e w' => e = .returned (y9 o.kd o.nm) /\ Below w.heap.size w w' := by
  unfold y9
  go_enter Tryz.func164, Tryz.ntmps164
  go_wp2_with fail
  refine bodyPost_ret (v := .agg #[.string o.kd, .string o.nm]) (by simp [results, Tryz.results164, go_sem]) rfl ⟨rfl, ?_⟩
  first | exact zq _ _ _ | exact ((zq _ _ _).setCell (by simp) _).setCell (by simp) _ | exact ((zq _ _ _).setCell (by show _ <= _ + 1; omega) _).setCell (by show _ <= _ + 1; omega) _
structure zbz (f : ByteArray -> ByteArray -> Option Int) (os : List Ob) (k : Nat) : Prop where
  has : ∀ p q, (f p q).isSome = (os.take k).any (Gate.zbg p q)
  at_ : ∀ p q v, f p q = some v -> ∃ i, ∃ h : i < os.length, v = (i : Int) /\ os[i].kd = p /\ os[i].nm = q
theorem zbz.put {f : ByteArray -> ByteArray -> Option Int} {os : List Ob} {k : Nat} (h : zbz f os k) (hlt : k < os.length) : zbz (fun p q => if p = os[k].kd /\ q = os[k].nm then some (k : Int) else f p q) os (k + 1) := by
  refine ⟨fun p q => ?_, fun p q v hv => ?_⟩
  · rw [List.take_succ_eq_append_getElem hlt, List.any_append, <- h.has p q]
    simp only [List.any_cons, List.any_nil, Bool.or_false]
    by_cases e : p = os[k].kd /\ q = os[k].nm
    · rw [if_pos e]
      unfold Gate.zbg
      simp [e.1, e.2]
    · rw [if_neg e]
      have : Gate.zbg p q os[k] = false := by
        unfold Gate.zbg
        rw [Bool.and_eq_false_iff, decide_eq_false_iff_not, decide_eq_false_iff_not]
        by_cases e1 : os[k].kd = p
        · exact Or.inr fun e2 => e ⟨e1.symm, e2.symm⟩
        · exact Or.inl e1
      rw [this, Bool.or_false]
  · by_cases e : p = os[k].kd /\ q = os[k].nm
    · rw [if_pos e] at hv
      exact ⟨k, hlt, (Option.some.inj hv).symm, e.1.symm, e.2.symm⟩
    · rw [if_neg e] at hv
      exact h.at_ p q v hv
set_option maxHeartbeats 2000000 in
theorem zgk (a : Option Addr) (cap : Nat) (os : List Ob) (w : World) (hw : zaQ w a os) (hl : os.length <= 1048576) :
    Calls Tryz.prog 116 #[.slice a os.length cap] w fun e w' => (∃ f, e = .returned (.map (some w.heap.size)) /\ yx w' w.heap.size f /\ zbz f os os.length) /\ Below w.heap.size w w' := by
  have HW := hid hw
  have hmk : ∀ w : World, (Instr.makeMap 175 none).run Tryz.prog w = .ok (.map (some w.heap.size)) (w.alloc (.map #[] 0)) := fun w => by kernel_rfl
  clear hw
  go_enter Tryz.func116, Tryz.ntmps116
  go_wp2_with fail
  clear hmk
  go_loopw [9] (fun iv wr => ∃ k : Nat, k <= os.length /\ iv = .int .i64 k /\ Hid ((∃ f, yx wr w.heap.size f /\ zbz f os k) /\ Below w.heap.size w wr)) (fun iv _ => os.length - (intOf iv).toNat)
  case atStart => exact ⟨0, Nat.zero_le _, rfl, ⟨_, yx.new w, ⟨fun p q => by simp, fun p q v h => by cases h⟩⟩, (Below.refl _ _).alloc (Nat.le_refl _) _⟩
  case round =>
    obtain ⟨k, hk, rfl, HX⟩ := hrel
    obtain ⟨⟨f, hf, hc⟩, hB⟩ := HX.out
    have hkn : k <= 1048576 := by omega
    by_cases hlt : k < os.length
    · obtain ⟨ob, off, v0, v1, q0, q1, rfl, hob, hsm, hl0, hl1, d0, d1, d2, d3, d4, d5, d6⟩ := HW.out.load hB k hlt
      have hltI : (k : Int) < (os.length : Int) := by omega
      have hob' := Nat.lt_of_lt_of_le hob hB.size
      have HKn := hid hsm
      have HPf := zee hf hc hB
      clear hf hc hB HX hsm hl0 hl1
      go_wp2_with fail
      refine (zhQ os[k] v0 v1 q0 q1 _).mono ?_
      rintro e w1 ⟨rfl, hb1⟩
      have hBa := (HPf.out.2.2.alloc HPf.out.2.2.size (.cells (oC os[k] v0 v1 q0 q1) 104))
      have hf1 : yx w1 w.heap.size f := (HPf.out.1.mono ((Below.refl _ _).alloc (Nat.le_refl _) _)).mono hb1
      obtain ⟨w2, hup, hf2, hp2⟩ := hf1.upd zg2 Tryz.underlying175 os[k].kd os[k].nm HKn.out.kd HKn.out.nm (k : Int)
      have HC : Hid ((∃ f, yx w2 w.heap.size f /\ zbz f os (k + 1)) /\ Below w.heap.size w w2) :=
        ⟨⟨_, hf2, HPf.out.2.1.put hlt⟩, hp2.below (hBa.trans (hb1.mono hBa.size)) (Nat.le_refl _)⟩
      clear hf1 hf2 hp2 hb1 hBa
      go_wp2_with fail
      exact ⟨⟨k + 1, by omega, by go_num, HC.out⟩, zm hlt⟩
    · have e : k = os.length := by omega
      subst e
      have HE : Hid (∃ f, yx wr w.heap.size f /\ zbz f os os.length) := ⟨f, hf, hc⟩
      have HB := hid hB
      clear hf hc hB HX hlt hk
      go_wp2_with fail
      go_ret
      obtain ⟨f, h1, h2⟩ := HE.out
      exact ⟨⟨f, rfl, h1, h2⟩, HB.out⟩
theorem ze2 (a : Option Addr) (cap : Nat) (os : List Ob) (w : World) (hw : zaQ w a os) (hl : os.length <= 1048576) :
    Calls Tryz.prog 116 #[.slice a os.length cap] w fun e w' => (∃ f, e = .returned (.map (some w.heap.size)) /\ yx w' w.heap.size f /\ ∀ p q, (f p q).isSome = os.any (Gate.zbg p q)) /\ Below w.heap.size w w' := by
  refine (zgk a cap os w hw hl).mono ?_
  rintro e w' ⟨⟨f, he, hf, hp⟩, hb⟩
  exact ⟨⟨f, he, hf, fun p q => by rw [hp.has p q, List.take_of_length_le (Nat.le_refl _)]⟩, hb⟩
end Go.Proofs.YtkfigdbbncjojaaGreat
