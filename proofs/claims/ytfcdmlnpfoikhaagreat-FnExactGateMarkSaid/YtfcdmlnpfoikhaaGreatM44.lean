import Derived.Test.YtfcdmlnpfoikhaaGreatM42
namespace Go.Proofs.YtfcdmlnpfoikhaaGreat
open Go.RowKit
set_option maxHeartbeats 2000000 in
theorem zny (b : Bk) (a0 a1 a2 a3 : Option Addr) (c0 c1 c2 c3 : Nat) (tm rs : ByteArray) (w : World) (hb : qD w b a0 a1 a2 a3) (hl : b.ps.length <= 1000) (ha : ∀ i (h : i < b.ps.length), 0 <= b.ps[i].am /\ b.ps[i].am <= 1000000) :
    Calls Tryz.prog 100 #[.agg (b.cells a0 a1 a2 a3 c0 c1 c2 c3), .string tm, .string rs] w fun e w' => e = .returned (.int .i64 (Gate.out b.ps tm rs)) /\ Below w.heap.size w w' := by
  have HK := hid hb
  have HA : Hid (∀ i (h : i < b.ps.length), 0 <= b.ps[i].am /\ b.ps[i].am <= 1000000) := ha
  clear hb ha
  unfold Bk.cells
  go_enter Tryz.func100, Tryz.ntmps100
  go_wp2_with fail
  have hX0 := zH w (bC b a0 a1 a2 a3 c0 c1 c2 c3) 48
  have HB0 : Hid (Below w.heap.size w (w.alloc (.cells (bC b a0 a1 a2 a3 c0 c1 c2 c3) 48))) := (Below.refl _ _).alloc (Nat.le_refl _) _
  obtain ⟨W0, hW0⟩ : ∃ W0, W0 = w.alloc (.cells (bC b a0 a1 a2 a3 c0 c1 c2 c3) 48) := ⟨_, rfl⟩
  have hz0 : w.heap.size < W0.heap.size := by rw [hW0]; simp
  rw [<- hW0] at HB0 hX0 ⊢
  clear hW0
  go_loopw [7, 8] (fun nv iv wr => ∃ (k : Nat) (s : Int), k <= b.ps.length /\ iv = .int .i64 k /\ nv = .int .i64 s /\ Hid (s = Gate.zaK b.ps tm rs k) /\ wr = W0) (fun _ iv _ => b.ps.length - (intOf iv).toNat)
  case atStart => exact ⟨0, 0, Nat.zero_le _, rfl, rfl, by simp [Gate.zaK, Hid], rfl⟩
  case round =>
    obtain ⟨k, s, hk, rfl, rfl, HQ, rfl⟩ := hrel
    have hkn : k <= 1000 := by omega
    have hsb : 0 <= s /\ s <= 1000000000 := by have h1 := HQ.out; have h2 := Gate.zbM b.ps tm rs HA.out k hk; omega
    by_cases hlt : k < b.ps.length
    · obtain ⟨ob, off, rfl, hob, d0, d1, d2, d3, d4⟩ := HK.out.ps.load HB0.out k hlt
      have hltI : (k : Int) < (b.ps.length : Int) := by omega
      have HSt := hid (Gate.zea b.ps tm rs k hlt)
      have hab := HA.out k hlt
      clear d0 d4
      by_cases h1 : b.ps[k].tm = tm
      · have e1 : (b.ps[k].tm.toList == tm.toList) = true := by rw [Gate.beq_toList]; simpa using h1
        by_cases h2 : b.ps[k].rs = rs
        · have e2 : (b.ps[k].rs.toList == rs.toList) = true := by rw [Gate.beq_toList]; simpa using h2
          have HN : Hid (Gate.zaK b.ps tm rs (k + 1) = s + b.ps[k].am) := by unfold Hid; rw [HSt.out, <- HQ.out, if_pos (by unfold Gate.zni; simp [h1, h2])]
          clear h1 h2
          go_wp2_with fail
          exact ⟨⟨k + 1, s + b.ps[k].am, by omega, by go_num, by go_num, HN.out.symm, trivial⟩, zk hlt⟩
        · have e2 : (b.ps[k].rs.toList == rs.toList) = false := by rw [Gate.beq_toList]; simpa using h2
          have HN : Hid (Gate.zaK b.ps tm rs (k + 1) = s) := by unfold Hid; rw [HSt.out, <- HQ.out, if_neg (by unfold Gate.zni; simp [h2])]; omega
          clear h1 h2
          go_wp2_with fail
          exact ⟨⟨k + 1, s, by omega, by go_num, rfl, HN.out.symm, trivial⟩, zk hlt⟩
      · have e1 : (b.ps[k].tm.toList == tm.toList) = false := by rw [Gate.beq_toList]; simpa using h1
        have HN : Hid (Gate.zaK b.ps tm rs (k + 1) = s) := by unfold Hid; rw [HSt.out, <- HQ.out, if_neg (by unfold Gate.zni; simp [h1])]; omega
        clear h1
        go_wp2_with fail
        exact ⟨⟨k + 1, s, by omega, by go_num, rfl, HN.out.symm, trivial⟩, zk hlt⟩
    · have e : k = b.ps.length := by omega
      subst e
      have HE : Hid (Gate.out b.ps tm rs = s) := by unfold Hid Gate.out; exact HQ.out.symm
      clear HQ hlt hk
      go_wp2_with fail
      go_ret
      exact ⟨zl HE.out.symm, HB0.out⟩
set_option maxHeartbeats 2000000 in
theorem zg6 (a c : Option Addr) (ca cc : Nat) (xs ys : List ByteArray) (w : World) (hx : zB w a xs) (hy : zB w c ys) (hl : xs.length <= 1048576) (hl' : ys.length <= 1048576) :
    Calls Tryz.prog 91 #[.slice a xs.length ca, .slice c ys.length cc] w fun e w' => e = .returned (.bool (decide (xs = ys))) /\ Below w.heap.size w w' := by
  obtain ⟨r, hr⟩ : ∃ r, r = decide (xs = ys) := ⟨_, rfl⟩
  rw [<- hr]
  have HR := hid hr
  have HX := jE hx hy
  clear hr hx hy
  by_cases hn : xs.length = ys.length
  rotate_left
  · have HF : Hid (r = false) := by unfold Hid; rw [HR.out, decide_eq_false_iff_not]; intro e; exact hn (by rw [e])
    have e1 : ((xs.length : Int) != (ys.length : Int)) = true := by simp; omega
    clear hn
    go_enter Tryz.func91, Tryz.ntmps91
    go_wp2_with fail
    go_ret
    exact ⟨ze HF.out.symm, Below.refl _ _⟩
  have e1 : ((xs.length : Int) != (ys.length : Int)) = false := by simp; omega
  have HN := hid hn
  clear hn
  go_enter Tryz.func91, Tryz.ntmps91
  go_wp2_with fail
  go_loopw [5] (fun iv wr => ∃ k : Nat, k <= xs.length /\ iv = .int .i64 k /\ Hid ((∀ i (h : i < xs.length) (h' : i < ys.length), i < k -> xs[i] = ys[i]) /\ Below w.heap.size w wr)) (fun iv _ => xs.length - (intOf iv).toNat)
  case atStart => exact ⟨0, Nat.zero_le _, rfl, fun i h h' hk => by omega, Below.refl _ _⟩
  case round =>
    obtain ⟨k, hk, rfl, HQ⟩ := hrel
    have hkn : k <= 1048576 := by omega
    by_cases hlt : k < xs.length
    · have hlt' : k < ys.length := by have := HN.out; omega
      obtain ⟨p, po, rfl, hp, hpc⟩ := HX.out.1.cells (by intro e; rw [e] at hlt; simp at hlt)
      obtain ⟨q, qo, rfl, hq, hqc⟩ := HX.out.2.cells (by intro e; rw [e] at hlt'; simp at hlt')
      have c1 := (HQ.out.2.cell (p := ⟨p, po + k, none⟩) hp).trans (hpc k hlt)
      have c2 := (HQ.out.2.cell (p := ⟨q, qo + k, none⟩) hq).trans (hqc k hlt')
      have hltI : (k : Int) < (xs.length : Int) := by omega
      have hltI' : (k : Int) < (ys.length : Int) := by omega
      have hp' := Nat.lt_of_lt_of_le hp HQ.out.2.size
      have hq' := Nat.lt_of_lt_of_le hq HQ.out.2.size
      have HB := hid HQ.out.2
      clear hpc hqc
      by_cases he : xs[k] = ys[k]
      · have e2 : (xs[k].toList == ys[k].toList) = true := by rw [Gate.beq_toList]; simpa using he
        have HA : Hid (∀ i (h : i < xs.length) (h' : i < ys.length), i < k + 1 -> xs[i] = ys[i]) := by
          intro i h h' hi
          rcases Nat.eq_or_lt_of_le (Nat.le_of_lt_succ hi) with e | h2
          · subst e; exact he
          · exact HQ.out.1 i h h' h2
        clear he HQ
        go_wp2_with fail
        go_quiet (fail)
        go_wp2_with fail
        exact ⟨⟨k + 1, by omega, by go_num, HA.out, below_drewN HB.out _⟩, zk hlt⟩
      · have e2 : (xs[k].toList == ys[k].toList) = false := by rw [Gate.beq_toList]; simpa using he
        have HF : Hid (r = false) := by
          unfold Hid
          rw [HR.out, decide_eq_false_iff_not]
          intro e
          subst e
          exact he rfl
        clear he HQ
        go_wp2_with fail
        go_quiet (fail)
        go_wp2_with fail
        go_ret
        exact ⟨ze HF.out.symm, below_drewN HB.out _⟩
    · have HF : Hid (r = true) := by
        unfold Hid
        rw [HR.out, decide_eq_true_eq]
        exact List.ext_getElem HN.out fun i h h' => HQ.out.1 i h h' (by omega)
      have HB := hid HQ.out.2
      clear HQ
      go_wp2_with fail
      go_ret
      exact ⟨ze HF.out.symm, HB.out⟩
end Go.Proofs.YtfcdmlnpfoikhaaGreat

namespace Go.Proofs.YtfcdmlnpfoikhaaGreat
open Go.RowKit
set_option maxHeartbeats 2000000 in
theorem zha (a c : Option Addr) (ca cc : Nat) (xs ys : List ByteArray) (w : World) (hx : zB w a xs) (hy : zB w c ys) (hl : xs.length <= 1048576) (hl' : ys.length <= 1048576) :
    Calls Tryz.prog 192 #[.slice a xs.length ca, .slice c ys.length cc] w fun e w' => e = .returned (.bool (decide (xs = ys))) /\ Below w.heap.size w w' := by
  obtain ⟨r, hr⟩ : ∃ r, r = decide (xs = ys) := ⟨_, rfl⟩
  rw [<- hr]
  have HR : Hid (r = decide (xs = ys)) := hr
  have HX : Hid (zB w a xs /\ zB w c ys) := ⟨hx, hy⟩
  clear hr hx hy
  by_cases hn : xs.length = ys.length
  rotate_left
  · have HF : Hid (r = false) := by unfold Hid; rw [HR.out, decide_eq_false_iff_not]; intro e; exact hn (by rw [e])
    have e1 : ((xs.length : Int) != (ys.length : Int)) = true := by simp; omega
    clear hn
    go_enter Tryz.func192, Tryz.ntmps192
    go_wp2_with fail
    go_ret
    exact ⟨ze HF.out.symm, Below.refl _ _⟩
  have e1 : ((xs.length : Int) != (ys.length : Int)) = false := by simp; omega
  have HN : Hid (xs.length = ys.length) := hn
  clear hn
  go_enter Tryz.func192, Tryz.ntmps192
  go_wp2_with fail
  go_loopw [13] (fun iv wr => ∃ k : Nat, k <= xs.length /\ iv = .int .i64 k /\ Hid ((∀ i (h : i < xs.length) (h' : i < ys.length), i < k -> xs[i] = ys[i]) /\ Below w.heap.size w wr)) (fun iv _ => xs.length - (intOf iv).toNat)
  case atStart => exact ⟨0, Nat.zero_le _, rfl, fun i h h' hk => by omega, Below.refl _ _⟩
  case round =>
    obtain ⟨k, hk, rfl, HQ⟩ := hrel
    have hkn : k <= 1048576 := by omega
    by_cases hlt : k < xs.length
    · have hlt' : k < ys.length := by have := HN.out; omega
      obtain ⟨p, po, rfl, hp, hpc⟩ := HX.out.1.cells (by intro e; rw [e] at hlt; simp at hlt)
      obtain ⟨q, qo, rfl, hq, hqc⟩ := HX.out.2.cells (by intro e; rw [e] at hlt'; simp at hlt')
      have c1 := (HQ.out.2.cell (p := ⟨p, po + k, none⟩) hp).trans (hpc k hlt)
      have c2 := (HQ.out.2.cell (p := ⟨q, qo + k, none⟩) hq).trans (hqc k hlt')
      have hltI : (k : Int) < (xs.length : Int) := by omega
      have hltI' : (k : Int) < (ys.length : Int) := by omega
      have hp' : p < wr.heap.size := Nat.lt_of_lt_of_le hp HQ.out.2.size
      have hq' : q < wr.heap.size := Nat.lt_of_lt_of_le hq HQ.out.2.size
      have HB : Hid (Below w.heap.size w wr) := HQ.out.2
      clear hpc hqc
      by_cases he : xs[k] = ys[k]
      · have e2 : (xs[k].toList == ys[k].toList) = true := by rw [Gate.beq_toList]; simpa using he
        have HA : Hid (∀ i (h : i < xs.length) (h' : i < ys.length), i < k + 1 -> xs[i] = ys[i]) := by
          intro i h h' hi
          rcases Nat.eq_or_lt_of_le (Nat.le_of_lt_succ hi) with e | h2
          · subst e; exact he
          · exact HQ.out.1 i h h' h2
        clear he HQ
        go_wp2_with fail
        go_quiet (fail)
        go_wp2_with fail
        exact ⟨⟨k + 1, by omega, by go_num, HA.out, below_drewN HB.out _⟩, zk hlt⟩
      · have e2 : (xs[k].toList == ys[k].toList) = false := by rw [Gate.beq_toList]; simpa using he
        have HF : Hid (r = false) := by
          unfold Hid
          rw [HR.out, decide_eq_false_iff_not]
          intro e
          subst e
          exact he rfl
        clear he HQ
        go_wp2_with fail
        go_quiet (fail)
        go_wp2_with fail
        go_ret
        exact ⟨ze HF.out.symm, below_drewN HB.out _⟩
    · have HF : Hid (r = true) := by
        unfold Hid
        rw [HR.out, decide_eq_true_eq]
        exact List.ext_getElem HN.out fun i h h' => HQ.out.1 i h h' (by omega)
      have HB : Hid (Below w.heap.size w wr) := HQ.out.2
      clear HQ
      go_wp2_with fail
      go_ret
      exact ⟨ze HF.out.symm, HB.out⟩
end Go.Proofs.YtfcdmlnpfoikhaaGreat

namespace Go.Proofs.YtfcdmlnpfoikhaaGreat
open Go.RowKit
theorem yc.new (w : World) : yc (w.alloc (.map #[] 0)) w.heap.size (fun _ _ => none) :=
  ⟨⟨#[], 0, Array.getElem?_push_size, fun x hx => (by simp at hx), fun a b v h => (by cases h), fun i j x y hx => (by simp at hx)⟩, fun es c h => by
    have e : (w.alloc (.map #[] 0)).heap[w.heap.size]? = some (.map #[] 0) := Array.getElem?_push_size
    rw [e] at h
    cases h
    exact ⟨fun x hx => (by simp at hx), by simp⟩⟩
theorem zfU.below {r B : Nat} {w0 w w' : World} (h : zfU r w w') (hb : Below B w0 w) (hr : B <= r) : Below B w0 w' :=
  ⟨h.os.trans hb.os, h.tape.trans hb.tape, h.output.trans hb.output, by rw [h.size]; exact hb.size, fun k hk => (h.out k (by omega)).trans (hb.block k hk)⟩
set_option maxHeartbeats 1000000 in
theorem zeg (o : Ob) (a0 a1 : Option Addr) (c0 c1 : Nat) (w : World) : Calls Tryz.prog 112 #[.agg (oC o a0 a1 c0 c1)] w fun e w' => e = .returned (y7 o.kd o.nm) /\ Below w.heap.size w w' := by
  unfold y7
  go_enter Tryz.func112, Tryz.ntmps112
  go_wp2_with fail
  refine bodyPost_ret (v := .agg #[.string o.kd, .string o.nm]) (by simp [results, Tryz.results112, go_sem]) rfl ⟨rfl, ?_⟩
  first | exact zq _ _ _ | exact ((zq _ _ _).setCell (by simp) _).setCell (by simp) _ | exact ((zq _ _ _).setCell (by show _ <= _ + 1; omega) _).setCell (by show _ <= _ + 1; omega) _
structure zb4 (f : ByteArray -> ByteArray -> Option Int) (os : List Ob) (k : Nat) : Prop where
  has : ∀ p q, (f p q).isSome = (os.take k).any (Gate.zav p q)
  at_ : ∀ p q v, f p q = some v -> ∃ i, ∃ h : i < os.length, v = (i : Int) /\ os[i].kd = p /\ os[i].nm = q
theorem zb4.put {f : ByteArray -> ByteArray -> Option Int} {os : List Ob} {k : Nat} (h : zb4 f os k) (hlt : k < os.length) : zb4 (fun p q => if p = os[k].kd /\ q = os[k].nm then some (k : Int) else f p q) os (k + 1) := by
  refine ⟨fun p q => ?_, fun p q v hv => ?_⟩
  · rw [List.take_succ_eq_append_getElem hlt, List.any_append, <- h.has p q]
    simp only [List.any_cons, List.any_nil, Bool.or_false]
    by_cases e : p = os[k].kd /\ q = os[k].nm
    · rw [if_pos e]
      unfold Gate.zav
      simp [e.1, e.2]
    · rw [if_neg e]
      have : Gate.zav p q os[k] = false := by
        unfold Gate.zav
        rw [Bool.and_eq_false_iff, decide_eq_false_iff_not, decide_eq_false_iff_not]
        by_cases e1 : os[k].kd = p
        · exact Or.inr fun e2 => e ⟨e1.symm, e2.symm⟩
        · exact Or.inl e1
      rw [this, Bool.or_false]
  · by_cases e : p = os[k].kd /\ q = os[k].nm
    · rw [if_pos e] at hv
      exact ⟨k, hlt, (Option.some.inj hv).symm, e.1.symm, e.2.symm⟩
    · rw [if_neg e] at hv
      exact h.at_ p q v hv
set_option maxHeartbeats 2000000 in
theorem zg0 (a : Option Addr) (cap : Nat) (os : List Ob) (w : World) (hw : zbf w a os) (hl : os.length <= 1048576) :
    Calls Tryz.prog 148 #[.slice a os.length cap] w fun e w' => (∃ f, e = .returned (.map (some w.heap.size)) /\ yc w' w.heap.size f /\ zb4 f os os.length) /\ Below w.heap.size w w' := by
  have HW := hid hw
  have hmk : ∀ w : World, (Instr.makeMap 134 none).run Tryz.prog w = .ok (.map (some w.heap.size)) (w.alloc (.map #[] 0)) := fun w => by kernel_rfl
  clear hw
  go_enter Tryz.func148, Tryz.ntmps148
  go_wp2_with fail
  clear hmk
  go_loopw [9] (fun iv wr => ∃ k : Nat, k <= os.length /\ iv = .int .i64 k /\ Hid ((∃ f, yc wr w.heap.size f /\ zb4 f os k) /\ Below w.heap.size w wr)) (fun iv _ => os.length - (intOf iv).toNat)
  case atStart => exact ⟨0, Nat.zero_le _, rfl, ⟨_, yc.new w, ⟨fun p q => by simp, fun p q v h => by cases h⟩⟩, (Below.refl _ _).alloc (Nat.le_refl _) _⟩
  case round =>
    obtain ⟨k, hk, rfl, HX⟩ := hrel
    obtain ⟨⟨f, hf, hc⟩, hB⟩ := HX.out
    have hkn : k <= 1048576 := by omega
    by_cases hlt : k < os.length
    · obtain ⟨ob, off, v0, v1, q0, q1, rfl, hob, hsm, hl0, hl1, d0, d1, d2, d3, d4, d5, d6⟩ := HW.out.load hB k hlt
      have hltI : (k : Int) < (os.length : Int) := by omega
      have hob' := Nat.lt_of_lt_of_le hob hB.size
      have HKn := hid hsm
      have HPf := zfw hf hc hB
      clear hf hc hB HX hsm hl0 hl1
      go_wp2_with fail
      refine (zeg os[k] v0 v1 q0 q1 _).mono ?_
      rintro e w1 ⟨rfl, hb1⟩
      have hBa := (HPf.out.2.2.alloc HPf.out.2.2.size (.cells (oC os[k] v0 v1 q0 q1) 115))
      have hf1 : yc w1 w.heap.size f := (HPf.out.1.mono ((Below.refl _ _).alloc (Nat.le_refl _) _)).mono hb1
      obtain ⟨w2, hup, hf2, hp2⟩ := hf1.upd zc6 Tryz.underlying134 os[k].kd os[k].nm HKn.out.kd HKn.out.nm (k : Int)
      have HC : Hid ((∃ f, yc w2 w.heap.size f /\ zb4 f os (k + 1)) /\ Below w.heap.size w w2) :=
        ⟨⟨_, hf2, HPf.out.2.1.put hlt⟩, hp2.below (hBa.trans (hb1.mono hBa.size)) (Nat.le_refl _)⟩
      clear hf1 hf2 hp2 hb1 hBa
      go_wp2_with fail
      exact ⟨⟨k + 1, by omega, by go_num, HC.out⟩, zk hlt⟩
    · have e : k = os.length := by omega
      subst e
      have HE : Hid (∃ f, yc wr w.heap.size f /\ zb4 f os os.length) := ⟨f, hf, hc⟩
      have HB := hid hB
      clear hf hc hB HX hlt hk
      go_wp2_with fail
      go_ret
      obtain ⟨f, h1, h2⟩ := HE.out
      exact ⟨⟨f, rfl, h1, h2⟩, HB.out⟩
theorem zfG (a : Option Addr) (cap : Nat) (os : List Ob) (w : World) (hw : zbf w a os) (hl : os.length <= 1048576) :
    Calls Tryz.prog 148 #[.slice a os.length cap] w fun e w' => (∃ f, e = .returned (.map (some w.heap.size)) /\ yc w' w.heap.size f /\ ∀ p q, (f p q).isSome = os.any (Gate.zav p q)) /\ Below w.heap.size w w' := by
  refine (zg0 a cap os w hw hl).mono ?_
  rintro e w' ⟨⟨f, he, hf, hp⟩, hb⟩
  exact ⟨⟨f, he, hf, fun p q => by rw [hp.has p q, List.take_of_length_le (Nat.le_refl _)]⟩, hb⟩
end Go.Proofs.YtfcdmlnpfoikhaaGreat

namespace Go.Proofs.YtfcdmlnpfoikhaaGreat
open Go.RowKit
set_option maxHeartbeats 1000000 in
theorem zo6 (r : Nat) (f : ByteArray -> ByteArray -> Option Int) (p q : ByteArray) (w : World) (hM : yc w r f) (hp : p.size <= maxLen) (hq : q.size <= maxLen) :
    Calls Tryz.prog 114 #[.map (some r), y7 p q] w fun e w' => e = .returned (.bool (f p q).isSome) /\ Below w.heap.size w w' := by
  have hb : Below w.heap.size w (w.alloc (.cells #[.string p, .string q] 171)) := (Below.refl _ _).alloc (Nat.le_refl _) _
  have hlk := (hM.mono hb).look zc6 Tryz.underlying135 p q hp hq true
  unfold y7 at hlk ⊢
  simp only [if_true] at hlk
  have HB : Hid (Below w.heap.size w (w.alloc (.cells #[.string p, .string q] 171))) := hb
  clear hb hM
  cases hs : (f p q).isSome with
  | false =>
    rw [hs] at hlk
    go_enter Tryz.func114, Tryz.ntmps114
    go_wp2_with fail
    go_ret
    exact ⟨rfl, HB.out⟩
  | true =>
    rw [hs] at hlk
    go_enter Tryz.func114, Tryz.ntmps114
    go_wp2_with fail
    go_ret
    exact ⟨rfl, HB.out⟩
end Go.Proofs.YtfcdmlnpfoikhaaGreat
