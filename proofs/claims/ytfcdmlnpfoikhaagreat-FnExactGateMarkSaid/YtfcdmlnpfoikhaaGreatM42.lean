import Derived.Test.YtfcdmlnpfoikhaaGreatM39
import Derived.Test.YtfcdmlnpfoikhaaGreatM04
namespace Go.Proofs.YtfcdmlnpfoikhaaGreat
open Go.RowKit
namespace Gate
def yI (ls : List Lg) (tick : Int) (p : Pu) : Bool := jI ls p.tm p.rs && (zy p.dr && (within p.am 1 1000000 && within p.un tick (tick + 10)))
noncomputable def yG (b : Bk) : Bool := decide (b.ps.length <= 24) && (zbe jL b.ps && b.ps.all (yI b.ls b.tick))
end Gate
set_option maxHeartbeats 1000000 in
theorem zcL (p : Pu) (w : World) : Calls Tryz.prog 160 #[.agg p.cells] w fun e w' => e = .returned (y7 p.tm p.rs) /\ Below w.heap.size w w' := by
  unfold Pu.cells y7
  go_enter Tryz.func160, Tryz.ntmps160
  go_wp2_with fail
  refine bodyPost_ret (v := .agg #[.string p.tm, .string p.rs]) (by simp [results, Tryz.results160, go_sem]) rfl ⟨rfl, ?_⟩
  first | exact zq _ _ _ | exact ((zq _ _ _).setCell (by simp) _).setCell (by simp) _ | exact ((zq _ _ _).setCell (by show _ <= _ + 1; omega) _).setCell (by show _ <= _ + 1; omega) _
set_option maxHeartbeats 1000000 in
theorem za6 (p : Lg) (w : World) : Calls Tryz.prog 162 #[.agg p.cells] w fun e w' => e = .returned (y7 p.tm p.rs) /\ Below w.heap.size w w' := by
  unfold Lg.cells y7
  go_enter Tryz.func162, Tryz.ntmps162
  go_wp2_with fail
  refine bodyPost_ret (v := .agg #[.string p.tm, .string p.rs]) (by simp [results, Tryz.results162, go_sem]) rfl ⟨rfl, ?_⟩
  first | exact zq _ _ _ | exact ((zq _ _ _).setCell (by simp) _).setCell (by simp) _ | exact ((zq _ _ _).setCell (by show _ <= _ + 1; omega) _).setCell (by show _ <= _ + 1; omega) _
set_option maxHeartbeats 1000000 in
theorem zg9 (a : Option Addr) (cap : Nat) (ms : List Lg) (tm rs : ByteArray) (w : World) (hw : zb7 w a ms) (hl : ms.length <= 1000) (hr : Gate.rising Gate.yT ms) :
    Calls Tryz.prog 159 #[.slice a ms.length cap, y7 tm rs] w fun e w' => (∃ p : Nat, e = .returned (.tuple #[.int .i64 p, .bool (Gate.jI ms tm rs)]) /\ Gate.zdB ms tm rs p) /\ Below w.heap.size w w' := by
  unfold y7
  go_enter Tryz.func159, Tryz.ntmps159
  go_wp2_with fail
  refine (zfQ _ _ ms ⟨tm, rs, 0, 0⟩ _ (hw.mono ((Below.refl _ _).alloc (Nat.le_refl _) _)) hl hr).mono ?_
  rintro e w1 ⟨⟨p, rfl, hp⟩, hb⟩
  have hB1 : Below w.heap.size w w1 := ((Below.refl _ _).alloc (Nat.le_refl _) _).trans (hb.mono (by simp))
  clear hb
  go_wp2_with fail
  go_ret2
  exact ⟨⟨p, rfl, hp⟩, hB1⟩
set_option maxHeartbeats 4000000 in
theorem zi0 (b : Bk) (a0 a1 a2 a3 : Option Addr) (c0 c1 c2 c3 : Nat) (w : World) (hb : qD w b a0 a1 a2 a3) (hrl : Gate.rising Gate.yT b.ls) (hll : b.ls.length <= 10) (htk : 0 <= b.tick /\ b.tick <= 1000000) :
    Calls Tryz.prog 110 #[.agg (b.cells a0 a1 a2 a3 c0 c1 c2 c3)] w fun e w' => e = .returned (.bool (Gate.yG b)) /\ Below w.heap.size w w' := by
  have HK := hid hb
  have HRL := jE hrl hll
  clear hb hrl hll
  unfold Bk.cells
  by_cases hln : b.ps.length <= 24
  rotate_left
  · have HF : Hid (Gate.yG b = false) := by unfold Hid Gate.yG; rw [decide_eq_false hln]; rfl
    have hg : (24 : Int) < (b.ps.length : Int) := by omega
    go_enter Tryz.func110, Tryz.ntmps110
    go_wp2_with fail
    go_ret
    exact ⟨ze HF.out.symm, (Below.refl _ _).alloc (Nat.le_refl _) _⟩
  have hg : decide ((24 : Int) < (b.ps.length : Int)) = false := by simp; omega
  have HLN : Hid (b.ps.length <= 24) := hln
  clear hln
  go_enter Tryz.func110, Tryz.ntmps110
  go_wp2_with fail
  have hX0 := zH w (bC b a0 a1 a2 a3 c0 c1 c2 c3) 48
  have HB0 : Hid (Below w.heap.size w (w.alloc (.cells (bC b a0 a1 a2 a3 c0 c1 c2 c3) 48))) := (Below.refl _ _).alloc (Nat.le_refl _) _
  obtain ⟨W0, hW0⟩ : ∃ W0, W0 = w.alloc (.cells (bC b a0 a1 a2 a3 c0 c1 c2 c3) 48) := ⟨_, rfl⟩
  have hz0 : w.heap.size < W0.heap.size := by rw [hW0]; simp
  rw [<- hW0] at HB0 hX0 ⊢
  clear hW0
  refine (zho _ _ b.ps _ (HK.out.ps.mono HB0.out)).mono ?_
  rintro e w1 ⟨rfl, hb1⟩
  have HB1 := hid (HB0.out.trans (hb1.mono HB0.out.size))
  have hX1 := za hX0 hz0 hb1
  have hz1 := Nat.lt_of_lt_of_le hz0 hb1.size
  clear hb1 hX0 hz0 HB0
  by_cases has : Gate.zbe Gate.jL b.ps = true
  rotate_left
  · have has' : Gate.zbe Gate.jL b.ps = false := by simpa using has
    have HF : Hid (Gate.yG b = false) := by unfold Hid Gate.yG; rw [has']; simp
    rw [has']
    clear has has'
    go_wp2_with fail
    go_ret
    exact ⟨ze HF.out.symm, HB1.out⟩
  have HG : Hid (Gate.yG b = b.ps.all (Gate.yI b.ls b.tick)) := by unfold Hid Gate.yG; rw [has, decide_eq_true HLN.out]; rfl
  rw [has]
  clear has
  go_wp2_with fail
  go_loopw [20] (fun iv wr => ∃ k : Nat, k <= b.ps.length /\ iv = .int .i64 k /\ Hid ((b.ps.take k).all (Gate.yI b.ls b.tick) = true /\ Below w1.heap.size w1 wr)) (fun iv _ => b.ps.length - (intOf iv).toNat)
  case atStart => exact ⟨0, Nat.zero_le _, rfl, by simp, Below.refl _ _⟩
  case round =>
    obtain ⟨k, hk, rfl, HQ⟩ := hrel
    have hkn : k <= 24 := by have := HLN.out; omega
    by_cases hlt : k < b.ps.length
    · obtain ⟨ob, off, rfl, hob, d0, d1, d2, d3, d4⟩ := HK.out.ps.load (HB1.out.trans (HQ.out.2.mono HB1.out.size)) k hlt
      have hob' := Nat.lt_of_lt_of_le hob (HB1.out.trans (HQ.out.2.mono HB1.out.size)).size
      have hltI : (k : Int) < (b.ps.length : Int) := by omega
      have hX := za hX1 hz1 HQ.out.2
      have hz : w.heap.size < wr.heap.size := Nat.lt_of_lt_of_le hz1 HQ.out.2.size
      have HSn : Hid ((b.ps.take (k + 1)).all (Gate.yI b.ls b.tick) = ((b.ps.take k).all (Gate.yI b.ls b.tick) && (Gate.yI b.ls b.tick) b.ps[k])) := Gate.y9 _ _ _ hlt
      have HBo : Hid (∀ ob, Below w1.heap.size w1 (wr.alloc ob)) := fun ob => HQ.out.2.alloc HQ.out.2.size _
      have HBw : Hid (∀ W, Below w1.heap.size w1 W -> Below w.heap.size w W) := fun W hW => HB1.out.trans (hW.mono HB1.out.size)
      have HNo : Hid ((Gate.yI b.ls b.tick) b.ps[k] = false -> Gate.yG b = false) := fun h => by rw [HG.out]; exact Gate.jX _ _ _ hlt h
      have HYes : Hid ((Gate.yI b.ls b.tick) b.ps[k] = true -> (b.ps.take (k + 1)).all (Gate.yI b.ls b.tick) = true) := fun h => by rw [HSn.out, HQ.out.1, h]; rfl
      have HSm : Hid b.ps[k].Small := HK.out.ps.small k hlt
      go_wp2_with fail
      have hbN : Below wr.heap.size wr (wr.alloc (.cells #[.string b.ps[k].dr, .string b.ps[k].tm, .string b.ps[k].rs, .int .i64 b.ps[k].am, .int .i64 b.ps[k].un] 132)) := (Below.refl _ _).alloc (Nat.le_refl _) _
      have hN := zH wr #[.string b.ps[k].dr, .string b.ps[k].tm, .string b.ps[k].rs, .int .i64 b.ps[k].am, .int .i64 b.ps[k].un] 132
      obtain ⟨w2, hw2⟩ : ∃ w2, w2 = wr.alloc (.cells #[.string b.ps[k].dr, .string b.ps[k].tm, .string b.ps[k].rs, .int .i64 b.ps[k].am, .int .i64 b.ps[k].un] 132) := ⟨_, rfl⟩
      have hn2 : wr.heap.size < w2.heap.size := by rw [hw2]; simp
      rw [<- hw2] at hbN hN ⊢
      have HB2 : Hid (Below w1.heap.size w1 w2) := by unfold Hid; rw [hw2]; exact HBo.out _
      have hX2 := za hX hz hbN
      have hzX2 := Nat.lt_trans hz hn2
      clear hw2 d0 d1 d2 d3 d4 hX hbN
      have hS : (∀ j, w2.drew.cell? ⟨w.heap.size, j, none⟩ = (bC b a0 a1 a2 (some ⟨ob, off, none⟩) c0 c1 c2 c3)[j]?) /\ (∀ j, w2.drew.cell? ⟨wr.heap.size, j, none⟩ = (#[.string b.ps[k].dr, .string b.ps[k].tm, .string b.ps[k].rs, .int .i64 b.ps[k].am, .int .i64 b.ps[k].un] : Array Value)[j]?) := ⟨hX2, hN⟩
      have hB := HB2.out.drew
      have hzx := hzX2
      have hzn := hn2
      clear hX2 hN
      go_region_held3 (fun w' => (∀ j, w'.cell? ⟨w.heap.size, j, none⟩ = (bC b a0 a1 a2 (some ⟨ob, off, none⟩) c0 c1 c2 c3)[j]?) /\ (∀ j, w'.cell? ⟨wr.heap.size, j, none⟩ = (#[.string b.ps[k].dr, .string b.ps[k].tm, .string b.ps[k].rs, .int .i64 b.ps[k].am, .int .i64 b.ps[k].un] : Array Value)[j]?)) (exact hS) (first
        | (go_at_call 160; refine (zcL b.ps[k] _).mono ?_; rintro e w3 ⟨rfl, hb3⟩; have hS := (⟨za hS.1 hzx hb3, za hS.2 hzn hb3⟩ : _ /\ _); have hB := hB.trans (hb3.mono hB.size); have hzx := Nat.lt_of_lt_of_le hzx hb3.size; have hzn := Nat.lt_of_lt_of_le hzn hb3.size; clear hb3)
        | (go_at_call 159; refine (zg9 _ _ b.ls b.ps[k].tm b.ps[k].rs _ (by exact HK.out.ls.mono (HBw.out _ hB)) (by have := HRL.out.2; omega) HRL.out.1).mono ?_; rintro e w3 ⟨⟨pl, rfl, _⟩, hb3⟩; have hS := (⟨za hS.1 hzx hb3, za hS.2 hzn hb3⟩ : _ /\ _); have hB := hB.trans (hb3.mono hB.size); have hzx := Nat.lt_of_lt_of_le hzx hb3.size; have hzn := Nat.lt_of_lt_of_le hzn hb3.size; clear hb3))
      have HB3 := hid hB
      have hX3 := hS.1
      have hN3 := hS.2
      clear hS hB
      have htk1 := htk
      have HN1 : ∀ v, Gate.zy b.ps[k].dr = v -> Hid (∀ W, Calls Tryz.prog 140 #[.string b.ps[k].dr] W fun e w' => e = .returned (.bool v) /\ w' = W) := fun v h W => zw h (zN _ W HSm.out.dr)
      have HW1 : ∀ v, Gate.within b.ps[k].am 1 1000000 = v -> Hid (∀ W, Calls Tryz.prog 145 #[.int .i64 b.ps[k].am, .int .i64 1, .int .i64 1000000] W fun e w' => e = .returned (.bool v) /\ w' = W) := fun v h W => zw h (qE _ _ _ W)
      have HW2 : ∀ v, Gate.within b.ps[k].un b.tick (b.tick + 10) = v -> Hid (∀ W, Calls Tryz.prog 145 #[.int .i64 b.ps[k].un, .int .i64 b.tick, .int .i64 (b.tick + 10)] W fun e w' => e = .returned (.bool v) /\ w' = W) := fun v h W => zw h (qE _ _ _ W)
      by_cases t1 : Gate.jI b.ls b.ps[k].tm b.ps[k].rs = true
      rotate_left
      · have HF : Hid (Gate.yG b = false) := HNo.out (by unfold Gate.yI; rw [Bool.eq_false_iff.2 t1]; rfl)
        rw [Bool.eq_false_iff.2 t1]
        clear HN1 HW1 HW2 t1
        go_wp2_with fail
        go_ret
        exact ⟨ze HF.out.symm, HBw.out _ HB3.out⟩
      rw [t1]
      by_cases t2 : Gate.zy b.ps[k].dr = true
      rotate_left
      · have HF : Hid (Gate.yG b = false) := HNo.out (by unfold Gate.yI; rw [t1, Bool.eq_false_iff.2 t2]; rfl)
        have Ht2 := HN1 false (Bool.eq_false_iff.2 t2)
        clear HN1 HW1 HW2 t1 t2
        go_wp2_with fail
        refine (Ht2.out _).mono ?_
        rintro e w4 ⟨rfl, rfl⟩
        go_wp2_with fail
        go_ret
        exact ⟨ze HF.out.symm, HBw.out _ HB3.out⟩
      have Ht2 := HN1 true t2
      by_cases t3 : Gate.within b.ps[k].am 1 1000000 = true
      rotate_left
      · have HF : Hid (Gate.yG b = false) := HNo.out (by unfold Gate.yI; rw [t1, t2, Bool.eq_false_iff.2 t3]; rfl)
        have Ht3 := HW1 false (Bool.eq_false_iff.2 t3)
        clear HN1 HW1 HW2 t1 t2 t3
        go_wp2_with fail
        refine (Ht2.out _).mono ?_
        rintro e w4 ⟨rfl, rfl⟩
        go_wp2_with fail
        refine (Ht3.out _).mono ?_
        rintro e w4 ⟨rfl, rfl⟩
        go_wp2_with fail
        go_ret
        exact ⟨ze HF.out.symm, HBw.out _ HB3.out⟩
      have Ht3 := HW1 true t3
      by_cases t4 : Gate.within b.ps[k].un b.tick (b.tick + 10) = true
      rotate_left
      · have HF : Hid (Gate.yG b = false) := HNo.out (by unfold Gate.yI; rw [t1, t2, t3, Bool.eq_false_iff.2 t4]; rfl)
        have Ht4 := HW2 false (Bool.eq_false_iff.2 t4)
        clear HN1 HW1 HW2 t1 t2 t3 t4
        go_wp2_with fail
        refine (Ht2.out _).mono ?_
        rintro e w4 ⟨rfl, rfl⟩
        go_wp2_with fail
        refine (Ht3.out _).mono ?_
        rintro e w4 ⟨rfl, rfl⟩
        go_wp2_with fail
        refine (Ht4.out _).mono ?_
        rintro e w4 ⟨rfl, rfl⟩
        go_wp2_with fail
        go_ret
        exact ⟨ze HF.out.symm, HBw.out _ HB3.out⟩
      have Ht4 := HW2 true t4
      have HY : Hid ((b.ps.take (k + 1)).all (Gate.yI b.ls b.tick) = true) := HYes.out (by unfold Gate.yI; rw [t1, t2, t3, t4]; rfl)
      clear HN1 HW1 HW2 t1 t2 t3 t4
      go_wp2_with fail
      refine (Ht2.out _).mono ?_
      rintro e w4 ⟨rfl, rfl⟩
      go_wp2_with fail
      refine (Ht3.out _).mono ?_
      rintro e w4 ⟨rfl, rfl⟩
      go_wp2_with fail
      refine (Ht4.out _).mono ?_
      rintro e w4 ⟨rfl, rfl⟩
      go_wp2_with fail
      exact ⟨⟨k + 1, by omega, by go_num, HY.out, HB3.out⟩, zk hlt⟩
    · have e : k = b.ps.length := by omega
      subst e
      have HE : Hid (Gate.yG b = true) := by
        unfold Hid
        rw [HG.out]
        have h := HQ.out.1
        rw [List.take_of_length_le (Nat.le_refl _)] at h
        exact h
      have HBe := hid (HB1.out.trans (HQ.out.2.mono HB1.out.size))
      clear hlt hk HQ
      go_wp2_with fail
      go_ret
      exact ⟨ze HE.out.symm, HBe.out⟩
end Go.Proofs.YtfcdmlnpfoikhaaGreat

namespace Go.Proofs.YtfcdmlnpfoikhaaGreat
open Go.RowKit
namespace Gate
def zdy {α : Type} (p : α -> Bool) (l : List α) : Int := if l.any p = true then (l.findIdx p : Int) else -1
theorem znt {α : Type} {p : α -> Bool} {l : List α} {k : Nat} (hk : k < l.length) (h : ∀ i (hi : i < l.length), i < k -> p l[i] = false) (hp : p l[k] = true) : zdy p l = k := by
  unfold zdy
  rw [if_pos (List.any_eq_true.2 ⟨l[k], List.getElem_mem _, hp⟩)]
  have e : l.findIdx p = k := (List.findIdx_eq hk).2 ⟨hp, fun j hj => h j (by omega) hj⟩
  rw [e]
theorem zjJ {α : Type} {p : α -> Bool} {l : List α} (h : ∀ i (hi : i < l.length), p l[i] = false) : zdy p l = -1 := by
  unfold zdy
  rw [if_neg]
  intro hc
  obtain ⟨x, hx, hp⟩ := List.any_eq_true.1 hc
  obtain ⟨i, hi, rfl⟩ := List.mem_iff_getElem.1 hx
  rw [h i hi] at hp
  cases hp
theorem ze9 {α : Type} (p : α -> Bool) (l : List α) : zdy p l < 0 ↔ l.any p = false := by
  unfold zdy
  split
  · rename_i h; rw [h]; constructor
    · intro h'; omega
    · intro h'; cases h'
  · rename_i h
    exact ⟨fun _ => by simpa using h, fun _ => by omega⟩
def zav (kd nm : ByteArray) (o : Ob) : Bool := decide (o.kd = kd) && decide (o.nm = nm)
def zeF (tm rs : ByteArray) (g : Lg) : Bool := decide (g.tm = tm) && decide (g.rs = rs)
def zni (tm rs : ByteArray) (p : Pu) : Bool := decide (p.tm = tm) && decide (p.rs = rs)
def zaK (ps : List Pu) (tm rs : ByteArray) : Nat -> Int
  | 0 => 0
  | k + 1 => zaK ps tm rs k + (match ps[k]? with | some p => if zni tm rs p = true then p.am else 0 | none => 0)
def out (ps : List Pu) (tm rs : ByteArray) : Int := zaK ps tm rs ps.length
theorem zea (ps : List Pu) (tm rs : ByteArray) (k : Nat) (h : k < ps.length) : zaK ps tm rs (k + 1) = zaK ps tm rs k + (if zni tm rs ps[k] = true then ps[k].am else 0) := by
  simp only [zaK, List.getElem?_eq_getElem h]
theorem zbM (ps : List Pu) (tm rs : ByteArray) (ha : ∀ i (h : i < ps.length), 0 <= ps[i].am /\ ps[i].am <= 1000000) : ∀ k, k <= ps.length -> 0 <= zaK ps tm rs k /\ zaK ps tm rs k <= k * 1000000
  | 0, _ => by simp [zaK]
  | k + 1, h => by
    have h1 := zbM ps tm rs ha k (by omega)
    have h2 := ha k h
    rw [zea ps tm rs k h]
    split <;> omega
end Gate
set_option maxHeartbeats 400000 in
theorem zfK (x y : ByteArray) (w : World) : Calls Tryz.prog 126 #[.string x, .string y] w fun e w' => e = .returned (.int .i64 (Gate.key x y)) /\ w' = w := by
  have k1 := Gate.zhK x y
  have k2 := Gate.zhK y x
  have k3 := Gate.zoC x y
  have k4 := Gate.zlX x y
  unfold Gate.less at k1 k2
  by_cases h1 : Gate.key x y = -1
  · have HF := zit h1
    have e1 : Op.bytesLess x.toList y.toList = true := by rw [k1]; simpa using h1
    clear k1 k2 k3 k4 h1
    go_enter Tryz.func126, Tryz.ntmps126
    go_wp2_with fail
    go_ret
    exact ⟨zl HF.out.symm, rfl⟩
  · have e1 : Op.bytesLess x.toList y.toList = false := by rw [k1]; simpa using h1
    by_cases h2 : Gate.key y x = -1
    · have HF : Hid (Gate.key x y = 1) := by unfold Hid; omega
      have e2 : Op.bytesLess y.toList x.toList = true := by rw [k2]; simpa using h2
      have e3 : (x.toList == y.toList) = false := by rw [Gate.beq_toList, decide_eq_false_iff_not]; intro e; have := (Gate.za7 x y).2 e; omega
      clear k1 k2 k3 k4 h1 h2
      go_enter Tryz.func126, Tryz.ntmps126
      go_wp2_with fail
      go_ret
      exact ⟨zl HF.out.symm, rfl⟩
    · have HF : Hid (Gate.key x y = 0) := by unfold Hid; omega
      have e2 : Op.bytesLess y.toList x.toList = false := by rw [k2]; simpa using h2
      have e3 : (x.toList == y.toList) = true := by rw [Gate.beq_toList, decide_eq_true_eq]; exact (Gate.za7 x y).1 HF.out
      clear k1 k2 k3 k4 h1 h2
      go_enter Tryz.func126, Tryz.ntmps126
      go_wp2_with fail
      go_ret
      exact ⟨zl HF.out.symm, rfl⟩
set_option maxHeartbeats 400000 in
theorem zf1 (x y z u : ByteArray) (w : World) : Calls Tryz.prog 90 #[.string x, .string y, .string z, .string u] w fun e w' => e = .returned (.int .i64 (Gate.key2 x y z u)) /\ w' = w := by
  by_cases h : Gate.key x z = 0
  · have HF : Hid (Gate.key2 x y z u = Gate.key y u) := by unfold Hid Gate.key2; rw [if_pos h]
    have e1 : (Gate.key x z != 0) = false := by simpa using h
    clear h
    go_enter Tryz.func90, Tryz.ntmps90
    go_wp2_with (go_at_call 126; refine (zfK _ _ _).mono ?_; rintro e w2 ⟨rfl, rfl⟩)
    go_ret
    exact ⟨zl HF.out.symm, rfl⟩
  · have HF : Hid (Gate.key2 x y z u = Gate.key x z) := by unfold Hid Gate.key2; rw [if_neg h]
    have e1 : (Gate.key x z != 0) = true := by simpa using h
    clear h
    go_enter Tryz.func90, Tryz.ntmps90
    go_wp2_with (go_at_call 126; refine (zfK _ _ _).mono ?_; rintro e w2 ⟨rfl, rfl⟩)
    go_ret
    exact ⟨zl HF.out.symm, rfl⟩
set_option maxHeartbeats 400000 in
theorem ziG (p q : Pu) (w : World) : Calls Tryz.prog 98 #[.agg p.cells, .agg q.cells] w fun e w' => e = .returned (.int .i64 (Gate.jL p q)) /\ Below w.heap.size w w' := by
  unfold Pu.cells
  by_cases h : p.dr = q.dr
  · have HF : Hid (Gate.jL p q = Gate.key2 p.tm p.rs q.tm q.rs) := by unfold Hid Gate.jL; rw [if_pos ((Gate.za7 _ _).2 h)]
    have e1 : (p.dr.toList == q.dr.toList) = true := by rw [Gate.beq_toList]; simpa using h
    clear h
    go_enter Tryz.func98, Tryz.ntmps98
    go_wp2_with fail
    refine (zf1 _ _ _ _ _).mono ?_
    rintro e w2 ⟨rfl, rfl⟩
    go_wp2_with fail
    go_ret
    exact ⟨zl HF.out.symm, zq _ _ _⟩
  · have HF : Hid (Gate.jL p q = Gate.key p.dr q.dr) := by unfold Hid Gate.jL; rw [if_neg (fun e => h ((Gate.za7 _ _).1 e))]
    have e1 : (p.dr.toList == q.dr.toList) = false := by rw [Gate.beq_toList]; simpa using h
    clear h
    go_enter Tryz.func98, Tryz.ntmps98
    go_wp2_with fail
    refine (zfK _ _ _).mono ?_
    rintro e w2 ⟨rfl, rfl⟩
    go_wp2_with fail
    go_ret
    exact ⟨zl HF.out.symm, zq _ _ _⟩
set_option maxHeartbeats 2000000 in
theorem zom (b : Bk) (a0 a1 a2 a3 : Option Addr) (c0 c1 c2 c3 : Nat) (kd nm : ByteArray) (w : World) (hb : qD w b a0 a1 a2 a3) (hl : b.os.length <= 1048576) :
    Calls Tryz.prog 94 #[.agg (b.cells a0 a1 a2 a3 c0 c1 c2 c3), .string kd, .string nm] w fun e w' => e = .returned (.int .i64 (Gate.zdy (Gate.zav kd nm) b.os)) /\ Below w.heap.size w w' := by
  have HK : Hid (qD w b a0 a1 a2 a3) := hb
  clear hb
  unfold Bk.cells
  go_enter Tryz.func94, Tryz.ntmps94
  go_wp2_with fail
  have hX0 := zH w (bC b a0 a1 a2 a3 c0 c1 c2 c3) 48
  have HB0 : Hid (Below w.heap.size w (w.alloc (.cells (bC b a0 a1 a2 a3 c0 c1 c2 c3) 48))) := (Below.refl _ _).alloc (Nat.le_refl _) _
  obtain ⟨W0, hW0⟩ : ∃ W0, W0 = w.alloc (.cells (bC b a0 a1 a2 a3 c0 c1 c2 c3) 48) := ⟨_, rfl⟩
  have hz0 : w.heap.size < W0.heap.size := by rw [hW0]; simp
  rw [<- hW0] at HB0 hX0 ⊢
  clear hW0
  go_loopw [7] (fun iv wr => ∃ k : Nat, k <= b.os.length /\ iv = .int .i64 k /\ Hid (∀ i (hi : i < b.os.length), i < k -> Gate.zav kd nm b.os[i] = false) /\ wr = W0) (fun iv _ => b.os.length - (intOf iv).toNat)
  case atStart => exact ⟨0, Nat.zero_le _, rfl, fun i hi h => by omega, rfl⟩
  case round =>
    obtain ⟨k, hk, rfl, HQ, rfl⟩ := hrel
    have hkn : k <= 1048576 := by omega
    by_cases hlt : k < b.os.length
    · obtain ⟨ob, off, v0, v1, q0, q1, rfl, hob, hsm, hl0, hl1, d0, d1, d2, d3, d4, d5, d6⟩ := HK.out.os.load HB0.out k hlt
      have hltI : (k : Int) < (b.os.length : Int) := by omega
      clear hsm hl0 hl1
      by_cases h1 : b.os[k].kd = kd
      · have e1 : (b.os[k].kd.toList == kd.toList) = true := by rw [Gate.beq_toList]; simpa using h1
        by_cases h2 : b.os[k].nm = nm
        · have e2 : (b.os[k].nm.toList == nm.toList) = true := by rw [Gate.beq_toList]; simpa using h2
          have HF : Hid (Gate.zdy (Gate.zav kd nm) b.os = k) := Gate.znt hlt HQ.out (by unfold Gate.zav; simp [h1, h2])
          clear h1 h2
          go_wp2_with fail
          go_ret
          exact ⟨zl HF.out.symm, HB0.out⟩
        · have e2 : (b.os[k].nm.toList == nm.toList) = false := by rw [Gate.beq_toList]; simpa using h2
          have HN : Hid (∀ i (hi : i < b.os.length), i < k + 1 -> Gate.zav kd nm b.os[i] = false) := by
            intro i hi h
            rcases Nat.eq_or_lt_of_le (Nat.le_of_lt_succ h) with e | h'
            · subst e; unfold Gate.zav; simp [h2]
            · exact HQ.out i hi h'
          clear h1 h2
          go_wp2_with fail
          exact ⟨⟨k + 1, by omega, by go_num, HN.out, trivial⟩, zk hlt⟩
      · have e1 : (b.os[k].kd.toList == kd.toList) = false := by rw [Gate.beq_toList]; simpa using h1
        have HN : Hid (∀ i (hi : i < b.os.length), i < k + 1 -> Gate.zav kd nm b.os[i] = false) := by
          intro i hi h
          rcases Nat.eq_or_lt_of_le (Nat.le_of_lt_succ h) with e | h'
          · subst e; unfold Gate.zav; simp [h1]
          · exact HQ.out i hi h'
        clear h1
        go_wp2_with fail
        exact ⟨⟨k + 1, by omega, by go_num, HN.out, trivial⟩, zk hlt⟩
    · have HF : Hid (Gate.zdy (Gate.zav kd nm) b.os = -1) := Gate.zjJ fun i hi => HQ.out i hi (by omega)
      clear HQ
      go_wp2_with fail
      go_ret
      exact ⟨zl HF.out.symm, HB0.out⟩
set_option maxHeartbeats 2000000 in
theorem zkj (b : Bk) (a0 a1 a2 a3 : Option Addr) (c0 c1 c2 c3 : Nat) (tm rs : ByteArray) (w : World) (hb : qD w b a0 a1 a2 a3) (hl : b.ls.length <= 1048576) :
    Calls Tryz.prog 97 #[.agg (b.cells a0 a1 a2 a3 c0 c1 c2 c3), .string tm, .string rs] w fun e w' => e = .returned (.int .i64 (Gate.zdy (Gate.zeF tm rs) b.ls)) /\ Below w.heap.size w w' := by
  have HK : Hid (qD w b a0 a1 a2 a3) := hb
  clear hb
  unfold Bk.cells
  go_enter Tryz.func97, Tryz.ntmps97
  go_wp2_with fail
  have hX0 := zH w (bC b a0 a1 a2 a3 c0 c1 c2 c3) 48
  have HB0 : Hid (Below w.heap.size w (w.alloc (.cells (bC b a0 a1 a2 a3 c0 c1 c2 c3) 48))) := (Below.refl _ _).alloc (Nat.le_refl _) _
  obtain ⟨W0, hW0⟩ : ∃ W0, W0 = w.alloc (.cells (bC b a0 a1 a2 a3 c0 c1 c2 c3) 48) := ⟨_, rfl⟩
  have hz0 : w.heap.size < W0.heap.size := by rw [hW0]; simp
  rw [<- hW0] at HB0 hX0 ⊢
  clear hW0
  go_loopw [7] (fun iv wr => ∃ k : Nat, k <= b.ls.length /\ iv = .int .i64 k /\ Hid (∀ i (hi : i < b.ls.length), i < k -> Gate.zeF tm rs b.ls[i] = false) /\ wr = W0) (fun iv _ => b.ls.length - (intOf iv).toNat)
  case atStart => exact ⟨0, Nat.zero_le _, rfl, fun i hi h => by omega, rfl⟩
  case round =>
    obtain ⟨k, hk, rfl, HQ, rfl⟩ := hrel
    have hkn : k <= 1048576 := by omega
    by_cases hlt : k < b.ls.length
    · obtain ⟨ob, off, rfl, hob, d0, d1, d2, d3⟩ := HK.out.ls.load HB0.out k hlt
      have hltI : (k : Int) < (b.ls.length : Int) := by omega
      clear d2 d3
      by_cases h1 : b.ls[k].tm = tm
      · have e1 : (b.ls[k].tm.toList == tm.toList) = true := by rw [Gate.beq_toList]; simpa using h1
        by_cases h2 : b.ls[k].rs = rs
        · have e2 : (b.ls[k].rs.toList == rs.toList) = true := by rw [Gate.beq_toList]; simpa using h2
          have HF : Hid (Gate.zdy (Gate.zeF tm rs) b.ls = k) := Gate.znt hlt HQ.out (by unfold Gate.zeF; simp [h1, h2])
          clear h1 h2
          go_wp2_with fail
          go_ret
          exact ⟨zl HF.out.symm, HB0.out⟩
        · have e2 : (b.ls[k].rs.toList == rs.toList) = false := by rw [Gate.beq_toList]; simpa using h2
          have HN : Hid (∀ i (hi : i < b.ls.length), i < k + 1 -> Gate.zeF tm rs b.ls[i] = false) := by
            intro i hi h
            rcases Nat.eq_or_lt_of_le (Nat.le_of_lt_succ h) with e | h'
            · subst e; unfold Gate.zeF; simp [h2]
            · exact HQ.out i hi h'
          clear h1 h2
          go_wp2_with fail
          exact ⟨⟨k + 1, by omega, by go_num, HN.out, trivial⟩, zk hlt⟩
      · have e1 : (b.ls[k].tm.toList == tm.toList) = false := by rw [Gate.beq_toList]; simpa using h1
        have HN : Hid (∀ i (hi : i < b.ls.length), i < k + 1 -> Gate.zeF tm rs b.ls[i] = false) := by
          intro i hi h
          rcases Nat.eq_or_lt_of_le (Nat.le_of_lt_succ h) with e | h'
          · subst e; unfold Gate.zeF; simp [h1]
          · exact HQ.out i hi h'
        clear h1
        go_wp2_with fail
        exact ⟨⟨k + 1, by omega, by go_num, HN.out, trivial⟩, zk hlt⟩
    · have HF : Hid (Gate.zdy (Gate.zeF tm rs) b.ls = -1) := Gate.zjJ fun i hi => HQ.out i hi (by omega)
      clear HQ
      go_wp2_with fail
      go_ret
      exact ⟨zl HF.out.symm, HB0.out⟩
end Go.Proofs.YtfcdmlnpfoikhaaGreat
