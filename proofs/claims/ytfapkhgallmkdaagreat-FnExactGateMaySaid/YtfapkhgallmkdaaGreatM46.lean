import Derived.Test.YtfapkhgallmkdaaGreatM43
import Derived.Test.YtfapkhgallmkdaaGreatM05
namespace Go.Proofs.YtfapkhgallmkdaaGreat
open Go.RowKit
namespace Gate
def yK (ls : List Lg) (tick : Int) (p : Pu) : Bool := jE ls p.tm p.rs && (zy p.dr && (within p.am 1 1000000 && within p.un tick (tick + 10)))
noncomputable def yI (b : Bk) : Bool := decide (b.ps.length <= 24) && (za7 jH b.ps && b.ps.all (yK b.ls b.tick))
end Gate
set_option maxHeartbeats 1000000 in
theorem zcE (p : Pu) (w : World) : Calls Tryz.prog 154 #[.agg p.cells] w fun e w' => e = .returned (qB p.tm p.rs) /\ Below w.heap.size w w' := by
  unfold Pu.cells qB
  go_enter Tryz.func154, Tryz.ntmps154
  go_wp2_with fail
  refine bodyPost_ret (v := .agg #[.string p.tm, .string p.rs]) (by simp [results, Tryz.results154, go_sem]) rfl ⟨rfl, ?_⟩
  first | exact zu _ _ _ | exact ((zu _ _ _).setCell (by simp) _).setCell (by simp) _ | exact ((zu _ _ _).setCell (by show _ <= _ + 1; omega) _).setCell (by show _ <= _ + 1; omega) _
set_option maxHeartbeats 1000000 in
theorem zaX (p : Lg) (w : World) : Calls Tryz.prog 156 #[.agg p.cells] w fun e w' => e = .returned (qB p.tm p.rs) /\ Below w.heap.size w w' := by
  unfold Lg.cells qB
  go_enter Tryz.func156, Tryz.ntmps156
  go_wp2_with fail
  refine bodyPost_ret (v := .agg #[.string p.tm, .string p.rs]) (by simp [results, Tryz.results156, go_sem]) rfl ⟨rfl, ?_⟩
  first | exact zu _ _ _ | exact ((zu _ _ _).setCell (by simp) _).setCell (by simp) _ | exact ((zu _ _ _).setCell (by show _ <= _ + 1; omega) _).setCell (by show _ <= _ + 1; omega) _
set_option maxHeartbeats 1000000 in
theorem zgM (a : Option Addr) (cap : Nat) (ms : List Lg) (tm rs : ByteArray) (w : World) (hw : zb4 w a ms) (hl : ms.length <= 1000) (hr : Gate.rising Gate.yS ms) :
    Calls Tryz.prog 153 #[.slice a ms.length cap, qB tm rs] w fun e w' => (∃ p : Nat, e = .returned (.tuple #[.int .i64 p, .bool (Gate.jE ms tm rs)]) /\ Gate.zdp ms tm rs p) /\ Below w.heap.size w w' := by
  unfold qB
  go_enter Tryz.func153, Tryz.ntmps153
  go_wp2_with fail
  refine (zfz _ _ ms ⟨tm, rs, 0, 0⟩ _ (hw.mono ((Below.refl _ _).alloc (Nat.le_refl _) _)) hl hr).mono ?_
  rintro e w1 ⟨⟨p, rfl, hp⟩, hb⟩
  have hB1 : Below w.heap.size w w1 := ((Below.refl _ _).alloc (Nat.le_refl _) _).trans (hb.mono (by simp))
  clear hb
  go_wp2_with fail
  go_ret2
  exact ⟨⟨p, rfl, hp⟩, hB1⟩
set_option maxHeartbeats 4000000 in
theorem ziB (b : Bk) (a0 a1 a2 a3 : Option Addr) (c0 c1 c2 c3 : Nat) (w : World) (hb : qL w b a0 a1 a2 a3) (hrl : Gate.rising Gate.yS b.ls) (hll : b.ls.length <= 10) (htk : 0 <= b.tick /\ b.tick <= 1000000) :
    Calls Tryz.prog 104 #[.agg (b.cells a0 a1 a2 a3 c0 c1 c2 c3)] w fun e w' => e = .returned (.bool (Gate.yI b)) /\ Below w.heap.size w w' := by
  have HK := hid hb
  have HRL := j4 hrl hll
  clear hb hrl hll
  unfold Bk.cells
  by_cases hln : b.ps.length <= 24
  rotate_left
  · have HF : Hid (Gate.yI b = false) := by unfold Hid Gate.yI; rw [decide_eq_false hln]; rfl
    have hg : (24 : Int) < (b.ps.length : Int) := by omega
    go_enter Tryz.func104, Tryz.ntmps104
    go_wp2_with fail
    go_ret
    exact ⟨ze HF.out.symm, (Below.refl _ _).alloc (Nat.le_refl _) _⟩
  have hg : decide ((24 : Int) < (b.ps.length : Int)) = false := by simp; omega
  have HLN : Hid (b.ps.length <= 24) := hln
  clear hln
  go_enter Tryz.func104, Tryz.ntmps104
  go_wp2_with fail
  have hX0 := zG w (bC b a0 a1 a2 a3 c0 c1 c2 c3) 50
  have HB0 : Hid (Below w.heap.size w (w.alloc (.cells (bC b a0 a1 a2 a3 c0 c1 c2 c3) 50))) := (Below.refl _ _).alloc (Nat.le_refl _) _
  obtain ⟨W0, hW0⟩ : ∃ W0, W0 = w.alloc (.cells (bC b a0 a1 a2 a3 c0 c1 c2 c3) 50) := ⟨_, rfl⟩
  have hz0 : w.heap.size < W0.heap.size := by rw [hW0]; simp
  rw [<- hW0] at HB0 hX0 ⊢
  clear hW0
  refine (zg1 _ _ b.ps _ (HK.out.ps.mono HB0.out)).mono ?_
  rintro e w1 ⟨rfl, hb1⟩
  have HB1 := hid (HB0.out.trans (hb1.mono HB0.out.size))
  have hX1 := za hX0 hz0 hb1
  have hz1 := Nat.lt_of_lt_of_le hz0 hb1.size
  clear hb1 hX0 hz0 HB0
  by_cases has : Gate.za7 Gate.jH b.ps = true
  rotate_left
  · have has' : Gate.za7 Gate.jH b.ps = false := by simpa using has
    have HF : Hid (Gate.yI b = false) := by unfold Hid Gate.yI; rw [has']; simp
    rw [has']
    clear has has'
    go_wp2_with fail
    go_ret
    exact ⟨ze HF.out.symm, HB1.out⟩
  have HG : Hid (Gate.yI b = b.ps.all (Gate.yK b.ls b.tick)) := by unfold Hid Gate.yI; rw [has, decide_eq_true HLN.out]; rfl
  rw [has]
  clear has
  go_wp2_with fail
  go_loopw [20] (fun iv wr => ∃ k : Nat, k <= b.ps.length /\ iv = .int .i64 k /\ Hid ((b.ps.take k).all (Gate.yK b.ls b.tick) = true /\ Below w1.heap.size w1 wr)) (fun iv _ => b.ps.length - (intOf iv).toNat)
  case atStart => exact ⟨0, Nat.zero_le _, rfl, by simp, Below.refl _ _⟩
  case round =>
    obtain ⟨k, hk, rfl, HQ⟩ := hrel
    have hkn : k <= 24 := by have := HLN.out; omega
    by_cases hlt : k < b.ps.length
    · obtain ⟨ob, off, rfl, hob, d0, d1, d2, d3, d4⟩ := HK.out.ps.load (HB1.out.trans (HQ.out.2.mono HB1.out.size)) k hlt
      have hob' := Nat.lt_of_lt_of_le hob (HB1.out.trans (HQ.out.2.mono HB1.out.size)).size
      have hltI : (k : Int) < (b.ps.length : Int) := by omega
      have hX := za hX1 hz1 HQ.out.2
      have hz : w.heap.size < wr.heap.size := Nat.lt_of_lt_of_le hz1 HQ.out.2.size
      have HSn : Hid ((b.ps.take (k + 1)).all (Gate.yK b.ls b.tick) = ((b.ps.take k).all (Gate.yK b.ls b.tick) && (Gate.yK b.ls b.tick) b.ps[k])) := Gate.y7 _ _ _ hlt
      have HBo : Hid (∀ ob, Below w1.heap.size w1 (wr.alloc ob)) := fun ob => HQ.out.2.alloc HQ.out.2.size _
      have HBw : Hid (∀ W, Below w1.heap.size w1 W -> Below w.heap.size w W) := fun W hW => HB1.out.trans (hW.mono HB1.out.size)
      have HNo : Hid ((Gate.yK b.ls b.tick) b.ps[k] = false -> Gate.yI b = false) := fun h => by rw [HG.out]; exact Gate.jT _ _ _ hlt h
      have HYes : Hid ((Gate.yK b.ls b.tick) b.ps[k] = true -> (b.ps.take (k + 1)).all (Gate.yK b.ls b.tick) = true) := fun h => by rw [HSn.out, HQ.out.1, h]; rfl
      have HSm : Hid b.ps[k].Small := HK.out.ps.small k hlt
      go_wp2_with fail
      have hbN : Below wr.heap.size wr (wr.alloc (.cells #[.string b.ps[k].dr, .string b.ps[k].tm, .string b.ps[k].rs, .int .i64 b.ps[k].am, .int .i64 b.ps[k].un] 128)) := (Below.refl _ _).alloc (Nat.le_refl _) _
      have hN := zG wr #[.string b.ps[k].dr, .string b.ps[k].tm, .string b.ps[k].rs, .int .i64 b.ps[k].am, .int .i64 b.ps[k].un] 128
      obtain ⟨w2, hw2⟩ : ∃ w2, w2 = wr.alloc (.cells #[.string b.ps[k].dr, .string b.ps[k].tm, .string b.ps[k].rs, .int .i64 b.ps[k].am, .int .i64 b.ps[k].un] 128) := ⟨_, rfl⟩
      have hn2 : wr.heap.size < w2.heap.size := by rw [hw2]; simp
      rw [<- hw2] at hbN hN ⊢
      have HB2 : Hid (Below w1.heap.size w1 w2) := by unfold Hid; rw [hw2]; exact HBo.out _
      have hX2 := za hX hz hbN
      have hzX2 := Nat.lt_trans hz hn2
      clear hw2 d0 d1 d2 d3 d4 hX hbN
      have hS : (∀ j, w2.drew.cell? ⟨w.heap.size, j, none⟩ = (bC b a0 a1 a2 (some ⟨ob, off, none⟩) c0 c1 c2 c3)[j]?) /\ (∀ j, w2.drew.cell? ⟨wr.heap.size, j, none⟩ = (#[.string b.ps[k].dr, .string b.ps[k].tm, .string b.ps[k].rs, .int .i64 b.ps[k].am, .int .i64 b.ps[k].un] : Array Value)[j]?) := ⟨hX2, hN⟩
      have hB := HB2.out.drew
      have hzx := hzX2
      have hzn := hn2
      clear hX2 hN
      go_region_held3 (fun w' => (∀ j, w'.cell? ⟨w.heap.size, j, none⟩ = (bC b a0 a1 a2 (some ⟨ob, off, none⟩) c0 c1 c2 c3)[j]?) /\ (∀ j, w'.cell? ⟨wr.heap.size, j, none⟩ = (#[.string b.ps[k].dr, .string b.ps[k].tm, .string b.ps[k].rs, .int .i64 b.ps[k].am, .int .i64 b.ps[k].un] : Array Value)[j]?)) (exact hS) (first
        | (go_at_call 154; refine (zcE b.ps[k] _).mono ?_; rintro e w3 ⟨rfl, hb3⟩; have hS := (⟨za hS.1 hzx hb3, za hS.2 hzn hb3⟩ : _ /\ _); have hB := hB.trans (hb3.mono hB.size); have hzx := Nat.lt_of_lt_of_le hzx hb3.size; have hzn := Nat.lt_of_lt_of_le hzn hb3.size; clear hb3)
        | (go_at_call 153; refine (zgM _ _ b.ls b.ps[k].tm b.ps[k].rs _ (by exact HK.out.ls.mono (HBw.out _ hB)) (by have := HRL.out.2; omega) HRL.out.1).mono ?_; rintro e w3 ⟨⟨pl, rfl, _⟩, hb3⟩; have hS := (⟨za hS.1 hzx hb3, za hS.2 hzn hb3⟩ : _ /\ _); have hB := hB.trans (hb3.mono hB.size); have hzx := Nat.lt_of_lt_of_le hzx hb3.size; have hzn := Nat.lt_of_lt_of_le hzn hb3.size; clear hb3))
      have HB3 := hid hB
      have hX3 := hS.1
      have hN3 := hS.2
      clear hS hB
      have htk1 := htk
      have HN1 : ∀ v, Gate.zy b.ps[k].dr = v -> Hid (∀ W, Calls Tryz.prog 134 #[.string b.ps[k].dr] W fun e w' => e = .returned (.bool v) /\ w' = W) := fun v h W => zk h (zN _ W HSm.out.dr)
      have HW1 : ∀ v, Gate.within b.ps[k].am 1 1000000 = v -> Hid (∀ W, Calls Tryz.prog 139 #[.int .i64 b.ps[k].am, .int .i64 1, .int .i64 1000000] W fun e w' => e = .returned (.bool v) /\ w' = W) := fun v h W => zk h (qG _ _ _ W)
      have HW2 : ∀ v, Gate.within b.ps[k].un b.tick (b.tick + 10) = v -> Hid (∀ W, Calls Tryz.prog 139 #[.int .i64 b.ps[k].un, .int .i64 b.tick, .int .i64 (b.tick + 10)] W fun e w' => e = .returned (.bool v) /\ w' = W) := fun v h W => zk h (qG _ _ _ W)
      by_cases t1 : Gate.jE b.ls b.ps[k].tm b.ps[k].rs = true
      rotate_left
      · have HF : Hid (Gate.yI b = false) := HNo.out (by unfold Gate.yK; rw [Bool.eq_false_iff.2 t1]; rfl)
        rw [Bool.eq_false_iff.2 t1]
        clear HN1 HW1 HW2 t1
        go_wp2_with fail
        go_ret
        exact ⟨ze HF.out.symm, HBw.out _ HB3.out⟩
      rw [t1]
      by_cases t2 : Gate.zy b.ps[k].dr = true
      rotate_left
      · have HF : Hid (Gate.yI b = false) := HNo.out (by unfold Gate.yK; rw [t1, Bool.eq_false_iff.2 t2]; rfl)
        have Ht2 := HN1 false (Bool.eq_false_iff.2 t2)
        clear HN1 HW1 HW2 t1 t2
        go_wp2_with fail
        refine (Ht2.out _).mono ?_
        rintro e w4 ⟨rfl, rfl⟩
        go_wp2_with fail
        go_ret
        exact ⟨ze HF.out.symm, HBw.out _ HB3.out⟩
      have Ht2 := HN1 true t2
      by_cases t3 : Gate.within b.ps[k].am 1 1000000 = true
      rotate_left
      · have HF : Hid (Gate.yI b = false) := HNo.out (by unfold Gate.yK; rw [t1, t2, Bool.eq_false_iff.2 t3]; rfl)
        have Ht3 := HW1 false (Bool.eq_false_iff.2 t3)
        clear HN1 HW1 HW2 t1 t2 t3
        go_wp2_with fail
        refine (Ht2.out _).mono ?_
        rintro e w4 ⟨rfl, rfl⟩
        go_wp2_with fail
        refine (Ht3.out _).mono ?_
        rintro e w4 ⟨rfl, rfl⟩
        go_wp2_with fail
        go_ret
        exact ⟨ze HF.out.symm, HBw.out _ HB3.out⟩
      have Ht3 := HW1 true t3
      by_cases t4 : Gate.within b.ps[k].un b.tick (b.tick + 10) = true
      rotate_left
      · have HF : Hid (Gate.yI b = false) := HNo.out (by unfold Gate.yK; rw [t1, t2, t3, Bool.eq_false_iff.2 t4]; rfl)
        have Ht4 := HW2 false (Bool.eq_false_iff.2 t4)
        clear HN1 HW1 HW2 t1 t2 t3 t4
        go_wp2_with fail
        refine (Ht2.out _).mono ?_
        rintro e w4 ⟨rfl, rfl⟩
        go_wp2_with fail
        refine (Ht3.out _).mono ?_
        rintro e w4 ⟨rfl, rfl⟩
        go_wp2_with fail
        refine (Ht4.out _).mono ?_
        rintro e w4 ⟨rfl, rfl⟩
        go_wp2_with fail
        go_ret
        exact ⟨ze HF.out.symm, HBw.out _ HB3.out⟩
      have Ht4 := HW2 true t4
      have HY : Hid ((b.ps.take (k + 1)).all (Gate.yK b.ls b.tick) = true) := HYes.out (by unfold Gate.yK; rw [t1, t2, t3, t4]; rfl)
      clear HN1 HW1 HW2 t1 t2 t3 t4
      go_wp2_with fail
      refine (Ht2.out _).mono ?_
      rintro e w4 ⟨rfl, rfl⟩
      go_wp2_with fail
      refine (Ht3.out _).mono ?_
      rintro e w4 ⟨rfl, rfl⟩
      go_wp2_with fail
      refine (Ht4.out _).mono ?_
      rintro e w4 ⟨rfl, rfl⟩
      go_wp2_with fail
      exact ⟨⟨k + 1, by omega, by go_num, HY.out, HB3.out⟩, zm hlt⟩
    · have e : k = b.ps.length := by omega
      subst e
      have HE : Hid (Gate.yI b = true) := by
        unfold Hid
        rw [HG.out]
        have h := HQ.out.1
        rw [List.take_of_length_le (Nat.le_refl _)] at h
        exact h
      have HBe := hid (HB1.out.trans (HQ.out.2.mono HB1.out.size))
      clear hlt hk HQ
      go_wp2_with fail
      go_ret
      exact ⟨ze HE.out.symm, HBe.out⟩
end Go.Proofs.YtfapkhgallmkdaaGreat

namespace Go.Proofs.YtfapkhgallmkdaaGreat
open Go.RowKit
namespace Gate
def zdm {α : Type} (p : α -> Bool) (l : List α) : Int := if l.any p = true then (l.findIdx p : Int) else -1
theorem zm8 {α : Type} {p : α -> Bool} {l : List α} {k : Nat} (hk : k < l.length) (h : ∀ i (hi : i < l.length), i < k -> p l[i] = false) (hp : p l[k] = true) : zdm p l = k := by
  unfold zdm
  rw [if_pos (List.any_eq_true.2 ⟨l[k], List.getElem_mem _, hp⟩)]
  have e : l.findIdx p = k := (List.findIdx_eq hk).2 ⟨hp, fun j hj => h j (by omega) hj⟩
  rw [e]
theorem zjj {α : Type} {p : α -> Bool} {l : List α} (h : ∀ i (hi : i < l.length), p l[i] = false) : zdm p l = -1 := by
  unfold zdm
  rw [if_neg]
  intro hc
  obtain ⟨x, hx, hp⟩ := List.any_eq_true.1 hc
  obtain ⟨i, hi, rfl⟩ := List.mem_iff_getElem.1 hx
  rw [h i hi] at hp
  cases hp
theorem zeR {α : Type} (p : α -> Bool) (l : List α) : zdm p l < 0 ↔ l.any p = false := by
  unfold zdm
  split
  · rename_i h; rw [h]; constructor
    · intro h'; omega
    · intro h'; cases h'
  · rename_i h
    exact ⟨fun _ => by simpa using h, fun _ => by omega⟩
def zbG (kd nm : ByteArray) (o : Ob) : Bool := decide (o.kd = kd) && decide (o.nm = nm)
def zer (tm rs : ByteArray) (g : Lg) : Bool := decide (g.tm = tm) && decide (g.rs = rs)
def zmY (tm rs : ByteArray) (p : Pu) : Bool := decide (p.tm = tm) && decide (p.rs = rs)
def zaC (ps : List Pu) (tm rs : ByteArray) : Nat -> Int
  | 0 => 0
  | k + 1 => zaC ps tm rs k + (match ps[k]? with | some p => if zmY tm rs p = true then p.am else 0 | none => 0)
def out (ps : List Pu) (tm rs : ByteArray) : Int := zaC ps tm rs ps.length
theorem zd1 (ps : List Pu) (tm rs : ByteArray) (k : Nat) (h : k < ps.length) : zaC ps tm rs (k + 1) = zaC ps tm rs k + (if zmY tm rs ps[k] = true then ps[k].am else 0) := by
  simp only [zaC, List.getElem?_eq_getElem h]
theorem zbI (ps : List Pu) (tm rs : ByteArray) (ha : ∀ i (h : i < ps.length), 0 <= ps[i].am /\ ps[i].am <= 1000000) : ∀ k, k <= ps.length -> 0 <= zaC ps tm rs k /\ zaC ps tm rs k <= k * 1000000
  | 0, _ => by simp [zaC]
  | k + 1, h => by
    have h1 := zbI ps tm rs ha k (by omega)
    have h2 := ha k h
    rw [zd1 ps tm rs k h]
    split <;> omega
end Gate
set_option maxHeartbeats 400000 in
theorem zfs (x y : ByteArray) (w : World) : Calls Tryz.prog 121 #[.string x, .string y] w fun e w' => e = .returned (.int .i64 (Gate.key x y)) /\ w' = w := by
  have k1 := Gate.zhn x y
  have k2 := Gate.zhn y x
  have k3 := Gate.zog x y
  have k4 := Gate.zlF x y
  unfold Gate.less at k1 k2
  by_cases h1 : Gate.key x y = -1
  · have HF := zh4 h1
    have e1 : Op.bytesLess x.toList y.toList = true := by rw [k1]; simpa using h1
    clear k1 k2 k3 k4 h1
    go_enter Tryz.func121, Tryz.ntmps121
    go_wp2_with fail
    go_ret
    exact ⟨zh HF.out.symm, rfl⟩
  · have e1 : Op.bytesLess x.toList y.toList = false := by rw [k1]; simpa using h1
    by_cases h2 : Gate.key y x = -1
    · have HF : Hid (Gate.key x y = 1) := by unfold Hid; omega
      have e2 : Op.bytesLess y.toList x.toList = true := by rw [k2]; simpa using h2
      have e3 : (x.toList == y.toList) = false := by rw [Gate.beq_toList, decide_eq_false_iff_not]; intro e; have := (Gate.zaZ x y).2 e; omega
      clear k1 k2 k3 k4 h1 h2
      go_enter Tryz.func121, Tryz.ntmps121
      go_wp2_with fail
      go_ret
      exact ⟨zh HF.out.symm, rfl⟩
    · have HF : Hid (Gate.key x y = 0) := by unfold Hid; omega
      have e2 : Op.bytesLess y.toList x.toList = false := by rw [k2]; simpa using h2
      have e3 : (x.toList == y.toList) = true := by rw [Gate.beq_toList, decide_eq_true_eq]; exact (Gate.zaZ x y).1 HF.out
      clear k1 k2 k3 k4 h1 h2
      go_enter Tryz.func121, Tryz.ntmps121
      go_wp2_with fail
      go_ret
      exact ⟨zh HF.out.symm, rfl⟩
set_option maxHeartbeats 400000 in
theorem zfK (x y z u : ByteArray) (w : World) : Calls Tryz.prog 81 #[.string x, .string y, .string z, .string u] w fun e w' => e = .returned (.int .i64 (Gate.key2 x y z u)) /\ w' = w := by
  by_cases h : Gate.key x z = 0
  · have HF : Hid (Gate.key2 x y z u = Gate.key y u) := by unfold Hid Gate.key2; rw [if_pos h]
    have e1 : (Gate.key x z != 0) = false := by simpa using h
    clear h
    go_enter Tryz.func81, Tryz.ntmps81
    go_wp2_with (go_at_call 121; refine (zfs _ _ _).mono ?_; rintro e w2 ⟨rfl, rfl⟩)
    go_ret
    exact ⟨zh HF.out.symm, rfl⟩
  · have HF : Hid (Gate.key2 x y z u = Gate.key x z) := by unfold Hid Gate.key2; rw [if_neg h]
    have e1 : (Gate.key x z != 0) = true := by simpa using h
    clear h
    go_enter Tryz.func81, Tryz.ntmps81
    go_wp2_with (go_at_call 121; refine (zfs _ _ _).mono ?_; rintro e w2 ⟨rfl, rfl⟩)
    go_ret
    exact ⟨zh HF.out.symm, rfl⟩
set_option maxHeartbeats 400000 in
theorem zii (p q : Pu) (w : World) : Calls Tryz.prog 89 #[.agg p.cells, .agg q.cells] w fun e w' => e = .returned (.int .i64 (Gate.jH p q)) /\ Below w.heap.size w w' := by
  unfold Pu.cells
  by_cases h : p.dr = q.dr
  · have HF : Hid (Gate.jH p q = Gate.key2 p.tm p.rs q.tm q.rs) := by unfold Hid Gate.jH; rw [if_pos ((Gate.zaZ _ _).2 h)]
    have e1 : (p.dr.toList == q.dr.toList) = true := by rw [Gate.beq_toList]; simpa using h
    clear h
    go_enter Tryz.func89, Tryz.ntmps89
    go_wp2_with fail
    refine (zfK _ _ _ _ _).mono ?_
    rintro e w2 ⟨rfl, rfl⟩
    go_wp2_with fail
    go_ret
    exact ⟨zh HF.out.symm, zu _ _ _⟩
  · have HF : Hid (Gate.jH p q = Gate.key p.dr q.dr) := by unfold Hid Gate.jH; rw [if_neg (fun e => h ((Gate.zaZ _ _).1 e))]
    have e1 : (p.dr.toList == q.dr.toList) = false := by rw [Gate.beq_toList]; simpa using h
    clear h
    go_enter Tryz.func89, Tryz.ntmps89
    go_wp2_with fail
    refine (zfs _ _ _).mono ?_
    rintro e w2 ⟨rfl, rfl⟩
    go_wp2_with fail
    go_ret
    exact ⟨zh HF.out.symm, zu _ _ _⟩
set_option maxHeartbeats 2000000 in
theorem zn0 (b : Bk) (a0 a1 a2 a3 : Option Addr) (c0 c1 c2 c3 : Nat) (kd nm : ByteArray) (w : World) (hb : qL w b a0 a1 a2 a3) (hl : b.os.length <= 1048576) :
    Calls Tryz.prog 85 #[.agg (b.cells a0 a1 a2 a3 c0 c1 c2 c3), .string kd, .string nm] w fun e w' => e = .returned (.int .i64 (Gate.zdm (Gate.zbG kd nm) b.os)) /\ Below w.heap.size w w' := by
  have HK : Hid (qL w b a0 a1 a2 a3) := hb
  clear hb
  unfold Bk.cells
  go_enter Tryz.func85, Tryz.ntmps85
  go_wp2_with fail
  have hX0 := zG w (bC b a0 a1 a2 a3 c0 c1 c2 c3) 50
  have HB0 : Hid (Below w.heap.size w (w.alloc (.cells (bC b a0 a1 a2 a3 c0 c1 c2 c3) 50))) := (Below.refl _ _).alloc (Nat.le_refl _) _
  obtain ⟨W0, hW0⟩ : ∃ W0, W0 = w.alloc (.cells (bC b a0 a1 a2 a3 c0 c1 c2 c3) 50) := ⟨_, rfl⟩
  have hz0 : w.heap.size < W0.heap.size := by rw [hW0]; simp
  rw [<- hW0] at HB0 hX0 ⊢
  clear hW0
  go_loopw [7] (fun iv wr => ∃ k : Nat, k <= b.os.length /\ iv = .int .i64 k /\ Hid (∀ i (hi : i < b.os.length), i < k -> Gate.zbG kd nm b.os[i] = false) /\ wr = W0) (fun iv _ => b.os.length - (intOf iv).toNat)
  case atStart => exact ⟨0, Nat.zero_le _, rfl, fun i hi h => by omega, rfl⟩
  case round =>
    obtain ⟨k, hk, rfl, HQ, rfl⟩ := hrel
    have hkn : k <= 1048576 := by omega
    by_cases hlt : k < b.os.length
    · obtain ⟨ob, off, v0, v1, q0, q1, rfl, hob, hsm, hl0, hl1, d0, d1, d2, d3, d4, d5, d6⟩ := HK.out.os.load HB0.out k hlt
      have hltI : (k : Int) < (b.os.length : Int) := by omega
      clear hsm hl0 hl1
      by_cases h1 : b.os[k].kd = kd
      · have e1 : (b.os[k].kd.toList == kd.toList) = true := by rw [Gate.beq_toList]; simpa using h1
        by_cases h2 : b.os[k].nm = nm
        · have e2 : (b.os[k].nm.toList == nm.toList) = true := by rw [Gate.beq_toList]; simpa using h2
          have HF : Hid (Gate.zdm (Gate.zbG kd nm) b.os = k) := Gate.zm8 hlt HQ.out (by unfold Gate.zbG; simp [h1, h2])
          clear h1 h2
          go_wp2_with fail
          go_ret
          exact ⟨zh HF.out.symm, HB0.out⟩
        · have e2 : (b.os[k].nm.toList == nm.toList) = false := by rw [Gate.beq_toList]; simpa using h2
          have HN : Hid (∀ i (hi : i < b.os.length), i < k + 1 -> Gate.zbG kd nm b.os[i] = false) := by
            intro i hi h
            rcases Nat.eq_or_lt_of_le (Nat.le_of_lt_succ h) with e | h'
            · subst e; unfold Gate.zbG; simp [h2]
            · exact HQ.out i hi h'
          clear h1 h2
          go_wp2_with fail
          exact ⟨⟨k + 1, by omega, by go_num, HN.out, trivial⟩, zm hlt⟩
      · have e1 : (b.os[k].kd.toList == kd.toList) = false := by rw [Gate.beq_toList]; simpa using h1
        have HN : Hid (∀ i (hi : i < b.os.length), i < k + 1 -> Gate.zbG kd nm b.os[i] = false) := by
          intro i hi h
          rcases Nat.eq_or_lt_of_le (Nat.le_of_lt_succ h) with e | h'
          · subst e; unfold Gate.zbG; simp [h1]
          · exact HQ.out i hi h'
        clear h1
        go_wp2_with fail
        exact ⟨⟨k + 1, by omega, by go_num, HN.out, trivial⟩, zm hlt⟩
    · have HF : Hid (Gate.zdm (Gate.zbG kd nm) b.os = -1) := Gate.zjj fun i hi => HQ.out i hi (by omega)
      clear HQ
      go_wp2_with fail
      go_ret
      exact ⟨zh HF.out.symm, HB0.out⟩
set_option maxHeartbeats 2000000 in
theorem zjX (b : Bk) (a0 a1 a2 a3 : Option Addr) (c0 c1 c2 c3 : Nat) (tm rs : ByteArray) (w : World) (hb : qL w b a0 a1 a2 a3) (hl : b.ls.length <= 1048576) :
    Calls Tryz.prog 88 #[.agg (b.cells a0 a1 a2 a3 c0 c1 c2 c3), .string tm, .string rs] w fun e w' => e = .returned (.int .i64 (Gate.zdm (Gate.zer tm rs) b.ls)) /\ Below w.heap.size w w' := by
  have HK : Hid (qL w b a0 a1 a2 a3) := hb
  clear hb
  unfold Bk.cells
  go_enter Tryz.func88, Tryz.ntmps88
  go_wp2_with fail
  have hX0 := zG w (bC b a0 a1 a2 a3 c0 c1 c2 c3) 50
  have HB0 : Hid (Below w.heap.size w (w.alloc (.cells (bC b a0 a1 a2 a3 c0 c1 c2 c3) 50))) := (Below.refl _ _).alloc (Nat.le_refl _) _
  obtain ⟨W0, hW0⟩ : ∃ W0, W0 = w.alloc (.cells (bC b a0 a1 a2 a3 c0 c1 c2 c3) 50) := ⟨_, rfl⟩
  have hz0 : w.heap.size < W0.heap.size := by rw [hW0]; simp
  rw [<- hW0] at HB0 hX0 ⊢
  clear hW0
  go_loopw [7] (fun iv wr => ∃ k : Nat, k <= b.ls.length /\ iv = .int .i64 k /\ Hid (∀ i (hi : i < b.ls.length), i < k -> Gate.zer tm rs b.ls[i] = false) /\ wr = W0) (fun iv _ => b.ls.length - (intOf iv).toNat)
  case atStart => exact ⟨0, Nat.zero_le _, rfl, fun i hi h => by omega, rfl⟩
  case round =>
    obtain ⟨k, hk, rfl, HQ, rfl⟩ := hrel
    have hkn : k <= 1048576 := by omega
    by_cases hlt : k < b.ls.length
    · obtain ⟨ob, off, rfl, hob, d0, d1, d2, d3⟩ := HK.out.ls.load HB0.out k hlt
      have hltI : (k : Int) < (b.ls.length : Int) := by omega
      clear d2 d3
      by_cases h1 : b.ls[k].tm = tm
      · have e1 : (b.ls[k].tm.toList == tm.toList) = true := by rw [Gate.beq_toList]; simpa using h1
        by_cases h2 : b.ls[k].rs = rs
        · have e2 : (b.ls[k].rs.toList == rs.toList) = true := by rw [Gate.beq_toList]; simpa using h2
          have HF : Hid (Gate.zdm (Gate.zer tm rs) b.ls = k) := Gate.zm8 hlt HQ.out (by unfold Gate.zer; simp [h1, h2])
          clear h1 h2
          go_wp2_with fail
          go_ret
          exact ⟨zh HF.out.symm, HB0.out⟩
        · have e2 : (b.ls[k].rs.toList == rs.toList) = false := by rw [Gate.beq_toList]; simpa using h2
          have HN : Hid (∀ i (hi : i < b.ls.length), i < k + 1 -> Gate.zer tm rs b.ls[i] = false) := by
            intro i hi h
            rcases Nat.eq_or_lt_of_le (Nat.le_of_lt_succ h) with e | h'
            · subst e; unfold Gate.zer; simp [h2]
            · exact HQ.out i hi h'
          clear h1 h2
          go_wp2_with fail
          exact ⟨⟨k + 1, by omega, by go_num, HN.out, trivial⟩, zm hlt⟩
      · have e1 : (b.ls[k].tm.toList == tm.toList) = false := by rw [Gate.beq_toList]; simpa using h1
        have HN : Hid (∀ i (hi : i < b.ls.length), i < k + 1 -> Gate.zer tm rs b.ls[i] = false) := by
          intro i hi h
          rcases Nat.eq_or_lt_of_le (Nat.le_of_lt_succ h) with e | h'
          · subst e; unfold Gate.zer; simp [h1]
          · exact HQ.out i hi h'
        clear h1
        go_wp2_with fail
        exact ⟨⟨k + 1, by omega, by go_num, HN.out, trivial⟩, zm hlt⟩
    · have HF : Hid (Gate.zdm (Gate.zer tm rs) b.ls = -1) := Gate.zjj fun i hi => HQ.out i hi (by omega)
      clear HQ
      go_wp2_with fail
      go_ret
      exact ⟨zh HF.out.symm, HB0.out⟩
end Go.Proofs.YtfapkhgallmkdaaGreat

namespace Go.Proofs.YtfapkhgallmkdaaGreat
open Go.RowKit
set_option maxHeartbeats 2000000 in
theorem znd (b : Bk) (a0 a1 a2 a3 : Option Addr) (c0 c1 c2 c3 : Nat) (tm rs : ByteArray) (w : World) (hb : qL w b a0 a1 a2 a3) (hl : b.ps.length <= 1000) (ha : ∀ i (h : i < b.ps.length), 0 <= b.ps[i].am /\ b.ps[i].am <= 1000000) :
    Calls Tryz.prog 91 #[.agg (b.cells a0 a1 a2 a3 c0 c1 c2 c3), .string tm, .string rs] w fun e w' => e = .returned (.int .i64 (Gate.out b.ps tm rs)) /\ Below w.heap.size w w' := by
  have HK := hid hb
  have HA : Hid (∀ i (h : i < b.ps.length), 0 <= b.ps[i].am /\ b.ps[i].am <= 1000000) := ha
  clear hb ha
  unfold Bk.cells
  go_enter Tryz.func91, Tryz.ntmps91
  go_wp2_with fail
  have hX0 := zG w (bC b a0 a1 a2 a3 c0 c1 c2 c3) 50
  have HB0 : Hid (Below w.heap.size w (w.alloc (.cells (bC b a0 a1 a2 a3 c0 c1 c2 c3) 50))) := (Below.refl _ _).alloc (Nat.le_refl _) _
  obtain ⟨W0, hW0⟩ : ∃ W0, W0 = w.alloc (.cells (bC b a0 a1 a2 a3 c0 c1 c2 c3) 50) := ⟨_, rfl⟩
  have hz0 : w.heap.size < W0.heap.size := by rw [hW0]; simp
  rw [<- hW0] at HB0 hX0 ⊢
  clear hW0
  go_loopw [7, 8] (fun nv iv wr => ∃ (k : Nat) (s : Int), k <= b.ps.length /\ iv = .int .i64 k /\ nv = .int .i64 s /\ Hid (s = Gate.zaC b.ps tm rs k) /\ wr = W0) (fun _ iv _ => b.ps.length - (intOf iv).toNat)
  case atStart => exact ⟨0, 0, Nat.zero_le _, rfl, rfl, by simp [Gate.zaC, Hid], rfl⟩
  case round =>
    obtain ⟨k, s, hk, rfl, rfl, HQ, rfl⟩ := hrel
    have hkn : k <= 1000 := by omega
    have hsb : 0 <= s /\ s <= 1000000000 := by have h1 := HQ.out; have h2 := Gate.zbI b.ps tm rs HA.out k hk; omega
    by_cases hlt : k < b.ps.length
    · obtain ⟨ob, off, rfl, hob, d0, d1, d2, d3, d4⟩ := HK.out.ps.load HB0.out k hlt
      have hltI : (k : Int) < (b.ps.length : Int) := by omega
      have HSt := hid (Gate.zd1 b.ps tm rs k hlt)
      have hab := HA.out k hlt
      clear d0 d4
      by_cases h1 : b.ps[k].tm = tm
      · have e1 : (b.ps[k].tm.toList == tm.toList) = true := by rw [Gate.beq_toList]; simpa using h1
        by_cases h2 : b.ps[k].rs = rs
        · have e2 : (b.ps[k].rs.toList == rs.toList) = true := by rw [Gate.beq_toList]; simpa using h2
          have HN : Hid (Gate.zaC b.ps tm rs (k + 1) = s + b.ps[k].am) := by unfold Hid; rw [HSt.out, <- HQ.out, if_pos (by unfold Gate.zmY; simp [h1, h2])]
          clear h1 h2
          go_wp2_with fail
          exact ⟨⟨k + 1, s + b.ps[k].am, by omega, by go_num, by go_num, HN.out.symm, trivial⟩, zm hlt⟩
        · have e2 : (b.ps[k].rs.toList == rs.toList) = false := by rw [Gate.beq_toList]; simpa using h2
          have HN : Hid (Gate.zaC b.ps tm rs (k + 1) = s) := by unfold Hid; rw [HSt.out, <- HQ.out, if_neg (by unfold Gate.zmY; simp [h2])]; omega
          clear h1 h2
          go_wp2_with fail
          exact ⟨⟨k + 1, s, by omega, by go_num, rfl, HN.out.symm, trivial⟩, zm hlt⟩
      · have e1 : (b.ps[k].tm.toList == tm.toList) = false := by rw [Gate.beq_toList]; simpa using h1
        have HN : Hid (Gate.zaC b.ps tm rs (k + 1) = s) := by unfold Hid; rw [HSt.out, <- HQ.out, if_neg (by unfold Gate.zmY; simp [h1])]; omega
        clear h1
        go_wp2_with fail
        exact ⟨⟨k + 1, s, by omega, by go_num, rfl, HN.out.symm, trivial⟩, zm hlt⟩
    · have e : k = b.ps.length := by omega
      subst e
      have HE : Hid (Gate.out b.ps tm rs = s) := by unfold Hid Gate.out; exact HQ.out.symm
      clear HQ hlt hk
      go_wp2_with fail
      go_ret
      exact ⟨zh HE.out.symm, HB0.out⟩
set_option maxHeartbeats 2000000 in
theorem zgJ (a c : Option Addr) (ca cc : Nat) (xs ys : List ByteArray) (w : World) (hx : zC w a xs) (hy : zC w c ys) (hl : xs.length <= 1048576) (hl' : ys.length <= 1048576) :
    Calls Tryz.prog 82 #[.slice a xs.length ca, .slice c ys.length cc] w fun e w' => e = .returned (.bool (decide (xs = ys))) /\ Below w.heap.size w w' := by
  obtain ⟨r, hr⟩ : ∃ r, r = decide (xs = ys) := ⟨_, rfl⟩
  rw [<- hr]
  have HR := hid hr
  have HX := j4 hx hy
  clear hr hx hy
  by_cases hn : xs.length = ys.length
  rotate_left
  · have HF : Hid (r = false) := by unfold Hid; rw [HR.out, decide_eq_false_iff_not]; intro e; exact hn (by rw [e])
    have e1 : ((xs.length : Int) != (ys.length : Int)) = true := by simp; omega
    clear hn
    go_enter Tryz.func82, Tryz.ntmps82
    go_wp2_with fail
    go_ret
    exact ⟨ze HF.out.symm, Below.refl _ _⟩
  have e1 : ((xs.length : Int) != (ys.length : Int)) = false := by simp; omega
  have HN := hid hn
  clear hn
  go_enter Tryz.func82, Tryz.ntmps82
  go_wp2_with fail
  go_loopw [5] (fun iv wr => ∃ k : Nat, k <= xs.length /\ iv = .int .i64 k /\ Hid ((∀ i (h : i < xs.length) (h' : i < ys.length), i < k -> xs[i] = ys[i]) /\ Below w.heap.size w wr)) (fun iv _ => xs.length - (intOf iv).toNat)
  case atStart => exact ⟨0, Nat.zero_le _, rfl, fun i h h' hk => by omega, Below.refl _ _⟩
  case round =>
    obtain ⟨k, hk, rfl, HQ⟩ := hrel
    have hkn : k <= 1048576 := by omega
    by_cases hlt : k < xs.length
    · have hlt' : k < ys.length := by have := HN.out; omega
      obtain ⟨p, po, rfl, hp, hpc⟩ := HX.out.1.cells (by intro e; rw [e] at hlt; simp at hlt)
      obtain ⟨q, qo, rfl, hq, hqc⟩ := HX.out.2.cells (by intro e; rw [e] at hlt'; simp at hlt')
      have c1 := (HQ.out.2.cell (p := ⟨p, po + k, none⟩) hp).trans (hpc k hlt)
      have c2 := (HQ.out.2.cell (p := ⟨q, qo + k, none⟩) hq).trans (hqc k hlt')
      have hltI : (k : Int) < (xs.length : Int) := by omega
      have hltI' : (k : Int) < (ys.length : Int) := by omega
      have hp' := Nat.lt_of_lt_of_le hp HQ.out.2.size
      have hq' := Nat.lt_of_lt_of_le hq HQ.out.2.size
      have HB := hid HQ.out.2
      clear hpc hqc
      by_cases he : xs[k] = ys[k]
      · have e2 : (xs[k].toList == ys[k].toList) = true := by rw [Gate.beq_toList]; simpa using he
        have HA : Hid (∀ i (h : i < xs.length) (h' : i < ys.length), i < k + 1 -> xs[i] = ys[i]) := by
          intro i h h' hi
          rcases Nat.eq_or_lt_of_le (Nat.le_of_lt_succ hi) with e | h2
          · subst e; exact he
          · exact HQ.out.1 i h h' h2
        clear he HQ
        go_wp2_with fail
        go_quiet (fail)
        go_wp2_with fail
        exact ⟨⟨k + 1, by omega, by go_num, HA.out, below_drewN HB.out _⟩, zm hlt⟩
      · have e2 : (xs[k].toList == ys[k].toList) = false := by rw [Gate.beq_toList]; simpa using he
        have HF : Hid (r = false) := by
          unfold Hid
          rw [HR.out, decide_eq_false_iff_not]
          intro e
          subst e
          exact he rfl
        clear he HQ
        go_wp2_with fail
        go_quiet (fail)
        go_wp2_with fail
        go_ret
        exact ⟨ze HF.out.symm, below_drewN HB.out _⟩
    · have HF : Hid (r = true) := by
        unfold Hid
        rw [HR.out, decide_eq_true_eq]
        exact List.ext_getElem HN.out fun i h h' => HQ.out.1 i h h' (by omega)
      have HB := hid HQ.out.2
      clear HQ
      go_wp2_with fail
      go_ret
      exact ⟨ze HF.out.symm, HB.out⟩
end Go.Proofs.YtfapkhgallmkdaaGreat
