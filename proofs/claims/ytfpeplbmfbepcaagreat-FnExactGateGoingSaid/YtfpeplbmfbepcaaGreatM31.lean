import Derived.Test.YtfpeplbmfbepcaaGreatM30
import Derived.Test.YtfpeplbmfbepcaaGreatM28
import Derived.Test.YtfpeplbmfbepcaaGreatM13
namespace Go.Proofs.YtfpeplbmfbepcaaGreat.Gate
theorem zgi {ss : List Shp} (h : zJ ss = true) (i : Nat) (hi : i < ss.length) : yD ss i = true := by
  unfold zJ at h
  rw [Bool.and_eq_true] at h
  exact zeO hi h.2
theorem znE {ss : List Shp} (h : zJ ss = true) : ∀ (j : Nat) (hj : j < ss.length) (i : Nat) (hi : i < j), less (ss[i]'(by omega)).kd ss[j].kd = true := by
  intro j
  induction j with
  | zero => intro _ i hi; omega
  | succ j ih =>
    intro hj i hi
    have h1 := zgi h (j + 1) hj
    rw [zfl ss j hj] at h1
    simp only [Bool.and_eq_true] at h1
    have h2 := h1.1.2
    rcases Nat.lt_or_ge i j with hlt | hge
    · exact zaU _ _ _ (ih (by omega) i hlt) h2
    · have e : i = j := by omega
      subst e; exact h2
theorem zc7 {ss : List Shp} (h : zJ ss = true) (i : Nat) (hi : i < ss.length) : shapeOf ss ss[i].kd = ss[i] := by
  refine zc5 ss _ i hi ?_ rfl
  unfold zC
  rw [List.any_eq_false]
  intro x hx
  obtain ⟨k, hk, rfl⟩ := List.mem_iff_getElem.1 hx
  have hk' : k < i := by simp at hk; omega
  have h1 := znE h i hi k hk'
  simp only [List.getElem_take, decide_eq_true_eq]
  intro e
  unfold less at h1
  rw [e, zbA] at h1
  cases h1
theorem zeV {ss : List Shp} (h : zJ ss = true) (i : Nat) (hi : i < ss.length) : ss[i].fs.length <= 6 := by
  have h1 := zgi h i hi
  unfold yD at h1
  rw [getD_at ss i _ hi] at h1
  simp only [Bool.and_eq_true] at h1
  have h2 := h1.2
  unfold yH at h2
  simp only [Bool.and_eq_true, decide_eq_true_eq] at h2
  exact h2.1
def jD (ss : List Shp) (m : Mnd) : Bool := zC ss m.kd && zaC (shapeOf ss m.kd).fs m
def rowOk (ms : List Mnd) (s : Shp) : Bool := (zD (zk s ms) s.fs.length).1
def yc (ss : List Shp) (ms : List Mnd) : Bool := decide (ms.length <= 12) && zJ ss && ms.all (jD ss) && ss.all (rowOk ms)
theorem ziP {ss : List Shp} {ms : List Mnd} (h : zJ ss = true) (hm : ms.all (jD ss) = true) (i : Nat) (hi : i < ss.length) : ∀ q, q < ss[i].fs.length -> ∀ x ∈ yg ss[i] ms q, 0 <= x /\ x < ss[i].fs.length := by
  intro q _ x hx
  unfold yg at hx
  obtain ⟨m, hmm, hx⟩ := List.mem_flatMap.1 hx
  by_cases ht : turns m ss[i] q = true
  · rw [if_pos ht] at hx
    obtain ⟨v, hv, rfl⟩ := List.mem_map.1 hx
    unfold turns at ht
    simp only [Bool.and_eq_true, decide_eq_true_eq] at ht
    have h1 := List.all_eq_true.1 hm m hmm
    unfold jD at h1
    rw [ht.1, zc7 h i hi] at h1
    simp only [Bool.and_eq_true] at h1
    have h2 := h1.2
    unfold zaC at h2
    simp only [Bool.and_eq_true] at h2
    have h3 := List.all_eq_true.1 h2.1.2 v hv
    unfold jr at h3
    simp only [Bool.and_eq_true] at h3
    rcases jA ss[i].fs v with ⟨_, h5⟩ | ⟨k, hk, h4, _⟩
    · rw [zaZ h5] at h3; exact absurd h3.2 (by simp)
    · rw [h4]; omega
  · rw [if_neg ht] at hx; cases hx
end Go.Proofs.YtfpeplbmfbepcaaGreat.Gate

namespace Go.Proofs.YtfpeplbmfbepcaaGreat
open Go.RowKit
set_option maxHeartbeats 400000 in
theorem zav (a : Option Addr) (cap : Nat) (fs : List Fld) (v : ByteArray) (w : World) (hw : zW w a fs) :
    Calls Tryz.prog 171 #[.slice a fs.length cap, .string v] w fun e w' => e = .returned (.int .i64 (Gate.zT fs v)) /\ w' = w := by
  have hl := hw.len
  unfold maxLen at hl
  go_enter Tryz.func171, Tryz.ntmps171
  go_wp2
  go_loop [5] (fun i => ∃ k : Nat, k <= fs.length /\ i = .int .i64 k /\ Gate.hasName (fs.take k) v = false) (fun i => fs.length - (intOf i).toNat)
  case atStart => exact ⟨0, Nat.zero_le _, rfl, rfl⟩
  case round =>
    obtain ⟨k, hk, rfl, hno⟩ := hrel
    by_cases hlt : k < fs.length
    · obtain ⟨b, off, rfl, hb, hr⟩ := hw.rows (by rintro rfl; simp at hlt)
      obtain ⟨wa, wcap, hf⟩ := hr k hlt
      obtain ⟨c0, c1, c2, c3, c4, c5, c6, c7, c8, c9, c10⟩ := hf.load
      clear hw hr hf c1 c2 c3 c4 c5 c6 c7 c8 c9 c10
      by_cases he : fs[k].nm = v
      · have hbe : (fs[k].nm.toList == v.toList) = true := by rw [Gate.beq_toList]; simpa using he
        have HB : Hid (Gate.zT fs v = (k : Int)) := Gate.zdz fs v k hlt hno he
        clear he hno
        go_wp2
        go_ret
        exact ⟨by rw [HB.out]; rfl, rfl⟩
      · have hbe : (fs[k].nm.toList == v.toList) = false := by rw [Gate.beq_toList]; simpa using he
        have HS : Hid (Gate.hasName (fs.take (k + 1)) v = false) := by unfold Hid; rw [Gate.zdx fs v k hlt, hno, decide_eq_false he]; rfl
        clear he hno
        go_wp2
        go_round
        case rel => exact ⟨k + 1, by omega, by go_num, HS.out⟩
        case measure => simp [intOf]; omega
    · have HA : Hid (Gate.zT fs v = -1) := Gate.zfF fs v (by rw [<- Gate.zg3 fs v k (by omega)]; exact hno)
      clear hno hw
      go_wp2
      go_ret
      exact ⟨by rw [HA.out]; rfl, rfl⟩
set_option maxHeartbeats 1000000 in
theorem zmG (a : Option Addr) (cap : Nat) (fs : List Fld) (v : ByteArray) (w : World) (hw : zW w a fs) :
    Calls Tryz.prog 170 #[.slice a fs.length cap, .string v] w fun e w' => e = .returned (.bool (Gate.plain fs v)) /\ Below w.heap.size w w' := by
  have hl := hw.len
  unfold maxLen at hl
  rcases Gate.jA fs v with ⟨h1, h2⟩ | ⟨i, hi, h1, h2, h3⟩
  · have HP : Hid (Gate.plain fs v = false) := Gate.zaZ h2
    go_enter Tryz.func170, Tryz.ntmps170
    go_wp2_with fail
    have h := zav a cap fs v w hw
    rw [h1] at h
    refine h.mono ?_
    rintro e w1 ⟨rfl, rfl⟩
    clear h
    go_wp2_with fail
    go_ret
    exact ⟨by rw [HP.out]; rfl, Below.refl _ _⟩
  · have HP : Hid (Gate.plain fs v = decide (fs[i].kd ≠ 4)) := Gate.zji h3
    obtain ⟨b, off, rfl, hb, hr⟩ := hw.rows (by rintro rfl; simp at hi)
    obtain ⟨wa, wcap, hf0⟩ := hr i hi
    go_enter Tryz.func170, Tryz.ntmps170
    go_wp2_with fail
    have h := zav (some ⟨b, off, none⟩) cap fs v w hw
    rw [h1] at h
    refine h.mono ?_
    rintro e w1 ⟨rfl, rfl⟩
    obtain ⟨c0, c1, c2, c3, c4, c5, c6, c7, c8, c9, c10⟩ := hf0.load
    have hiI : (i : Int) < (fs.length : Int) := by omega
    have hge : decide ((i : Int) ≥ 0) = true := by simp
    clear h hw hr hf0 h3 h2 h1
    go_wp2_with fail
    go_ret
    exact ⟨by rw [HP.out]; exact zqi fs[i].kd, Below.refl _ _⟩
namespace Gate
def zc4 (fs : List Fld) (m : Mnd) : Bool :=
  plain fs m.fd && (!isSet m.wh || plain fs m.wh) && (!isSet m.fr || plain fs m.fr) && !decide (m.wh = m.fd) && !decide (m.fr = m.fd) && zaG fs m
theorem zo2 (s : ByteArray) : isSet s = true ↔ s ≠ ByteArray.empty := by
  unfold isSet
  rw [zu]
  constructor
  · intro h e; subst e; simp at h
  · intro h
    simp only [Bool.not_eq_true', decide_eq_false_iff_not]
    intro h0
    apply h
    have : s.data.size = 0 := h0
    cases s with
    | mk d => simp only at this; have := Array.eq_empty_of_size_eq_zero this; subst this; rfl
end Gate
end Go.Proofs.YtfpeplbmfbepcaaGreat
