import Derived.Test.YtfpeplbmfbepcaaGreatM03
import Derived.Test.YtfpeplbmfbepcaaGreatM21
import Derived.Test.YtfpeplbmfbepcaaGreatM20
import Derived.Test.YtfpeplbmfbepcaaGreatM13
import Derived.Test.YtfpeplbmfbepcaaGreatM18
import Derived.Test.YtfpeplbmfbepcaaGreatM16
namespace Go.Proofs.YtfpeplbmfbepcaaGreat
open Go.RowKit
theorem zqe {w w' : World} {g : Nat} {ws : List ByteArray} (h : zA w (some ⟨g, 0, none⟩) ws) (hl : Below w.heap.size w w') (i : Nat) (hi : i < ws.length) : g < w.heap.size /\ w'.cell? ⟨g, i, none⟩ = some (.string ws[i]) := by
  obtain ⟨b, off, e, hb, hr⟩ := h.cells (by rintro rfl; simp at hi)
  simp only [Option.some.injEq, Addr.mk.injEq] at e
  obtain ⟨rfl, rfl, _⟩ := e
  refine ⟨hb, ?_⟩
  have := hr i hi
  rw [Nat.zero_add] at this
  exact (hl.cell (p := ⟨g, i, none⟩) hb).trans this
theorem zod {w w' : World} {a : Option Addr} {fs : List Fld} (h : zW w a fs) (hl : Below w.heap.size w w') (i : Nat) (hi : i < fs.length) : ∃ b off fw fc, a = some ⟨b, off, none⟩ /\ b < w.heap.size /\ zeC w' b (off + i * 11) fs[i] fw fc := by
  obtain ⟨b, off, ha, hb, hr⟩ := (h.mono hl).rows (by rintro rfl; simp at hi)
  obtain ⟨b', off', ha', hb', _⟩ := h.rows (by rintro rfl; simp at hi)
  have e := ha.symm.trans ha'
  simp only [Option.some.injEq, Addr.mk.injEq] at e
  obtain ⟨rfl, rfl, _⟩ := e
  obtain ⟨fw, fc, hf⟩ := hr i hi
  exact ⟨b, off, fw, fc, ha, hb', hf⟩
end Go.Proofs.YtfpeplbmfbepcaaGreat

namespace Go.Proofs.YtfpeplbmfbepcaaGreat
open Go.RowKit
namespace Gate
theorem jA (fs : List Fld) (v : ByteArray) : (zT fs v = -1 /\ fs.find? (fun f => decide (f.nm = v)) = none) \/ ∃ i, ∃ h : i < fs.length, zT fs v = (i : Int) /\ fs[i].nm = v /\ fs.find? (fun f => decide (f.nm = v)) = some fs[i] := by
  cases hf : fs.findIdx? (fun f => decide (f.nm = v)) with
  | none =>
    left
    refine ⟨by unfold zT; rw [hf], ?_⟩
    rw [List.findIdx?_eq_none_iff] at hf
    rw [List.find?_eq_none]
    intro x hx
    have := hf x hx
    simpa using this
  | some i =>
    right
    rw [List.findIdx?_eq_some_iff_getElem] at hf
    obtain ⟨hi, h1, h2⟩ := hf
    refine ⟨i, hi, ?_, by simpa using h1, ?_⟩
    · unfold zT
      have : fs.findIdx? (fun f => decide (f.nm = v)) = some i := by rw [List.findIdx?_eq_some_iff_getElem]; exact ⟨hi, h1, h2⟩
      rw [this]
    · rw [List.find?_eq_some_iff_append]
      refine ⟨h1, fs.take i, fs.drop (i + 1), ?_, ?_⟩
      · conv => lhs; rw [<- List.take_append_drop i fs, List.drop_eq_getElem_cons hi]
      · intro a ha
        obtain ⟨k, hk, rfl⟩ := List.mem_iff_getElem.1 ha
        have hk' : k < i := by simp at hk; omega
        have := h2 k hk'
        simpa using this
def plain (fs : List Fld) (v : ByteArray) : Bool := match fs.find? (fun f => decide (f.nm = v)) with | some f => decide (f.kd ≠ 4) | none => false
def zdn (fs : List Fld) (v : ByteArray) : Fld := (fs.find? fun f => decide (f.nm = v)).getD za9
theorem zaZ {fs : List Fld} {v : ByteArray} (h : fs.find? (fun f => decide (f.nm = v)) = none) : plain fs v = false := by unfold plain; rw [h]
theorem zji {fs : List Fld} {v : ByteArray} {f : Fld} (h : fs.find? (fun f => decide (f.nm = v)) = some f) : plain fs v = decide (f.kd ≠ 4) := by unfold plain; rw [h]
end Gate
theorem zqi (k : Int) : Ending.returned (.bool (k != 4)) = Ending.returned (.bool (decide (k ≠ 4))) := by
  by_cases h : k = 4
  · subst h; rfl
  · have h1 : (k != 4) = true := by rw [bne_iff_ne]; exact h
    rw [h1, decide_eq_true h]
set_option maxHeartbeats 1000000 in
theorem zb5 (a : Option Addr) (cap : Nat) (fs : List Fld) (v : ByteArray) (w : World) (hw : zW w a fs) :
    Calls Tryz.prog 182 #[.slice a fs.length cap, .string v] w fun e w' => e = .returned (.bool (Gate.plain fs v)) /\ Below w.heap.size w w' := by
  have hl := hw.len
  unfold maxLen at hl
  rcases Gate.jA fs v with ⟨h1, h2⟩ | ⟨i, hi, h1, h2, h3⟩
  · have HP : Hid (Gate.plain fs v = false) := Gate.zaZ h2
    go_enter Tryz.func182, Tryz.ntmps182
    go_wp2_with fail
    have h := qG a cap fs v w hw
    rw [h1] at h
    refine h.mono ?_
    rintro e w1 ⟨rfl, hb1⟩
    clear h
    go_wp2_with fail
    go_ret
    exact ⟨by rw [HP.out]; rfl, hb1⟩
  · have HP : Hid (Gate.plain fs v = decide (fs[i].kd ≠ 4)) := Gate.zji h3
    obtain ⟨b, off, rfl, hb, hr⟩ := hw.rows (by rintro rfl; simp at hi)
    obtain ⟨wa, wcap, hf0⟩ := hr i hi
    go_enter Tryz.func182, Tryz.ntmps182
    go_wp2_with fail
    have h := qG (some ⟨b, off, none⟩) cap fs v w hw
    rw [h1] at h
    refine h.mono ?_
    rintro e w1 ⟨rfl, hb1⟩
    obtain ⟨c0, c1, c2, c3, c4, c5, c6, c7, c8, c9, c10⟩ := (hf0.mono hb hb1).load
    have hiI : (i : Int) < (fs.length : Int) := by omega
    have hge : decide ((i : Int) ≥ 0) = true := by simp
    have hb1w : b < w1.heap.size := Nat.lt_of_lt_of_le hb hb1.size
    clear h hw hr hf0 h3 h2 h1
    go_wp2_with fail
    go_ret
    exact ⟨by rw [HP.out]; exact zqi fs[i].kd, hb1⟩
end Go.Proofs.YtfpeplbmfbepcaaGreat

namespace Go.Proofs.YtfpeplbmfbepcaaGreat
open Go.RowKit
def zbl (k n : Nat) : List Int := (List.range n).map fun i => ((k + i : Nat) : Int)
theorem zaR (k n : Nat) : (zbl k n).length = n := by simp [zbl]
theorem zhc (k n i : Nat) (h : i < (zbl k n).length) : (zbl k n)[i] = ((k + i : Nat) : Int) := by simp [zbl]
theorem zbV {w : World} {lo : Nat} {v : Value} {xs : List Int} (h : w.ownsRow lo 3 1 v xs.length (ints xs)) (hl : xs.length <= maxLen) : ∃ a cap, v = .slice a xs.length cap /\ yM w a xs := by
  obtain ⟨a, cap, rfl⟩ := yE h
  refine ⟨a, cap, rfl, hl, fun hne => ?_⟩
  obtain ⟨_, ⟨h0, h1⟩ | ⟨g, cp, cur, h0, h1⟩⟩ := id h
  · exact absurd (List.length_eq_zero_iff.1 h1) hne
  · cases h0
    refine ⟨g, 0, rfl, (h.lt g rfl).2, fun i hi => ?_⟩
    rw [Nat.zero_add, h.cellAt i (by omega)]
    simp [ints, hi]
theorem zjS (k : Int) (a : Option Addr) (cap : Nat) (w : World) :
    Calls Tryz.prog 15 #[.slice a 0 cap, .int .i64 k] w fun e w' => e = .returned (.int .i64 k) /\ w' = w := by
  go_enter Tryz.func15, Tryz.ntmps15
  go_wp2_with fail
  go_loopw [1, 5] (fun kv iv wr => kv = .int .i64 k /\ iv = .int .i64 0 /\ wr = w) (fun _ _ _ => 0)
  case atStart => exact ⟨rfl, rfl, rfl⟩
  case round =>
    obtain ⟨rfl, rfl, rfl⟩ := hrel
    go_wp2_with fail
    go_ret
    exact ⟨rfl, rfl⟩
theorem zlk (lo cap : Nat) (a : Option Addr) (n : Nat) (xs : List Value) (k : Nat) (w : World) (h : w.ownsRow lo 3 1 (.slice a n cap) n xs) (hi : ∀ (j : Nat) (a' : Option Addr) (m c : Nat), xs[j]? ≠ some (Value.slice a' m c)) (hn : n <= 1048576) (hk : 0 < k) (hk2 : k < 1000000) (hlo : lo <= w.heap.size) :
    Calls Tryz.prog 15 #[.slice a n cap, .int .i64 k] w fun e w' => e = .returned (.int .i64 ((k + n : Nat) : Int)) /\ yM w' a (zbl k n) /\ Below lo w w' := by
  obtain ⟨hlx, ⟨h0, h1⟩ | ⟨g, cp, cur, h0, h2, h3, h4, h5, h6, h7⟩⟩ := id h
  · cases h0
    refine (zjS (k : Int) none 0 w).mono ?_
    rintro e w' ⟨rfl, rfl⟩
    exact ⟨by simp, ⟨by rw [zaR]; unfold maxLen; omega, fun hne => absurd rfl hne⟩, Below.refl _ _⟩
  · cases h0
    refine (zfJ g n cap cur k w h3 (by omega) (fun i hin a' m c he => hi i a' m c ?_) hk (by omega)).mono ?_
    · rw [<- h7, List.getElem?_take_of_lt (by omega)]
      simpa using he
    · rintro e w' ⟨rfl, hM, C', hC', hs', hc'⟩
      refine ⟨rfl, ⟨by rw [zaR]; unfold maxLen; omega, fun _ => ⟨g, 0, rfl, (Array.getElem?_eq_some_iff.1 hC').1, fun i hin => ?_⟩⟩, hM.below h2 hlo⟩
      rw [zaR] at hin
      rw [cell_of_block hC', Nat.zero_add, hc' i hin, zhc]
theorem zkU (xs : List Int) (j : Nat) (a : Option Addr) (m c : Nat) : (ints xs)[j]? ≠ some (Value.slice a m c) := by
  unfold ints
  rw [List.getElem?_map]
  cases xs[j]? <;> simp
structure zdq (lo : Nat) (w : World) (v : Value) (xs : List Int) : Prop where
  row : w.ownsRow lo 3 1 v xs.length (ints xs)
theorem zdq.mono {lo : Nat} {w w' : World} {v : Value} {xs : List Int} (h : zdq lo w v xs) (hb : Below w.heap.size w w') : zdq lo w' v xs := ⟨yA h.row hb⟩
theorem zdq.marked {lo lo' hi' : Nat} {w w' : World} {v : Value} {xs : List Int} (h : zdq lo w v xs) (hM : Marked lo' hi' w w') (hl : hi' <= lo) : zdq lo w' v xs := by
  refine ⟨jX h.row fun g hg => ?_⟩
  have h1 := h.row.lt g hg
  exact hM.out g h1.2 (Or.inr (Nat.le_trans hl h1.1))
theorem zdq.ints {lo : Nat} {w : World} {a : Option Addr} {c : Nat} {xs : List Int} (h : zdq lo w (.slice a xs.length c) xs) (hl : xs.length <= maxLen) : yM w a xs := by
  obtain ⟨a', c', e, hi⟩ := zbV h.row hl
  cases e
  exact hi
structure Grown (n : Nat) (w : World) : Prop where
  size : n <= w.heap.size
theorem Grown.mono {n : Nat} {w w' : World} (h : Grown n w) (hb : Below w.heap.size w w') : Grown n w' := ⟨Nat.le_trans h.size hb.size⟩
structure Since (w0 w : World) : Prop where
  below : Below w0.heap.size w0 w
theorem Since.mono {w0 w w' : World} (h : Since w0 w) (hb : Below w.heap.size w w') : Since w0 w' := ⟨h.below.trans (hb.mono h.below.size)⟩
theorem Since.low {w0 w w' : World} {B : Nat} (h : Since w0 w) (hb : Below B w w') (hB : w0.heap.size <= B) : Since w0 w' := ⟨h.below.trans (hb.mono hB)⟩
set_option maxHeartbeats 2000000 in
theorem zfM (a : Option Addr) (cap : Nat) (n k : Nat) (w : World) (hw : yM w a (zbl k n)) (hk : 0 < k) (hn : n <= 1048576) (hk2 : k < 8000000000000000000) :
    Calls Tryz.prog 16 #[.slice a n cap, .int .i64 k] w fun e w' => e = .returned (.int .i64 ((k + n : Nat) : Int)) /\ w' = w := by
  have HW : Hid (yM w a (zbl k n)) := hw
  clear hw
  go_enter Tryz.func16, Tryz.ntmps16
  go_wp2_with fail
  go_loopw [1, 5] (fun kv iv wr => ∃ i : Nat, i <= n /\ kv = .int .i64 ((k + i : Nat) : Int) /\ iv = .int .i64 i /\ wr = w) (fun _ iv _ => n - (intOf iv).toNat)
  case atStart => exact ⟨0, Nat.zero_le _, rfl, rfl, rfl⟩
  case round =>
    obtain ⟨i, hi, rfl, rfl, rfl⟩ := hrel
    by_cases hlt : i < n
    · have hlt' : i < (zbl k n).length := by rw [zaR]; exact hlt
      obtain ⟨b, off, rfl, hb, hc⟩ := HW.out.cells (by intro e; rw [e] at hlt'; simp at hlt')
      have hltI : (i : Int) < (n : Int) := by omega
      have hci := hc i hlt'
      rw [zhc] at hci
      have hw1 : wrap64 ((k + i : Nat) + 1 : Int) = ((k + (i + 1) : Nat) : Int) := by rw [z8 _ ⟨by omega, by omega⟩]; omega
      obtain ⟨kk, hkk⟩ : ∃ kk : Int, kk = ((k + i : Nat) : Int) := ⟨_, rfl⟩
      rw [<- hkk] at hci hw1 ⊢
      have hnn : (kk != kk) = false := by simp
      clear hkk hc
      go_wp2_with fail
      go_roundw
      case rel => exact ⟨i + 1, by omega, by first | rw [hw1] | rfl, by go_num, trivial⟩
      case measure => exact zi hlt
    · have e : i = n := by omega
      subst e
      go_wp2_with fail
      go_ret
      exact ⟨rfl, rfl⟩
end Go.Proofs.YtfpeplbmfbepcaaGreat
