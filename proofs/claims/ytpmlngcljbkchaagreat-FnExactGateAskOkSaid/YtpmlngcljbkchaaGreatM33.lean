import Derived.Test.YtpmlngcljbkchaaGreatM32
import Derived.Test.YtpmlngcljbkchaaGreatM17
import Derived.Test.YtpmlngcljbkchaaGreatM30
namespace Go.Proofs.YtpmlngcljbkchaaGreat
open Go.RowKit

namespace Gate
theorem field_cases (fs : List Fld) (v : ByteArray) : (fieldIx fs v = -1 ∧ fs.find? (fun f => decide (f.nm = v)) = none) ∨ ∃ i, ∃ h : i < fs.length, fieldIx fs v = (i : Int) ∧ fs[i].nm = v ∧ fs.find? (fun f => decide (f.nm = v)) = some fs[i] := by
  cases hf : fs.findIdx? (fun f => decide (f.nm = v)) with
  | none =>
    left
    refine ⟨by unfold fieldIx; rw [hf], ?_⟩
    rw [List.findIdx?_eq_none_iff] at hf
    rw [List.find?_eq_none]
    intro x hx
    have := hf x hx
    simpa using this
  | some i =>
    right
    rw [List.findIdx?_eq_some_iff_getElem] at hf
    obtain ⟨hi, h1, h2⟩ := hf
    refine ⟨i, hi, ?_, by simpa using h1, ?_⟩
    · unfold fieldIx
      have : fs.findIdx? (fun f => decide (f.nm = v)) = some i := by rw [List.findIdx?_eq_some_iff_getElem]; exact ⟨hi, h1, h2⟩
      rw [this]
    · rw [List.find?_eq_some_iff_append]
      refine ⟨h1, fs.take i, fs.drop (i + 1), ?_, ?_⟩
      · conv => lhs; rw [← List.take_append_drop i fs, List.drop_eq_getElem_cons hi]
      · intro a ha
        obtain ⟨k, hk, rfl⟩ := List.mem_iff_getElem.1 ha
        have hk' : k < i := by simp at hk; omega
        have := h2 k hk'
        simpa using this

/-- A name is that of a field that is no link. -/
def plain (fs : List Fld) (v : ByteArray) : Bool := match fs.find? (fun f => decide (f.nm = v)) with | some f => decide (f.kd ≠ 4) | none => false
def fieldOf (fs : List Fld) (v : ByteArray) : Fld := (fs.find? fun f => decide (f.nm = v)).getD noField
theorem plain_none {fs : List Fld} {v : ByteArray} (h : fs.find? (fun f => decide (f.nm = v)) = none) : plain fs v = false := by unfold plain; rw [h]
theorem plain_some {fs : List Fld} {v : ByteArray} {f : Fld} (h : fs.find? (fun f => decide (f.nm = v)) = some f) : plain fs v = decide (f.kd ≠ 4) := by unfold plain; rw [h]
end Gate

theorem kd_ne (k : Int) : Ending.returned (.bool (k != 4)) = Ending.returned (.bool (decide (k ≠ 4))) := by
  by_cases h : k = 4
  · subst h; rfl
  · have h1 : (k != 4) = true := by rw [bne_iff_ne]; exact h
    rw [h1, decide_eq_true h]

set_option maxHeartbeats 1000000 in
theorem isMendable_any (a : Option Addr) (cap : Nat) (fs : List Fld) (v : ByteArray) (w : World) (hw : FldsAt w a fs) :
    Calls Tryz.prog 90 #[.slice a fs.length cap, .string v] w fun e w' => e = .returned (.bool (Gate.plain fs v)) ∧ Below w.heap.size w w' := by
  have hl := hw.len
  unfold maxLen at hl
  rcases Gate.field_cases fs v with ⟨h1, h2⟩ | ⟨i, hi, h1, h2, h3⟩
  · have HP : Hid (Gate.plain fs v = false) := Gate.plain_none h2
    go_enter Tryz.func90, Tryz.ntmps90
    go_wp2_with fail
    have h := fieldPlace_any a cap fs v w hw
    rw [h1] at h
    refine h.mono ?_
    rintro e w1 ⟨rfl, hb1⟩
    clear h
    go_wp2_with fail
    go_ret
    exact ⟨by rw [HP.out]; rfl, hb1⟩
  · have HP : Hid (Gate.plain fs v = decide (fs[i].kd ≠ 4)) := Gate.plain_some h3
    obtain ⟨b, off, rfl, hb, hr⟩ := hw.rows (by rintro rfl; simp at hi)
    obtain ⟨wa, wcap, hf0⟩ := hr i hi
    go_enter Tryz.func90, Tryz.ntmps90
    go_wp2_with fail
    have h := fieldPlace_any (some ⟨b, off, none⟩) cap fs v w hw
    rw [h1] at h
    refine h.mono ?_
    rintro e w1 ⟨rfl, hb1⟩
    obtain ⟨c0, c1, c2, c3, c4, c5, c6, c7, c8, c9, c10⟩ := (hf0.mono hb hb1).load
    have hiI : (i : Int) < (fs.length : Int) := by omega
    have hge : decide ((i : Int) ≥ 0) = true := by simp
    have hb1w : b < w1.heap.size := Nat.lt_of_lt_of_le hb hb1.size
    clear h hw hr hf0 h3 h2 h1
    go_wp2_with fail
    go_ret
    exact ⟨by rw [HP.out]; exact kd_ne fs[i].kd, hb1⟩

end Go.Proofs.YtpmlngcljbkchaaGreat
