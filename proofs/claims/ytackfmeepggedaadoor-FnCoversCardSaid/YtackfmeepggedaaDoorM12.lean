import Derived.Test.YtackfmeepggedaaDoorM09
import Derived.Test.YtackfmeepggedaaDoorM02
import Derived.Laws.IdiomStrings
namespace Go.Proofs.YtackfmeepggedaaDoor
open Go.RowKit

theorem Gate.dec_small {n : Nat} (h : n < 10) : (⟨(Lib.decDigits n).toArray⟩ : ByteArray) = ⟨#[UInt8.ofNat (48 + n)]⟩ := by
  rw [Lib.decDigits_one h]

/-- One byte in a block of its own, as a string. -/
theorem byte_back {n : Nat} (h : n < 10) (W : World) (b : Nat) (hc : W.cell? ⟨b, 0, none⟩ = some (.int .u8 (48 + (n : Int)))) :
    (convert 22 9 (.slice (some ⟨b, 0, none⟩) 1 1)).run Tryd.prog W = .ok (.string ⟨#[UInt8.ofNat (48 + n)]⟩) W := by
  refine run_convert_bytes_back W _ _ 5 ⟨b, 0, none⟩ 1 [UInt8.ofNat (48 + n)] Tryd.underlying22 Tryd.underlying5 Tryd.underlying9 ?_
  intro j hj
  have e : j = 0 := by simp at hj; omega
  subst e
  have e2 : ((([UInt8.ofNat (48 + n)] : List UInt8)[0]).toNat : Int) = 48 + (n : Int) := by
    show ((UInt8.ofNat (48 + n)).toNat : Int) = _
    rw [UInt8.toNat_ofNat']; omega
  rw [e2]
  exact hc

set_option maxHeartbeats 1000000 in
theorem l4Dec_small (n : Nat) (h : n < 10) : DecIs n := by
  intro w
  have HF : Hid ((⟨(Lib.decDigits n).toArray⟩ : ByteArray) = ⟨#[UInt8.ofNat (48 + n)]⟩) := Gate.dec_small h
  have hI : (n : Int) < 10 := by omega
  have h0 : (0 : Int) ≤ (n : Int) := by omega
  obtain ⟨d, HD⟩ : ∃ d : ByteArray, Hid (⟨#[UInt8.ofNat (48 + n)]⟩ = d) := ⟨_, rfl⟩
  have hbk : (convert 22 9 (.slice (some ⟨w.heap.size, 0, none⟩) 1 1)).run Tryd.prog (w.alloc (.cells #[.int .u8 (48 + (n : Int))] 5)) = .ok (.string d) (w.alloc (.cells #[.int .u8 (48 + (n : Int))] 5)) := by rw [← HD.out]; exact byte_back h _ _ (box_new w _ _ 0)
  go_enter Tryd.func16, Tryd.ntmps16
  go_wp2_with fail
  go_ret
  exact ⟨by rw [HF.out, HD.out]; rfl, (Below.refl _ _).alloc (Nat.le_refl _) _⟩

end Go.Proofs.YtackfmeepggedaaDoor
