import Derived.Test.YtimhinpekngceaaDoorM05
import Derived.Test.YtimhinpekngceaaDoorM23
import Derived.Test.YtimhinpekngceaaDoorM22
import Derived.Laws.IdiomStrings
namespace Go.Proofs.YtimhinpekngceaaDoor
open Go.RowKit

/-- What spec.l4Dec answers. -/
def DecIs (n : Nat) : Prop := ∀ w : World, Calls Tryd.prog 44 #[.int .i64 (n : Int)] w fun e w' => e = .returned (.string ⟨(Lib.decDigits n).toArray⟩) ∧ Below w.heap.size w w'

theorem Gate.has_iff (ws : List ByteArray) (v : ByteArray) : Gate.has ws v = true ↔ v ∈ ws := by
  unfold Gate.has
  rw [List.any_eq_true]
  exact ⟨fun ⟨x, hx, he⟩ => by have e : x = v := by simpa using he
                               rw [← e]; exact hx, fun h => ⟨v, h, by simp⟩⟩

set_option maxHeartbeats 1000000 in
theorem l4New_any (hdec : ∀ n, n < 4611686018427387904 → DecIs n) (l : ByteArray) (a : Option Addr) (cap : Nat) (L : List ByteArray) (w : World) (hw : StrsAt w a L) (hlen : L.length < 2305843009213693952) (hl : l.size ≤ 1) :
    Calls Tryd.prog 27 #[.string l, .slice a L.length cap] w fun e w' => (∃ k, e = .returned (.string (Gate.numbered l k)) ∧ Gate.IsFree l L k) ∧ Below w.heap.size w w' := by
  have HN : Hid (L.length < 2305843009213693952) := hlen
  have HD0 : Hid (∀ n, n < 4611686018427387904 → DecIs n) := hdec
  have HW : Hid (StrsAt w a L) := hw
  clear hlen hdec hw
  go_enter Tryd.func27, Tryd.ntmps27
  go_wp2_with fail
  go_loopw [5] (fun n wr => ∃ k : Nat, n = .int .i64 k ∧ Hid (∀ j, j < k → Gate.numbered l j ∈ L) ∧ Below w.heap.size w wr) (fun n _ => L.length + 1 - (intOf n).toNat)
  case atStart => exact ⟨0, rfl, fun j hj => by omega, Below.refl _ _⟩
  case round =>
    obtain ⟨k, rfl, hall, hB⟩ := hrel
    have hk : k < 4611686018427387904 := by have := Gate.numbered_le k L hall.out; have := HN.out; omega
    have HK : Hid (k ≤ L.length) := Gate.numbered_le k L hall.out
    obtain ⟨d, HD⟩ : ∃ d : ByteArray, Hid (⟨(Lib.decDigits k).toArray⟩ = d) := ⟨_, rfl⟩
    have HC : Hid (∀ W, Below wr.heap.size wr W → Calls Tryd.prog 44 #[.int .i64 (k : Int)] W fun e w' => e = .returned (.string d) ∧ Below wr.heap.size wr w') := fun W hW => by
      rw [← HD.out]
      refine (HD0.out k hk W).mono ?_
      rintro e w' ⟨rfl, hb⟩
      exact ⟨rfl, hW.trans (hb.mono hW.size)⟩
    have hkI : (k : Int) < 4611686018427387904 := by omega
    have hsz : l.size + d.size ≤ 9223372036854775807 := by
      have h1 := Lib.itoa_length_le (k : Int) (by omega) (by omega)
      rw [Lib.itoa_nonneg] at h1
      have h2 : d.size ≤ 21 := by rw [← HD.out]; simpa [ByteArray.size] using h1
      omega
    obtain ⟨s, hs, HS⟩ : ∃ s : ByteArray, (∀ W, (Op.stringOp .add l d).run Tryd.prog W = .ok (.string s) W) ∧ Hid (s = Gate.numbered l k) := ⟨l ++ d, fun W => run_string_add_sum W _ _ hsz, by rw [← HD.out]; rfl⟩
    have HL : Hid (∀ w2 b, Gate.has L s = b → Below wr.heap.size wr w2 → Calls Tryd.prog 53 #[.slice a L.length cap, .string s] w2 fun e w' => e = .returned (.bool b) ∧ w' = w2) := fun w2 b hb h => by
      rw [← hb]; exact l1Has_any a cap L s w2 (HW.out.mono (hB.trans (h.mono hB.size)))
    clear hsz hk
    by_cases hv : Gate.has L s = true
    · have HY : Hid (Gate.numbered l k ∈ L) := by unfold Hid; rw [← HS.out]; exact (Gate.has_iff _ _).1 hv
      have HV : Hid (Gate.has L s = true) := hv
      clear hv
      go_wp2_with fail
      refine (HC.out _ (Below.refl _ _)).mono ?_
      rintro e w2 ⟨rfl, hb2⟩
      have HB2 : Hid (Below wr.heap.size wr w2) := hb2
      clear hb2
      go_wp2_with fail
      refine (HL.out _ _ HV.out HB2.out).mono ?_
      rintro e w3 ⟨rfl, rfl⟩
      go_wp2_with fail
      refine ⟨⟨k + 1, by go_num, fun j hj => ?_, hB.trans (HB2.out.mono hB.size)⟩, by simp [intOf]; have := HK.out; omega⟩
      rcases Nat.lt_or_ge j k with h | h
      · exact hall.out j h
      · have e : j = k := by omega
        subst e; exact HY.out
    · have hv' : Gate.has L s = false := by simpa using hv
      have HY : Hid (Gate.numbered l k ∉ L) := by unfold Hid; rw [← HS.out]; exact fun h => hv ((Gate.has_iff _ _).2 h)
      have HZ : Hid (Gate.IsFree l L k ∧ s = Gate.numbered l k ∧ ∀ w3, Below wr.heap.size wr w3 → Below w.heap.size w w3) := ⟨⟨HY.out, hall.out⟩, HS.out, fun w3 h => hB.trans (h.mono hB.size)⟩
      have HV : Hid (Gate.has L s = false) := hv'
      clear hv hv' HN HD0 HW HK hall HS HD hkI hl hB HY
      go_wp2_with fail
      refine (HC.out _ (Below.refl _ _)).mono ?_
      rintro e w2 ⟨rfl, hb2⟩
      have HB2 : Hid (Below wr.heap.size wr w2) := hb2
      clear hb2
      go_wp2_with fail
      refine (HL.out _ _ HV.out HB2.out).mono ?_
      rintro e w3 ⟨rfl, rfl⟩
      go_wp2_with fail
      refine (HC.out _ HB2.out).mono ?_
      rintro e w4 ⟨rfl, hb4⟩
      go_wp2_with fail
      go_ret
      exact ⟨⟨k, by rw [← HZ.out.2.1]; rfl, HZ.out.1⟩, HZ.out.2.2 _ hb4⟩

end Go.Proofs.YtimhinpekngceaaDoor

namespace Go.Proofs.YtimhinpekngceaaDoor
open Go.RowKit

theorem Gate.dec_small {n : Nat} (h : n < 10) : (⟨(Lib.decDigits n).toArray⟩ : ByteArray) = ⟨#[UInt8.ofNat (48 + n)]⟩ := by
  rw [Lib.decDigits_one h]

/-- One byte in a block of its own, as a string. -/
theorem byte_back {n : Nat} (h : n < 10) (W : World) (b : Nat) (hc : W.cell? ⟨b, 0, none⟩ = some (.int .u8 (48 + (n : Int)))) :
    (convert 45 9 (.slice (some ⟨b, 0, none⟩) 1 1)).run Tryd.prog W = .ok (.string ⟨#[UInt8.ofNat (48 + n)]⟩) W := by
  refine run_convert_bytes_back W _ _ 5 ⟨b, 0, none⟩ 1 [UInt8.ofNat (48 + n)] Tryd.underlying45 Tryd.underlying5 Tryd.underlying9 ?_
  intro j hj
  have e : j = 0 := by simp at hj; omega
  subst e
  have e2 : ((([UInt8.ofNat (48 + n)] : List UInt8)[0]).toNat : Int) = 48 + (n : Int) := by
    show ((UInt8.ofNat (48 + n)).toNat : Int) = _
    rw [UInt8.toNat_ofNat']; omega
  rw [e2]
  exact hc

set_option maxHeartbeats 1000000 in
theorem l4Dec_small (n : Nat) (h : n < 10) : DecIs n := by
  intro w
  have HF : Hid ((⟨(Lib.decDigits n).toArray⟩ : ByteArray) = ⟨#[UInt8.ofNat (48 + n)]⟩) := Gate.dec_small h
  have hI : (n : Int) < 10 := by omega
  have h0 : (0 : Int) ≤ (n : Int) := by omega
  obtain ⟨d, HD⟩ : ∃ d : ByteArray, Hid (⟨#[UInt8.ofNat (48 + n)]⟩ = d) := ⟨_, rfl⟩
  have hbk : (convert 45 9 (.slice (some ⟨w.heap.size, 0, none⟩) 1 1)).run Tryd.prog (w.alloc (.cells #[.int .u8 (48 + (n : Int))] 5)) = .ok (.string d) (w.alloc (.cells #[.int .u8 (48 + (n : Int))] 5)) := by rw [← HD.out]; exact byte_back h _ _ (box_new w _ _ 0)
  go_enter Tryd.func44, Tryd.ntmps44
  go_wp2_with fail
  go_ret
  exact ⟨by rw [HF.out, HD.out]; rfl, (Below.refl _ _).alloc (Nat.le_refl _) _⟩

end Go.Proofs.YtimhinpekngceaaDoor
