import Derived.Test.YtimhinpekngceaaDoorRows
import Derived.Lib.ItoaMem
namespace Go.Proofs.YtimhinpekngceaaDoor
namespace Gate

/-- A letter and a number in decimals. -/
def numbered (l : ByteArray) (n : Nat) : ByteArray := l ++ ⟨(Lib.decDigits n).toArray⟩

def decVal (l : List UInt8) : Nat := l.foldl (fun a c => 10 * a + (c.toNat - 48)) 0

theorem digit_toNat {u : Nat} (h : u < 10) : (UInt8.ofNat (48 + u)).toNat - 48 = u := by
  rw [UInt8.toNat_ofNat']
  omega

theorem decVal_dec (u : Nat) : decVal (Lib.decDigits u) = u := by
  induction u using Nat.strongRecOn with
  | _ u ih =>
    rw [Lib.decDigits]
    split
    · rename_i h
      show 10 * 0 + ((UInt8.ofNat (48 + u)).toNat - 48) = u
      rw [digit_toNat h]; omega
    · rename_i h
      unfold decVal
      rw [List.foldl_append]
      show 10 * decVal (Lib.decDigits (u / 10)) + ((UInt8.ofNat (48 + u % 10)).toNat - 48) = u
      rw [ih (u / 10) (by omega), digit_toNat (by omega)]
      omega

theorem numbered_inj {l : ByteArray} {n m : Nat} (h : numbered l n = numbered l m) : n = m := by
  have h1 : (numbered l n).data.toList = (numbered l m).data.toList := by rw [h]
  unfold numbered at h1
  rw [ByteArray.data_append, ByteArray.data_append, Array.toList_append, Array.toList_append] at h1
  have h2 := List.append_cancel_left h1
  rw [← decVal_dec n, ← decVal_dec m]
  exact congrArg decVal (by simpa using h2)

/-- As many names of a letter as a list holds it is long. -/
theorem numbered_le {l : ByteArray} : ∀ (k : Nat) (L : List ByteArray), (∀ j, j < k → numbered l j ∈ L) → k ≤ L.length
  | 0, _, _ => Nat.zero_le _
  | k + 1, L, h => by
    have hm := h k (by omega)
    obtain ⟨A, B, rfl⟩ := List.append_of_mem hm
    have ih := numbered_le k (A ++ B) fun j hj => by
      have hj1 := h j (by omega)
      rw [List.mem_append, List.mem_cons] at hj1
      rw [List.mem_append]
      rcases hj1 with h1 | h1 | h1
      · exact Or.inl h1
      · have := numbered_inj h1; omega
      · exact Or.inr h1
    rw [List.length_append] at ih
    rw [List.length_append, List.length_cons]
    omega

/-- The number of the first name that a list lacks. -/
structure IsFree (l : ByteArray) (L : List ByteArray) (k : Nat) : Prop where
  no : numbered l k ∉ L
  ahead : ∀ j, j < k → numbered l j ∈ L

theorem IsFree.one {l : ByteArray} {L L' : List ByteArray} {k k' : Nat} (h : IsFree l L k) (h' : IsFree l L' k') (hL : ∀ s, s ∈ L ↔ s ∈ L') : k = k' := by
  rcases Nat.lt_trichotomy k k' with hlt | e | hlt
  · exact absurd ((hL _).2 (h'.ahead k hlt)) h.no
  · exact e
  · exact absurd ((hL _).1 (h.ahead k' hlt)) h'.no

end Gate
end Go.Proofs.YtimhinpekngceaaDoor
