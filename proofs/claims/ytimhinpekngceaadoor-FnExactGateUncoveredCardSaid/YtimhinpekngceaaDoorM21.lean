import Derived.Test.YtimhinpekngceaaDoorM20
import Derived.Test.YtimhinpekngceaaDoorM18
namespace Go.Proofs.YtimhinpekngceaaDoor
open Go.RowKit

def Gate.tzN (n : Nat) : Int := if n % 64 = 0 then 8 else if n % 2 = 1 then 0 else if n % 4 = 2 then 1 else if n % 8 = 4 then 2 else if n % 16 = 8 then 3 else if n % 32 = 16 then 4 else 5
def Gate.bitsN (a b c d e : Bool) : Nat := (cond a 2 0) + (cond b 4 0) + (cond c 8 0) + (cond d 16 0) + (cond e 32 0)
theorem Gate.bitsN_all : ∀ a b c d e : Bool, Gate.bits5 a b c d e = ((Gate.bitsN a b c d e : Nat) : Int) ∧ Gate.bitsN a b c d e < 64 ∧ Gate.tzN (Gate.bitsN a b c d e) = Gate.low5 a b c d e := by decide +kernel

theorem byte_getD (b : ByteArray) (i : Nat) (h : i < b.size) : b[i] = b.data.toList.getD i 0 := by
  rw [List.getD_eq_getElem?_getD, List.getElem?_eq_getElem (by simpa using h)]; rfl

set_option maxRecDepth 100000 in
theorem tz8_at (n : Nat) (hn : n < 64) (w : World) : Calls Tryd.prog 64 #[.int .u8 (n : Int)] w fun x w' => x = .returned (.int .i64 (Gate.tzN n)) ∧ w' = w := by
  have h0 : (0 : Int) ≤ (n : Int) := by omega
  have h1 : (n : Int) < 256 := by omega
  go_enter Tryd.func64, Tryd.ntmps64
  go_wp2_with fail
  go_ret
  refine ⟨ret_int ?_, rfl⟩
  rw [byte_getD]
  clear h0 h1
  revert hn
  revert n
  decide +kernel

theorem first_any (f : Int → Bool) (w : World) : Calls Tryd.prog 34 #[.int .u8 (Gate.bitsOf f)] w fun x w' => x = .returned (.int .i64 (Gate.low f)) ∧ w' = w := by
  obtain ⟨h1, h2, h3⟩ := Gate.bitsN_all (f 1) (f 2) (f 3) (f 4) (f 5)
  have HE : Hid (Gate.tzN (Gate.bitsN (f 1) (f 2) (f 3) (f 4) (f 5)) = Gate.low f) := h3
  unfold Gate.bitsOf
  rw [h1]
  clear h1 h3
  go_enter Tryd.func34, Tryd.ntmps34
  go_wp2_with (go_at_call 64; refine (tz8_at _ h2 _).mono ?_; rintro e w' ⟨rfl, rfl⟩)
  go_ret
  exact ⟨ret_int HE.out, rfl⟩

end Go.Proofs.YtimhinpekngceaaDoor
