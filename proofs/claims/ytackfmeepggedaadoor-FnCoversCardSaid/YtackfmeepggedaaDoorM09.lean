import Derived.Test.YtackfmeepggedaaDoorM07
namespace Go.Proofs.YtackfmeepggedaaDoor
open Go.RowKit

/-- What spec.l4Dec answers. -/
def DecIs (n : Nat) : Prop := ∀ w : World, Calls Tryd.prog 16 #[.int .i64 (n : Int)] w fun e w' => e = .returned (.string ⟨(Lib.decDigits n).toArray⟩) ∧ Below w.heap.size w w'

end Go.Proofs.YtackfmeepggedaaDoor
