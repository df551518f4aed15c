import Derived.Test.YtfpeplbmfbepcaaGreatChecked
import Derived.Test.YtfpeplbmfbepcaaGreatRows
import Derived.ProofKit
import Derived.OpenShut
namespace Go.Proofs.YtfpeplbmfbepcaaGreat.LawGoing
open Go.ChangeShapes Go.WideShapes Go.ChangeAt Go.RowKit
theorem kRecur : (Rows.fnExactGateGoingRow.recurses == Tryz.pinned.checked.prog.recurses 3) = true := by kernel_rfl
theorem kNamed : (Rows.fnExactGateGoingRow.named == Tryz.pinned.checked.prog.varsNamed 3) = true := by kernel_rfl
end Go.Proofs.YtfpeplbmfbepcaaGreat.LawGoing
