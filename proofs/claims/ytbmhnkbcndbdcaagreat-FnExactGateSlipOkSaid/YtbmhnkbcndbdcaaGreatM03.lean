import Derived.Test.YtbmhnkbcndbdcaaGreatChecked
import Derived.Test.YtbmhnkbcndbdcaaGreatRows
import Derived.ProofKit
import Derived.OpenShut
namespace Go.Proofs.YtbmhnkbcndbdcaaGreat.LawSlipOk
open Go.ChangeShapes Go.WideShapes Go.ChangeAt Go.RowKit
theorem kMay : Tryz.pinned.checked.prog.mayEnter = true := by kernel_rfl
end Go.Proofs.YtbmhnkbcndbdcaaGreat.LawSlipOk

namespace Go.Proofs.YtbmhnkbcndbdcaaGreat.LawSlipOk
open Go.ChangeShapes Go.WideShapes Go.ChangeAt Go.RowKit
theorem kLifts : (Rows.fnExactGateSlipOkRow.lifted == Tryz.pinned.checked.prog.liftsFinal) = true := by kernel_rfl
end Go.Proofs.YtbmhnkbcndbdcaaGreat.LawSlipOk
