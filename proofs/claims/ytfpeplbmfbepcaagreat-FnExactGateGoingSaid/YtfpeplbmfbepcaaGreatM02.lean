import Derived.Test.YtfpeplbmfbepcaaGreatChecked
import Derived.Test.YtfpeplbmfbepcaaGreatRows
import Derived.ProofKit
import Derived.OpenShut
namespace Go.Proofs.YtfpeplbmfbepcaaGreat.LawGoing
open Go.ChangeShapes Go.WideShapes Go.ChangeAt Go.RowKit
theorem kLaid : laidOutB Tryz.pinned.checked.prog = true := by kernel_rfl
theorem kMaps : mapsRowed Tryz.pinned.checked.prog = true := by kernel_rfl
end Go.Proofs.YtfpeplbmfbepcaaGreat.LawGoing

namespace Go.Proofs.YtfpeplbmfbepcaaGreat.LawGoing
open Go.ChangeShapes Go.WideShapes Go.ChangeAt Go.RowKit
theorem kMay : Tryz.pinned.checked.prog.mayEnter = true := by kernel_rfl
end Go.Proofs.YtfpeplbmfbepcaaGreat.LawGoing

namespace Go.Proofs.YtfpeplbmfbepcaaGreat.LawGoing
open Go.ChangeShapes Go.WideShapes Go.ChangeAt Go.RowKit
theorem kLifts : (Rows.fnExactGateGoingRow.lifted == Tryz.pinned.checked.prog.liftsFinal) = true := by kernel_rfl
end Go.Proofs.YtfpeplbmfbepcaaGreat.LawGoing
