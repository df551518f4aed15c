import Derived.Test.YtcdlcddjoohcnaaGreatChecked
import Derived.Test.YtcdlcddjoohcnaaGreatRows
import Derived.ProofKit
import Derived.OpenShut
namespace Go.Proofs.YtcdlcddjoohcnaaGreat.LawSlipOk
open Go.ChangeShapes Go.WideShapes Go.ChangeAt Go.RowKit
theorem kMay : Tryz.pinned.checked.prog.mayEnter = true := by kernel_rfl
end Go.Proofs.YtcdlcddjoohcnaaGreat.LawSlipOk

namespace Go.Proofs.YtcdlcddjoohcnaaGreat.LawSlipOk
open Go.ChangeShapes Go.WideShapes Go.ChangeAt Go.RowKit
theorem kLifts : (Rows.fnExactGateSlipOkRow.lifted == Tryz.pinned.checked.prog.liftsFinal) = true := by kernel_rfl
end Go.Proofs.YtcdlcddjoohcnaaGreat.LawSlipOk
