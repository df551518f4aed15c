import Derived.Test.YtpmlngcljbkchaaGreatChecked
import Derived.Test.YtpmlngcljbkchaaGreatRows
import Derived.ProofKit
import Derived.OpenShut
namespace Go.Proofs.YtpmlngcljbkchaaGreat.LawAskOk
open Go.ChangeShapes Go.WideShapes Go.ChangeAt Go.RowKit
theorem kMay : Tryz.pinned.checked.prog.mayEnter = true := by kernel_rfl
end Go.Proofs.YtpmlngcljbkchaaGreat.LawAskOk

namespace Go.Proofs.YtpmlngcljbkchaaGreat.LawAskOk
open Go.ChangeShapes Go.WideShapes Go.ChangeAt Go.RowKit
theorem kLifts : (Rows.fnExactGateAskOkRow.lifted == Tryz.pinned.checked.prog.liftsFinal) = true := by kernel_rfl
end Go.Proofs.YtpmlngcljbkchaaGreat.LawAskOk
