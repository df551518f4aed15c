import Derived.Test.YtfjblpnfbkgjbaaGreatChecked
import Derived.Test.YtfjblpnfbkgjbaaGreatRows
import Derived.ProofKit
import Derived.OpenShut
namespace Go.Proofs.YtfjblpnfbkgjbaaGreat.LawAskOk
open Go.ChangeShapes Go.WideShapes Go.ChangeAt Go.RowKit
theorem kMay : Tryz.pinned.checked.prog.mayEnter = true := by kernel_rfl
end Go.Proofs.YtfjblpnfbkgjbaaGreat.LawAskOk

namespace Go.Proofs.YtfjblpnfbkgjbaaGreat.LawAskOk
open Go.ChangeShapes Go.WideShapes Go.ChangeAt Go.RowKit
theorem kLifts : (Rows.fnExactGateAskOkRow.lifted == Tryz.pinned.checked.prog.liftsFinal) = true := by kernel_rfl
end Go.Proofs.YtfjblpnfbkgjbaaGreat.LawAskOk
