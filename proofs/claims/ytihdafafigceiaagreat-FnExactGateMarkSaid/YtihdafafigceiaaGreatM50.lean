import Derived.Test.YtihdafafigceiaaGreatChecked
import Derived.Test.YtihdafafigceiaaGreatRows
import Derived.ProofKit
import Derived.OpenShut
namespace Go.Proofs.YtihdafafigceiaaGreat.LawMark
open Go.ChangeShapes Go.WideShapes Go.ChangeAt Go.RowKit
theorem kLifts:(Rows.fnExactGateMarkRow.lifted == Tryz.pinned.checked.prog.liftsFinal)=true:=by kernel_rfl
end Go.Proofs.YtihdafafigceiaaGreat.LawMark
