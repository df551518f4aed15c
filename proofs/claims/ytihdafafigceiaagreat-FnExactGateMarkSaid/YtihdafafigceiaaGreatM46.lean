import Derived.Test.YtihdafafigceiaaGreatChecked
import Derived.Test.YtihdafafigceiaaGreatRows
import Derived.ProofKit
import Derived.OpenShut
namespace Go.Proofs.YtihdafafigceiaaGreat.LawMark
open Go.ChangeShapes Go.WideShapes Go.ChangeAt Go.RowKit
theorem kInPlace:(Rows.fnExactGateMarkRow.inPlace == Tryz.pinned.checked.prog.inPlace 3)=true:=by kernel_rfl
theorem kUnfol:(Rows.fnExactGateMarkRow.unfollowed == Tryz.pinned.checked.prog.unfollowed 3)=true:=by kernel_rfl
end Go.Proofs.YtihdafafigceiaaGreat.LawMark
