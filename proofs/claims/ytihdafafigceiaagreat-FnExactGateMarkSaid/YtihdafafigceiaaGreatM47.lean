import Derived.Test.YtihdafafigceiaaGreatChecked
import Derived.Test.YtihdafafigceiaaGreatRows
import Derived.ProofKit
import Derived.OpenShut
namespace Go.Proofs.YtihdafafigceiaaGreat.LawMark
open Go.ChangeShapes Go.WideShapes Go.ChangeAt Go.RowKit
theorem kRecur:(Rows.fnExactGateMarkRow.recurses == Tryz.pinned.checked.prog.recurses 3)=true:=by kernel_rfl
theorem kNamed:(Rows.fnExactGateMarkRow.named == Tryz.pinned.checked.prog.varsNamed 3)=true:=by kernel_rfl
end Go.Proofs.YtihdafafigceiaaGreat.LawMark
