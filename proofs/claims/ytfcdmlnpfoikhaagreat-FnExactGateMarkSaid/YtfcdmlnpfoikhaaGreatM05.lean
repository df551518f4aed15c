import Derived.Test.YtfcdmlnpfoikhaaGreatChecked
import Derived.Test.YtfcdmlnpfoikhaaGreatRows
import Derived.ProofKit
import Derived.OpenShut
namespace Go.Proofs.YtfcdmlnpfoikhaaGreat.LawMark
open Go.ChangeShapes Go.WideShapes Go.ChangeAt Go.RowKit
theorem kInPlace : (Rows.fnExactGateMarkRow.inPlace == Tryz.pinned.checked.prog.inPlace 3) = true := by kernel_rfl
theorem kUnfol : (Rows.fnExactGateMarkRow.unfollowed == Tryz.pinned.checked.prog.unfollowed 3) = true := by kernel_rfl
end Go.Proofs.YtfcdmlnpfoikhaaGreat.LawMark

namespace Go.Proofs.YtfcdmlnpfoikhaaGreat.LawMark
open Go.ChangeShapes Go.WideShapes Go.ChangeAt Go.RowKit
theorem kRecur : (Rows.fnExactGateMarkRow.recurses == Tryz.pinned.checked.prog.recurses 3) = true := by kernel_rfl
theorem kNamed : (Rows.fnExactGateMarkRow.named == Tryz.pinned.checked.prog.varsNamed 3) = true := by kernel_rfl
end Go.Proofs.YtfcdmlnpfoikhaaGreat.LawMark
