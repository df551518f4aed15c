import Derived.Test.YtmfgjafdnopfbaaGreatChecked
import Derived.Test.YtmfgjafdnopfbaaGreatRows
import Derived.ProofKit
import Derived.OpenShut
namespace Go.Proofs.YtmfgjafdnopfbaaGreat.LawFnShaped
open Go.ChangeShapes Go.WideShapes Go.ChangeAt Go.RowKit
theorem kRecur : (Rows.fnShapedRow.recurses == Tryz.pinned.checked.prog.recurses 3) = true := by kernel_rfl
theorem kNamed : (Rows.fnShapedRow.named == Tryz.pinned.checked.prog.varsNamed 3) = true := by kernel_rfl
end Go.Proofs.YtmfgjafdnopfbaaGreat.LawFnShaped

namespace Go.Proofs.YtmfgjafdnopfbaaGreat.LawFnShaped
open Go.ChangeShapes Go.WideShapes Go.ChangeAt Go.RowKit
theorem kLaid : laidOutB Tryz.pinned.checked.prog = true := by kernel_rfl
theorem kMaps : mapsRowed Tryz.pinned.checked.prog = true := by kernel_rfl
end Go.Proofs.YtmfgjafdnopfbaaGreat.LawFnShaped

namespace Go.Proofs.YtmfgjafdnopfbaaGreat.LawFnShaped
open Go.ChangeShapes Go.WideShapes Go.ChangeAt Go.RowKit
theorem kMay : Tryz.pinned.checked.prog.mayEnter = true := by kernel_rfl
end Go.Proofs.YtmfgjafdnopfbaaGreat.LawFnShaped

namespace Go.Proofs.YtmfgjafdnopfbaaGreat.LawFnShaped
open Go.ChangeShapes Go.WideShapes Go.ChangeAt Go.RowKit
theorem kLifts : (Rows.fnShapedRow.lifted == Tryz.pinned.checked.prog.liftsFinal) = true := by kernel_rfl
end Go.Proofs.YtmfgjafdnopfbaaGreat.LawFnShaped
