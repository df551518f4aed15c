import Derived.Test.YtfcdmlnpfoikhaaGreatChecked
import Derived.Test.YtfcdmlnpfoikhaaGreatRows
import Derived.ProofKit
import Derived.OpenShut
import Derived.Test.YtfcdmlnpfoikhaaGreatM05
namespace Go.Proofs.YtfcdmlnpfoikhaaGreat.LawMark
open Go.ChangeShapes Go.WideShapes Go.ChangeAt Go.RowKit
theorem kLaid : laidOutB Tryz.pinned.checked.prog = true := by kernel_rfl
theorem kMaps : mapsRowed Tryz.pinned.checked.prog = true := by kernel_rfl
end Go.Proofs.YtfcdmlnpfoikhaaGreat.LawMark

namespace Go.Proofs.YtfcdmlnpfoikhaaGreat.LawMark
open Go.ChangeShapes Go.WideShapes Go.ChangeAt Go.RowKit
theorem kMay : Tryz.pinned.checked.prog.mayEnter = true := by kernel_rfl
end Go.Proofs.YtfcdmlnpfoikhaaGreat.LawMark

namespace Go.Proofs.YtfcdmlnpfoikhaaGreat.LawMark
open Go.ChangeShapes Go.WideShapes Go.ChangeAt Go.RowKit
theorem kLifts : (Rows.fnExactGateMarkRow.lifted == Tryz.pinned.checked.prog.liftsFinal) = true := by kernel_rfl
end Go.Proofs.YtfcdmlnpfoikhaaGreat.LawMark

namespace Go.Proofs.YtfcdmlnpfoikhaaGreat.LawMark
open Go.ChangeShapes Go.WideShapes Go.ChangeAt Go.RowKit
theorem closed : joinedFacts Tryz.pinned.checked.prog 3 Tryz.f3 Rows.fnExactGateMarkSpec Rows.fnExactGateMarkRow = true := by
  unfold joinedFacts
  rw [kInPlace, kUnfol, kRecur, kNamed, kLaid, kMaps, kMay, kLifts]
  kernel_rfl
end Go.Proofs.YtfcdmlnpfoikhaaGreat.LawMark
