import Derived.Test.YtnapmdofidgliaaGreatChecked
import Derived.Test.YtnapmdofidgliaaGreatRows
import Derived.ProofKit
import Derived.OpenShut
import Derived.Test.YtnapmdofidgliaaGreatM01
namespace Go.Proofs.YtnapmdofidgliaaGreat.LawDoomed
open Go.ChangeShapes Go.WideShapes Go.ChangeAt Go.RowKit
theorem kRecur:(Rows.fnExactGateDoomedRow.recurses == Tryz.pinned.checked.prog.recurses 3)=true:=by kernel_rfl
theorem kNamed:(Rows.fnExactGateDoomedRow.named == Tryz.pinned.checked.prog.varsNamed 3)=true:=by kernel_rfl
end Go.Proofs.YtnapmdofidgliaaGreat.LawDoomed
namespace Go.Proofs.YtnapmdofidgliaaGreat.LawDoomed
open Go.ChangeShapes Go.WideShapes Go.ChangeAt Go.RowKit
theorem kLaid:laidOutB Tryz.pinned.checked.prog=true:=by kernel_rfl
theorem kMaps:mapsRowed Tryz.pinned.checked.prog=true:=by kernel_rfl
end Go.Proofs.YtnapmdofidgliaaGreat.LawDoomed
namespace Go.Proofs.YtnapmdofidgliaaGreat.LawDoomed
open Go.ChangeShapes Go.WideShapes Go.ChangeAt Go.RowKit
theorem kMay:Tryz.pinned.checked.prog.mayEnter=true:=by kernel_rfl
end Go.Proofs.YtnapmdofidgliaaGreat.LawDoomed
namespace Go.Proofs.YtnapmdofidgliaaGreat.LawDoomed
open Go.ChangeShapes Go.WideShapes Go.ChangeAt Go.RowKit
theorem kLifts:(Rows.fnExactGateDoomedRow.lifted == Tryz.pinned.checked.prog.liftsFinal)=true:=by kernel_rfl
end Go.Proofs.YtnapmdofidgliaaGreat.LawDoomed
