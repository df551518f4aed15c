import Derived.Test.YtcgpjfcocmcodaaGreatChecked
import Derived.Test.YtcgpjfcocmcodaaGreatRows
import Derived.ProofKit
import Derived.OpenShut
import Derived.Test.YtcgpjfcocmcodaaGreatM01
namespace Go.Proofs.YtcgpjfcocmcodaaGreat.LawBound
open Go.ChangeShapes Go.WideShapes Go.ChangeAt Go.RowKit
theorem kLaid:laidOutB Tryz.pinned.checked.prog=true:=by kernel_rfl
theorem kMaps:mapsRowed Tryz.pinned.checked.prog=true:=by kernel_rfl
end Go.Proofs.YtcgpjfcocmcodaaGreat.LawBound
namespace Go.Proofs.YtcgpjfcocmcodaaGreat.LawBound
open Go.ChangeShapes Go.WideShapes Go.ChangeAt Go.RowKit
theorem kMay:Tryz.pinned.checked.prog.mayEnter=true:=by kernel_rfl
end Go.Proofs.YtcgpjfcocmcodaaGreat.LawBound
namespace Go.Proofs.YtcgpjfcocmcodaaGreat.LawBound
open Go.ChangeShapes Go.WideShapes Go.ChangeAt Go.RowKit
theorem kLifts:(Rows.fnExactGateBoundRow.lifted == Tryz.pinned.checked.prog.liftsFinal)=true:=by kernel_rfl
end Go.Proofs.YtcgpjfcocmcodaaGreat.LawBound
