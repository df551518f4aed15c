import Derived.Test.YtkficnallnpjnaaGreatChecked
import Derived.Test.YtkficnallnpjnaaGreatRows
import Derived.ProofKit
import Derived.OpenShut
import Derived.Test.YtkficnallnpjnaaGreatM01
namespace Go.Proofs.YtkficnallnpjnaaGreat.LawTick
open Go.ChangeShapes Go.WideShapes Go.ChangeAt Go.RowKit
theorem kLaid:laidOutB Tryz.pinned.checked.prog=true:=by kernel_rfl
theorem kMaps:mapsRowed Tryz.pinned.checked.prog=true:=by kernel_rfl
end Go.Proofs.YtkficnallnpjnaaGreat.LawTick
namespace Go.Proofs.YtkficnallnpjnaaGreat.LawTick
open Go.ChangeShapes Go.WideShapes Go.ChangeAt Go.RowKit
theorem kMay:Tryz.pinned.checked.prog.mayEnter=true:=by kernel_rfl
end Go.Proofs.YtkficnallnpjnaaGreat.LawTick
namespace Go.Proofs.YtkficnallnpjnaaGreat.LawTick
open Go.ChangeShapes Go.WideShapes Go.ChangeAt Go.RowKit
theorem kLifts:(Rows.fnExactGateTickRow.lifted == Tryz.pinned.checked.prog.liftsFinal)=true:=by kernel_rfl
end Go.Proofs.YtkficnallnpjnaaGreat.LawTick
