import Derived.Test.YtaickbhifenbjaaGreatChecked
import Derived.Test.YtaickbhifenbjaaGreatRows
import Derived.ProofKit
import Derived.OpenShut
namespace Go.Proofs.YtaickbhifenbjaaGreat.LawMay
open Go.ChangeShapes Go.WideShapes Go.ChangeAt Go.RowKit
theorem kInPlace:(Rows.fnExactGateMayRow.inPlace == Tryz.pinned.checked.prog.inPlace 3)=true:=by kernel_rfl
theorem kUnfol:(Rows.fnExactGateMayRow.unfollowed == Tryz.pinned.checked.prog.unfollowed 3)=true:=by kernel_rfl
end Go.Proofs.YtaickbhifenbjaaGreat.LawMay
namespace Go.Proofs.YtaickbhifenbjaaGreat.LawMay
open Go.ChangeShapes Go.WideShapes Go.ChangeAt Go.RowKit
theorem kRecur:(Rows.fnExactGateMayRow.recurses == Tryz.pinned.checked.prog.recurses 3)=true:=by kernel_rfl
theorem kNamed:(Rows.fnExactGateMayRow.named == Tryz.pinned.checked.prog.varsNamed 3)=true:=by kernel_rfl
end Go.Proofs.YtaickbhifenbjaaGreat.LawMay
namespace Go.Proofs.YtaickbhifenbjaaGreat.LawMay
open Go.ChangeShapes Go.WideShapes Go.ChangeAt Go.RowKit
theorem kLaid:laidOutB Tryz.pinned.checked.prog=true:=by kernel_rfl
theorem kMaps:mapsRowed Tryz.pinned.checked.prog=true:=by kernel_rfl
end Go.Proofs.YtaickbhifenbjaaGreat.LawMay
namespace Go.Proofs.YtaickbhifenbjaaGreat.LawMay
open Go.ChangeShapes Go.WideShapes Go.ChangeAt Go.RowKit
theorem kMay:Tryz.pinned.checked.prog.mayEnter=true:=by kernel_rfl
end Go.Proofs.YtaickbhifenbjaaGreat.LawMay
