import Derived.Test.YthdfpinbnncghaaGreatChecked
import Derived.Test.YthdfpinbnncghaaGreatRows
import Derived.ProofKit
import Derived.OpenShut
import Derived.Test.YthdfpinbnncghaaGreatM01
namespace Go.Proofs.YthdfpinbnncghaaGreat.LawSafe
open Go.ChangeShapes Go.WideShapes Go.ChangeAt Go.RowKit
theorem kLaid:laidOutB Tryz.pinned.checked.prog=true:=by kernel_rfl
theorem kMaps:mapsRowed Tryz.pinned.checked.prog=true:=by kernel_rfl
end Go.Proofs.YthdfpinbnncghaaGreat.LawSafe
namespace Go.Proofs.YthdfpinbnncghaaGreat.LawSafe
open Go.ChangeShapes Go.WideShapes Go.ChangeAt Go.RowKit
theorem kMay:Tryz.pinned.checked.prog.mayEnter=true:=by kernel_rfl
end Go.Proofs.YthdfpinbnncghaaGreat.LawSafe
namespace Go.Proofs.YthdfpinbnncghaaGreat.LawSafe
open Go.ChangeShapes Go.WideShapes Go.ChangeAt Go.RowKit
theorem kLifts:(Rows.fnExactGateSafeRow.lifted == Tryz.pinned.checked.prog.liftsFinal)=true:=by kernel_rfl
end Go.Proofs.YthdfpinbnncghaaGreat.LawSafe
