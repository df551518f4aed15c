import Derived.Test.YthldiefbpemoaaaGreatChecked
import Derived.Test.YthldiefbpemoaaaGreatRows
import Derived.ProofKit
import Derived.OpenShut
namespace Go.Proofs.YthldiefbpemoaaaGreat.LawAskOk
open Go.ChangeShapes Go.WideShapes Go.ChangeAt Go.RowKit
theorem kInPlace : (Rows.fnExactGateAskOkRow.inPlace == Tryz.pinned.checked.prog.inPlace 3) = true := by kernel_rfl
theorem kUnfol : (Rows.fnExactGateAskOkRow.unfollowed == Tryz.pinned.checked.prog.unfollowed 3) = true := by kernel_rfl
end Go.Proofs.YthldiefbpemoaaaGreat.LawAskOk

namespace Go.Proofs.YthldiefbpemoaaaGreat.LawAskOk
open Go.ChangeShapes Go.WideShapes Go.ChangeAt Go.RowKit
theorem kRecur : (Rows.fnExactGateAskOkRow.recurses == Tryz.pinned.checked.prog.recurses 3) = true := by kernel_rfl
theorem kNamed : (Rows.fnExactGateAskOkRow.named == Tryz.pinned.checked.prog.varsNamed 3) = true := by kernel_rfl
end Go.Proofs.YthldiefbpemoaaaGreat.LawAskOk

namespace Go.Proofs.YthldiefbpemoaaaGreat.LawAskOk
open Go.ChangeShapes Go.WideShapes Go.ChangeAt Go.RowKit
theorem kLaid : laidOutB Tryz.pinned.checked.prog = true := by kernel_rfl
theorem kMaps : mapsRowed Tryz.pinned.checked.prog = true := by kernel_rfl
end Go.Proofs.YthldiefbpemoaaaGreat.LawAskOk
