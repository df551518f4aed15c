import Derived.Test.YthldiefbpemoaaaGreatChecked
import Derived.Test.YthldiefbpemoaaaGreatRows
import Derived.ProofKit
import Derived.OpenShut
import Derived.Test.YthldiefbpemoaaaGreatM33
namespace Go.Proofs.YthldiefbpemoaaaGreat.LawAskOk
open Go.ChangeShapes Go.WideShapes Go.ChangeAt Go.RowKit
theorem kMay : Tryz.pinned.checked.prog.mayEnter = true := by kernel_rfl
end Go.Proofs.YthldiefbpemoaaaGreat.LawAskOk

namespace Go.Proofs.YthldiefbpemoaaaGreat.LawAskOk
open Go.ChangeShapes Go.WideShapes Go.ChangeAt Go.RowKit
theorem kLifts : (Rows.fnExactGateAskOkRow.lifted == Tryz.pinned.checked.prog.liftsFinal) = true := by kernel_rfl
end Go.Proofs.YthldiefbpemoaaaGreat.LawAskOk

namespace Go.Proofs.YthldiefbpemoaaaGreat.LawAskOk
open Go.ChangeShapes Go.WideShapes Go.ChangeAt Go.RowKit
theorem closed : joinedFacts Tryz.pinned.checked.prog 3 Tryz.f3 Rows.fnExactGateAskOkSpec Rows.fnExactGateAskOkRow = true := by
  unfold joinedFacts
  rw [kInPlace, kUnfol, kRecur, kNamed, kLaid, kMaps, kMay, kLifts]
  kernel_rfl
end Go.Proofs.YthldiefbpemoaaaGreat.LawAskOk
