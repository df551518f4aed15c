import Derived.Test.YtfpeplbmfbepcaaGreatChecked
import Derived.Test.YtfpeplbmfbepcaaGreatRows
import Derived.ProofKit
import Derived.OpenShut
import Derived.Test.YtfpeplbmfbepcaaGreatM04
import Derived.Test.YtfpeplbmfbepcaaGreatM02
namespace Go.Proofs.YtfpeplbmfbepcaaGreat.LawGoing
open Go.ChangeShapes Go.WideShapes Go.ChangeAt Go.RowKit
theorem kInPlace : (Rows.fnExactGateGoingRow.inPlace == Tryz.pinned.checked.prog.inPlace 3) = true := by kernel_rfl
theorem kUnfol : (Rows.fnExactGateGoingRow.unfollowed == Tryz.pinned.checked.prog.unfollowed 3) = true := by kernel_rfl
end Go.Proofs.YtfpeplbmfbepcaaGreat.LawGoing

namespace Go.Proofs.YtfpeplbmfbepcaaGreat.LawGoing
open Go.ChangeShapes Go.WideShapes Go.ChangeAt Go.RowKit
theorem closed : joinedFacts Tryz.pinned.checked.prog 3 Tryz.f3 Rows.fnExactGateGoingSpec Rows.fnExactGateGoingRow = true := by
  unfold joinedFacts
  rw [kInPlace, kUnfol, kRecur, kNamed, kLaid, kMaps, kMay, kLifts]
  kernel_rfl
end Go.Proofs.YtfpeplbmfbepcaaGreat.LawGoing
