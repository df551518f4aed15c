import Derived.Test.YtfapkhgallmkdaaGreatChecked
import Derived.Test.YtfapkhgallmkdaaGreatRows
import Derived.ProofKit
import Derived.OpenShut
namespace Go.Proofs.YtfapkhgallmkdaaGreat.LawMay
open Go.ChangeShapes Go.WideShapes Go.ChangeAt Go.RowKit
theorem kInPlace : (Rows.fnExactGateMayRow.inPlace == Tryz.pinned.checked.prog.inPlace 3) = true := by kernel_rfl
theorem kUnfol : (Rows.fnExactGateMayRow.unfollowed == Tryz.pinned.checked.prog.unfollowed 3) = true := by kernel_rfl
end Go.Proofs.YtfapkhgallmkdaaGreat.LawMay
