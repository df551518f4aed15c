import Derived.Test.YtfapkhgallmkdaaGreatChecked
import Derived.Test.YtfapkhgallmkdaaGreatRows
import Derived.ProofKit
import Derived.OpenShut
namespace Go.Proofs.YtfapkhgallmkdaaGreat.LawMay
open Go.ChangeShapes Go.WideShapes Go.ChangeAt Go.RowKit
theorem kRecur : (Rows.fnExactGateMayRow.recurses == Tryz.pinned.checked.prog.recurses 3) = true := by kernel_rfl
theorem kNamed : (Rows.fnExactGateMayRow.named == Tryz.pinned.checked.prog.varsNamed 3) = true := by kernel_rfl
end Go.Proofs.YtfapkhgallmkdaaGreat.LawMay
