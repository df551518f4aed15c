import Derived.Test.YtihdafafigceiaaGreatM46
import Derived.Test.YtihdafafigceiaaGreatM47
import Derived.Test.YtihdafafigceiaaGreatM48
import Derived.Test.YtihdafafigceiaaGreatM49
import Derived.Test.YtihdafafigceiaaGreatM50
import Derived.Test.YtihdafafigceiaaGreatRows
import Derived.ProofKit
import Derived.OpenShut
namespace Go.Proofs.YtihdafafigceiaaGreat.LawMark
open Go.ChangeShapes Go.WideShapes Go.ChangeAt Go.RowKit
theorem closed:joinedFacts Tryz.pinned.checked.prog 3 Tryz.f3 Rows.fnExactGateMarkSpec Rows.fnExactGateMarkRow=true:=by
 unfold joinedFacts
 rw [kInPlace,kUnfol,kRecur,kNamed,kLaid,kMaps,kMay,kLifts]
 kernel_rfl
end Go.Proofs.YtihdafafigceiaaGreat.LawMark
