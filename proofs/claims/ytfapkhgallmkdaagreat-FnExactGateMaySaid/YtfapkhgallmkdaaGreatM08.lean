import Derived.Test.YtfapkhgallmkdaaGreatChecked
import Derived.Test.YtfapkhgallmkdaaGreatRows
import Derived.ProofKit
import Derived.OpenShut
import Derived.Test.YtfapkhgallmkdaaGreatM02
import Derived.Test.YtfapkhgallmkdaaGreatM03
namespace Go.Proofs.YtfapkhgallmkdaaGreat.LawMay
open Go.ChangeShapes Go.WideShapes Go.ChangeAt Go.RowKit
theorem kLaid : laidOutB Tryz.pinned.checked.prog = true := by kernel_rfl
theorem kMaps : mapsRowed Tryz.pinned.checked.prog = true := by kernel_rfl
end Go.Proofs.YtfapkhgallmkdaaGreat.LawMay

namespace Go.Proofs.YtfapkhgallmkdaaGreat.LawMay
open Go.ChangeShapes Go.WideShapes Go.ChangeAt Go.RowKit
theorem kMay : Tryz.pinned.checked.prog.mayEnter = true := by kernel_rfl
end Go.Proofs.YtfapkhgallmkdaaGreat.LawMay

namespace Go.Proofs.YtfapkhgallmkdaaGreat.LawMay
open Go.ChangeShapes Go.WideShapes Go.ChangeAt Go.RowKit
theorem kLifts : (Rows.fnExactGateMayRow.lifted == Tryz.pinned.checked.prog.liftsFinal) = true := by kernel_rfl
end Go.Proofs.YtfapkhgallmkdaaGreat.LawMay

namespace Go.Proofs.YtfapkhgallmkdaaGreat.LawMay
open Go.ChangeShapes Go.WideShapes Go.ChangeAt Go.RowKit
theorem closed : joinedFacts Tryz.pinned.checked.prog 3 Tryz.f3 Rows.fnExactGateMaySpec Rows.fnExactGateMayRow = true := by
  unfold joinedFacts
  rw [kInPlace, kUnfol, kRecur, kNamed, kLaid, kMaps, kMay, kLifts]
  kernel_rfl
end Go.Proofs.YtfapkhgallmkdaaGreat.LawMay
