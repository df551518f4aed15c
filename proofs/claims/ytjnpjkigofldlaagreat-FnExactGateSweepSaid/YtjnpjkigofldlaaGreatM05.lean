import Derived.Test.YtjnpjkigofldlaaGreatChecked
import Derived.Test.YtjnpjkigofldlaaGreatRows
import Derived.OpenShut
import Derived.Test.YtjnpjkigofldlaaGreatM01
namespace Go.Proofs.YtjnpjkigofldlaaGreat.LawSweep
open Go.ChangeShapes Go.WideShapes Go.ChangeAt Go.RowKit
theorem kInPlace:(Rows.fnExactGateSweepRow.inPlace == Tryz.pinned.checked.prog.inPlace 3)=true:=by kernel_rfl
theorem kUnfol:(Rows.fnExactGateSweepRow.unfollowed == Tryz.pinned.checked.prog.unfollowed 3)=true:=by kernel_rfl
end Go.Proofs.YtjnpjkigofldlaaGreat.LawSweep
namespace Go.Proofs.YtjnpjkigofldlaaGreat.LawSweep
open Go.ChangeShapes Go.WideShapes Go.ChangeAt Go.RowKit
theorem kRecur:(Rows.fnExactGateSweepRow.recurses == Tryz.pinned.checked.prog.recurses 3)=true:=by kernel_rfl
theorem kNamed:(Rows.fnExactGateSweepRow.named == Tryz.pinned.checked.prog.varsNamed 3)=true:=by kernel_rfl
end Go.Proofs.YtjnpjkigofldlaaGreat.LawSweep
