import Derived.Test.YtjnpjkigofldlaaGreatM05
namespace Go.Proofs.YtjnpjkigofldlaaGreat.LawSweep
open Go.ChangeShapes Go.WideShapes Go.ChangeAt Go.RowKit
theorem kLaid:laidOutB Tryz.pinned.checked.prog=true:=by kernel_rfl
theorem kMaps:mapsRowed Tryz.pinned.checked.prog=true:=by kernel_rfl
end Go.Proofs.YtjnpjkigofldlaaGreat.LawSweep
namespace Go.Proofs.YtjnpjkigofldlaaGreat.LawSweep
open Go.ChangeShapes Go.WideShapes Go.ChangeAt Go.RowKit
theorem kMay:Tryz.pinned.checked.prog.mayEnter=true:=by kernel_rfl
end Go.Proofs.YtjnpjkigofldlaaGreat.LawSweep
namespace Go.Proofs.YtjnpjkigofldlaaGreat.LawSweep
open Go.ChangeShapes Go.WideShapes Go.ChangeAt Go.RowKit
theorem kLifts:(Rows.fnExactGateSweepRow.lifted == Tryz.pinned.checked.prog.liftsFinal)=true:=by kernel_rfl
end Go.Proofs.YtjnpjkigofldlaaGreat.LawSweep
namespace Go.Proofs.YtjnpjkigofldlaaGreat.LawSweep
open Go.ChangeShapes Go.WideShapes Go.ChangeAt Go.RowKit
theorem closed:joinedFacts Tryz.pinned.checked.prog 3 Tryz.f3 Rows.fnExactGateSweepSpec Rows.fnExactGateSweepRow=true:=by
 unfold joinedFacts;rw[kInPlace,kUnfol,kRecur,kNamed,kLaid,kMaps,kMay,kLifts]
 kernel_rfl
end Go.Proofs.YtjnpjkigofldlaaGreat.LawSweep
