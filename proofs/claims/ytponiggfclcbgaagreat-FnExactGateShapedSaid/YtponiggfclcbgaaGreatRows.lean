/-
  No cell of these rows narrows 'for every input' (looked for: loops, veiled, ifaces, maps, wideKeys, modest, calm, conditions, laid).
  DERIVED. THE GIVEN ROWS OF THIS SEAT. 3 by the template 'for every input the law returns true; each argument reads behind the call as it read before'; 0 by the template 'total and deterministic' (their statements: YtponiggfclcbgaaGreatTotals.lean).
  GIVEN WITH THE SEED: the statements are not yours to turn. If you find one false, say at which input.
  Laid BY PROGRAM, IN A SANDBOX (cutbox-rows.mjs): the forced cells as the released guide's own fill.sh prints them over the translation 696d1f84d95781af… (all of the seat's roots in one cut). By AI agents, Wed Nov 11 2026. No macro, syntax, notation, axiom, sorry.
-/
import Derived.Test.YtponiggfclcbgaaGreatChecked
import GoSem.Claim
import GoSem.ClaimJoined
import GoSem.ClaimMapViews
import Derived.JoinedTies
import Derived.KernelRfl
namespace Go.Proofs.YtponiggfclcbgaaGreat
/- THE CELL 'sum', in the pinned program and in every row, IS THE sha256 OF THE DUMP (.gsa) THAT YtponiggfclcbgaaGreatProg.lean LOADS. Nothing in Lean hashes anything: it is a label: what it is worth is what the hold of that sum in a sandbox is worth. -/
noncomputable def Tryz.pinned : Pinned := { name := "ytponiggfclcbgaagreat", sum := "696d1f84d95781afe371459030f5701d417d36b4139992ad8e7c91c9f86be382", checked := Tryz.checked }
namespace Rows
def none {H : Type} : Left H := { results := [], args := [] }

/-- 'laws.FnExactGateMended': WHATEVER THE INPUT: true; the input reads as it did. -/
def fnExactGateMendedSpec : ChangeSpec := { name := "fnExactGateMended", fn := fun _ => fun
  | [d1, d2, d3] => { results := [.lit (.bool true)], args := [d1, d2, d3] }
  | _ => none }
def fnExactGateMendedRow : OpenClaim := { program := "ytponiggfclcbgaagreat", sum := "696d1f84d95781afe371459030f5701d417d36b4139992ad8e7c91c9f86be382", func := "loop.example/wharfgate/laws.FnExactGateMended", spec := "fnExactGateMended", unfollowed := true, recurses := true, apart := false }
def FnExactGateMendedSaid : Prop := fnExactGateMendedRow.holds Tryz.pinned (OpenSpec.ofChange fnExactGateMendedSpec)

/-- ITS FALSE NEIGHBOUR: 'it returns false'. Refute it at one input. -/
def fnExactGateMendedWrong : ChangeSpec := { name := "fnExactGateMended", fn := fun _ => fun
  | [d1, d2, d3] => { results := [.lit (.bool false)], args := [d1, d2, d3] }
  | _ => none }
def FnExactGateMendedWrongFalsely : Prop := fnExactGateMendedRow.holds Tryz.pinned (OpenSpec.ofChange fnExactGateMendedWrong)

/-- 'laws.FnExactGateShaped': WHATEVER THE INPUT: true; the input reads as it did. -/
def fnExactGateShapedSpec : ChangeSpec := { name := "fnExactGateShaped", fn := fun _ => fun
  | [d1, d2, d3] => { results := [.lit (.bool true)], args := [d1, d2, d3] }
  | _ => none }
def fnExactGateShapedRow : OpenClaim := { program := "ytponiggfclcbgaagreat", sum := "696d1f84d95781afe371459030f5701d417d36b4139992ad8e7c91c9f86be382", func := "loop.example/wharfgate/laws.FnExactGateShaped", spec := "fnExactGateShaped", unfollowed := true, recurses := true, apart := false }
def FnExactGateShapedSaid : Prop := fnExactGateShapedRow.holds Tryz.pinned (OpenSpec.ofChange fnExactGateShapedSpec)

/-- ITS FALSE NEIGHBOUR: 'it returns false'. Refute it at one input. -/
def fnExactGateShapedWrong : ChangeSpec := { name := "fnExactGateShaped", fn := fun _ => fun
  | [d1, d2, d3] => { results := [.lit (.bool false)], args := [d1, d2, d3] }
  | _ => none }
def FnExactGateShapedWrongFalsely : Prop := fnExactGateShapedRow.holds Tryz.pinned (OpenSpec.ofChange fnExactGateShapedWrong)

/-- 'laws.FnShaped': WHATEVER THE INPUT: true; the input reads as it did. -/
def fnShapedSpec : ChangeSpec := { name := "fnShaped", fn := fun _ => fun
  | [d] => { results := [.lit (.bool true)], args := [d] }
  | _ => none }
def fnShapedRow : OpenClaim := { program := "ytponiggfclcbgaagreat", sum := "696d1f84d95781afe371459030f5701d417d36b4139992ad8e7c91c9f86be382", func := "loop.example/wharfgate/laws.FnShaped", spec := "fnShaped", unfollowed := true, recurses := true, apart := false }
def FnShapedSaid : Prop := fnShapedRow.holds Tryz.pinned (OpenSpec.ofChange fnShapedSpec)

/-- ITS FALSE NEIGHBOUR: 'it returns false'. Refute it at one input. -/
def fnShapedWrong : ChangeSpec := { name := "fnShaped", fn := fun _ => fun
  | [d] => { results := [.lit (.bool false)], args := [d] }
  | _ => none }
def FnShapedWrongFalsely : Prop := fnShapedRow.holds Tryz.pinned (OpenSpec.ofChange fnShapedWrong)

/- THE SECOND FORM. 'bulk': how many values and letters a reading holds, each counted each time it is reached (what is shared counts as often as it is met; a slice's spare places count too). A statement '..UptoSaid' is the law's where the arguments, and the package variables that the reading takes, are together of bulk at most 1048576: NARROWER than '..Said'. Prove '..Said' where nothing that the law and all that it calls make is longer than what came in: it says more and counts as full. Else prove '..UptoSaid'. A law counts once. -/
mutual
def uptoBulk {H : Type} : DataW H → Nat
  | .lit (.string bytes) => bytes.length + 1
  | .lit _ => 1
  | .nil => 1
  | .ptr d => uptoBulk d + 1
  | .slice elems spare => uptoBulkAll elems + uptoBulkAll spare + 1
  | .agg parts => uptoBulkAll parts + 1
  | .iface _ d => uptoBulk d + 1
  | .map entries => uptoBulkEntries entries + 1
  | .held _ => 1
def uptoBulkAll {H : Type} : List (DataW H) → Nat
  | [] => 0
  | d :: r => uptoBulk d + uptoBulkAll r
def uptoBulkEntries {H : Type} : List (Lit × DataW H) → Nat
  | [] => 0
  | x :: r => uptoBulkEntry x + uptoBulkEntries r
def uptoBulkEntry {H : Type} : Lit × DataW H → Nat
  | (.string bytes, d) => bytes.length + uptoBulk d + 1
  | (_, d) => uptoBulk d + 1
 end
def uptoSmall : (H : Type) → List (DataW H) → Bool := fun _ ds => decide (uptoBulkAll ds ≤ 1048576)
def OpenSpec.upto (s : _root_.Go.ChangeSpec) : _root_.Go.OpenSpec := { _root_.Go.OpenSpec.ofChange s with cond := some uptoSmall }

/-- 'laws.FnExactGateMended', WHERE WHAT IT READS IS OF BULK AT MOST 1048576: true; the input reads as it did. -/
def fnExactGateMendedUptoRow : OpenClaim := { program := "ytponiggfclcbgaagreat", sum := "696d1f84d95781afe371459030f5701d417d36b4139992ad8e7c91c9f86be382", func := "loop.example/wharfgate/laws.FnExactGateMended", spec := "fnExactGateMended", unfollowed := true, recurses := true, apart := false, narrowed := true }
def FnExactGateMendedUptoSaid : Prop := fnExactGateMendedUptoRow.holds Tryz.pinned (OpenSpec.upto fnExactGateMendedSpec)

/-- 'laws.FnExactGateShaped', WHERE WHAT IT READS IS OF BULK AT MOST 1048576: true; the input reads as it did. -/
def fnExactGateShapedUptoRow : OpenClaim := { program := "ytponiggfclcbgaagreat", sum := "696d1f84d95781afe371459030f5701d417d36b4139992ad8e7c91c9f86be382", func := "loop.example/wharfgate/laws.FnExactGateShaped", spec := "fnExactGateShaped", unfollowed := true, recurses := true, apart := false, narrowed := true }
def FnExactGateShapedUptoSaid : Prop := fnExactGateShapedUptoRow.holds Tryz.pinned (OpenSpec.upto fnExactGateShapedSpec)

/-- 'laws.FnShaped', WHERE WHAT IT READS IS OF BULK AT MOST 1048576: true; the input reads as it did. -/
def fnShapedUptoRow : OpenClaim := { program := "ytponiggfclcbgaagreat", sum := "696d1f84d95781afe371459030f5701d417d36b4139992ad8e7c91c9f86be382", func := "loop.example/wharfgate/laws.FnShaped", spec := "fnShaped", unfollowed := true, recurses := true, apart := false, narrowed := true }
def FnShapedUptoSaid : Prop := fnShapedUptoRow.holds Tryz.pinned (OpenSpec.upto fnShapedSpec)

end Rows
end Go.Proofs.YtponiggfclcbgaaGreat
