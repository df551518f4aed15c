/-
  No cell of these rows narrows 'for every input' (looked for: loops, veiled, ifaces, maps, wideKeys, modest, calm, conditions, laid).
  DERIVED. THE GIVEN ROWS OF THIS SEAT. 4 by the template 'for every input the law returns true; each argument reads behind the call as it read before'; 0 by the template 'total and deterministic' (their statements: YtbefjngbilakjaaTotals.lean).
  GIVEN WITH THE SEED: the statements are not yours to turn. If you find one false, say at which input.
  Laid BY PROGRAM, IN A SANDBOX (cutbox-rows.mjs): the forced cells as the released guide's own fill.sh prints them over the translation 3a4a5e3134e9cf7b… (all of the seat's roots in one cut). By AI agents, Wed Nov 11 2026. No macro, syntax, notation, axiom, sorry.
-/
import Derived.Test.YtbefjngbilakjaaChecked
import GoSem.Claim
import GoSem.ClaimJoined
import GoSem.ClaimMapViews
import Derived.JoinedTies
import Derived.KernelRfl
namespace Go.Proofs.Ytbefjngbilakjaa
/- THE CELL 'sum', in the pinned program and in every row, IS THE sha256 OF THE DUMP (.gsa) THAT YtbefjngbilakjaaProg.lean LOADS. Nothing in Lean hashes anything: it is a label: what it is worth is what the hold of that sum in a sandbox is worth. -/
noncomputable def Try.pinned : Pinned := { name := "ytbefjngbilakjaa", sum := "3a4a5e3134e9cf7be560322f23a9e3c0e46fa8eeeccd2949fcdcdca34873a23c", checked := Try.checked }
namespace Rows
def none {H : Type} : Left H := { results := [], args := [] }

/-- 'laws.FnExactGateFits': WHATEVER THE INPUT: true; the input reads as it did. -/
def fnExactGateFitsSpec : ChangeSpec := { name := "fnExactGateFits", fn := fun _ => fun
  | [d1, d2] => { results := [.lit (.bool true)], args := [d1, d2] }
  | _ => none }
def fnExactGateFitsRow : OpenClaim := { program := "ytbefjngbilakjaa", sum := "3a4a5e3134e9cf7be560322f23a9e3c0e46fa8eeeccd2949fcdcdca34873a23c", func := "loop.example/wharfgate/laws.FnExactGateFits", spec := "fnExactGateFits", unfollowed := true, recurses := true, apart := false }
def FnExactGateFitsSaid : Prop := fnExactGateFitsRow.holds Try.pinned (OpenSpec.ofChange fnExactGateFitsSpec)

/-- ITS FALSE NEIGHBOUR: 'it returns false'. Refute it at one input. -/
def fnExactGateFitsWrong : ChangeSpec := { name := "fnExactGateFits", fn := fun _ => fun
  | [d1, d2] => { results := [.lit (.bool false)], args := [d1, d2] }
  | _ => none }
def FnExactGateFitsWrongFalsely : Prop := fnExactGateFitsRow.holds Try.pinned (OpenSpec.ofChange fnExactGateFitsWrong)

/-- 'laws.FnExactGateShapesOk': WHATEVER THE INPUT: true; the input reads as it did. -/
def fnExactGateShapesOkSpec : ChangeSpec := { name := "fnExactGateShapesOk", fn := fun _ => fun
  | [d] => { results := [.lit (.bool true)], args := [d] }
  | _ => none }
def fnExactGateShapesOkRow : OpenClaim := { program := "ytbefjngbilakjaa", sum := "3a4a5e3134e9cf7be560322f23a9e3c0e46fa8eeeccd2949fcdcdca34873a23c", func := "loop.example/wharfgate/laws.FnExactGateShapesOk", spec := "fnExactGateShapesOk", unfollowed := true, recurses := true, apart := false }
def FnExactGateShapesOkSaid : Prop := fnExactGateShapesOkRow.holds Try.pinned (OpenSpec.ofChange fnExactGateShapesOkSpec)

/-- ITS FALSE NEIGHBOUR: 'it returns false'. Refute it at one input. -/
def fnExactGateShapesOkWrong : ChangeSpec := { name := "fnExactGateShapesOk", fn := fun _ => fun
  | [d] => { results := [.lit (.bool false)], args := [d] }
  | _ => none }
def FnExactGateShapesOkWrongFalsely : Prop := fnExactGateShapesOkRow.holds Try.pinned (OpenSpec.ofChange fnExactGateShapesOkWrong)

/-- 'laws.FnExactGateFill': WHATEVER THE INPUT: true; the input reads as it did. -/
def fnExactGateFillSpec : ChangeSpec := { name := "fnExactGateFill", fn := fun _ => fun
  | [d1, d2] => { results := [.lit (.bool true)], args := [d1, d2] }
  | _ => none }
def fnExactGateFillRow : OpenClaim := { program := "ytbefjngbilakjaa", sum := "3a4a5e3134e9cf7be560322f23a9e3c0e46fa8eeeccd2949fcdcdca34873a23c", func := "loop.example/wharfgate/laws.FnExactGateFill", spec := "fnExactGateFill", unfollowed := true, recurses := true, apart := false }
def FnExactGateFillSaid : Prop := fnExactGateFillRow.holds Try.pinned (OpenSpec.ofChange fnExactGateFillSpec)

/-- ITS FALSE NEIGHBOUR: 'it returns false'. Refute it at one input. -/
def fnExactGateFillWrong : ChangeSpec := { name := "fnExactGateFill", fn := fun _ => fun
  | [d1, d2] => { results := [.lit (.bool false)], args := [d1, d2] }
  | _ => none }
def FnExactGateFillWrongFalsely : Prop := fnExactGateFillRow.holds Try.pinned (OpenSpec.ofChange fnExactGateFillWrong)

/-- 'laws.FnExactGateMendsOk': WHATEVER THE INPUT: true; the input reads as it did. -/
def fnExactGateMendsOkSpec : ChangeSpec := { name := "fnExactGateMendsOk", fn := fun _ => fun
  | [d1, d2] => { results := [.lit (.bool true)], args := [d1, d2] }
  | _ => none }
def fnExactGateMendsOkRow : OpenClaim := { program := "ytbefjngbilakjaa", sum := "3a4a5e3134e9cf7be560322f23a9e3c0e46fa8eeeccd2949fcdcdca34873a23c", func := "loop.example/wharfgate/laws.FnExactGateMendsOk", spec := "fnExactGateMendsOk", unfollowed := true, recurses := true, apart := false }
def FnExactGateMendsOkSaid : Prop := fnExactGateMendsOkRow.holds Try.pinned (OpenSpec.ofChange fnExactGateMendsOkSpec)

/-- ITS FALSE NEIGHBOUR: 'it returns false'. Refute it at one input. -/
def fnExactGateMendsOkWrong : ChangeSpec := { name := "fnExactGateMendsOk", fn := fun _ => fun
  | [d1, d2] => { results := [.lit (.bool false)], args := [d1, d2] }
  | _ => none }
def FnExactGateMendsOkWrongFalsely : Prop := fnExactGateMendsOkRow.holds Try.pinned (OpenSpec.ofChange fnExactGateMendsOkWrong)

/- THE SECOND FORM. 'bulk': how many values and letters a reading holds, each counted each time it is reached (what is shared counts as often as it is met; a slice's spare places count too). A statement '..UptoSaid' is the law's where the arguments, and the package variables that the reading takes, are together of bulk at most 1048576: NARROWER than '..Said'. Prove '..Said' where nothing that the law and all that it calls make is longer than what came in: it says more and counts as full. Else prove '..UptoSaid'. A law counts once. -/
mutual
def uptoBulk {H : Type} : DataW H → Nat
  | .lit (.string bytes) => bytes.length + 1
  | .lit _ => 1
  | .nil => 1
  | .ptr d => uptoBulk d + 1
  | .slice elems spare => uptoBulkAll elems + uptoBulkAll spare + 1
  | .agg parts => uptoBulkAll parts + 1
  | .iface _ d => uptoBulk d + 1
  | .map entries => uptoBulkEntries entries + 1
  | .held _ => 1
def uptoBulkAll {H : Type} : List (DataW H) → Nat
  | [] => 0
  | d :: r => uptoBulk d + uptoBulkAll r
def uptoBulkEntries {H : Type} : List (Lit × DataW H) → Nat
  | [] => 0
  | x :: r => uptoBulkEntry x + uptoBulkEntries r
def uptoBulkEntry {H : Type} : Lit × DataW H → Nat
  | (.string bytes, d) => bytes.length + uptoBulk d + 1
  | (_, d) => uptoBulk d + 1
 end
def uptoSmall : (H : Type) → List (DataW H) → Bool := fun _ ds => decide (uptoBulkAll ds ≤ 1048576)
def OpenSpec.upto (s : _root_.Go.ChangeSpec) : _root_.Go.OpenSpec := { _root_.Go.OpenSpec.ofChange s with cond := some uptoSmall }

/-- 'laws.FnExactGateFits', WHERE WHAT IT READS IS OF BULK AT MOST 1048576: true; the input reads as it did. -/
def fnExactGateFitsUptoRow : OpenClaim := { program := "ytbefjngbilakjaa", sum := "3a4a5e3134e9cf7be560322f23a9e3c0e46fa8eeeccd2949fcdcdca34873a23c", func := "loop.example/wharfgate/laws.FnExactGateFits", spec := "fnExactGateFits", unfollowed := true, recurses := true, apart := false, narrowed := true }
def FnExactGateFitsUptoSaid : Prop := fnExactGateFitsUptoRow.holds Try.pinned (OpenSpec.upto fnExactGateFitsSpec)

/-- 'laws.FnExactGateShapesOk', WHERE WHAT IT READS IS OF BULK AT MOST 1048576: true; the input reads as it did. -/
def fnExactGateShapesOkUptoRow : OpenClaim := { program := "ytbefjngbilakjaa", sum := "3a4a5e3134e9cf7be560322f23a9e3c0e46fa8eeeccd2949fcdcdca34873a23c", func := "loop.example/wharfgate/laws.FnExactGateShapesOk", spec := "fnExactGateShapesOk", unfollowed := true, recurses := true, apart := false, narrowed := true }
def FnExactGateShapesOkUptoSaid : Prop := fnExactGateShapesOkUptoRow.holds Try.pinned (OpenSpec.upto fnExactGateShapesOkSpec)

/-- 'laws.FnExactGateFill', WHERE WHAT IT READS IS OF BULK AT MOST 1048576: true; the input reads as it did. -/
def fnExactGateFillUptoRow : OpenClaim := { program := "ytbefjngbilakjaa", sum := "3a4a5e3134e9cf7be560322f23a9e3c0e46fa8eeeccd2949fcdcdca34873a23c", func := "loop.example/wharfgate/laws.FnExactGateFill", spec := "fnExactGateFill", unfollowed := true, recurses := true, apart := false, narrowed := true }
def FnExactGateFillUptoSaid : Prop := fnExactGateFillUptoRow.holds Try.pinned (OpenSpec.upto fnExactGateFillSpec)

/-- 'laws.FnExactGateMendsOk', WHERE WHAT IT READS IS OF BULK AT MOST 1048576: true; the input reads as it did. -/
def fnExactGateMendsOkUptoRow : OpenClaim := { program := "ytbefjngbilakjaa", sum := "3a4a5e3134e9cf7be560322f23a9e3c0e46fa8eeeccd2949fcdcdca34873a23c", func := "loop.example/wharfgate/laws.FnExactGateMendsOk", spec := "fnExactGateMendsOk", unfollowed := true, recurses := true, apart := false, narrowed := true }
def FnExactGateMendsOkUptoSaid : Prop := fnExactGateMendsOkUptoRow.holds Try.pinned (OpenSpec.upto fnExactGateMendsOkSpec)

end Rows
end Go.Proofs.Ytbefjngbilakjaa
