/-
  DERIVED. GIVEN WITH THE SEED: THE CARDS: each row of YtnacbdhibmaefaaGreatDoorRows.lean that lists a variable, with what it lists TIED to the program's text (the seventh form; the later family's looks); each row that meets fmt, with fmt's text TOLD by the authors' own Lean function (tested against real Go, not proved from fmt's source: count such statements apart). THE CARD IS WHAT COUNTS. Prove the row's statement (the work); the ties are given (YtnacbdhibmaefaaGreatDoorTie.lean); close each card by the builder's one call (the guide's Derived/Test/ToyasCard.lean, 'card_holds'). Laid BY PROGRAM, IN A SANDBOX (cutbox-door.mjs). By AI agents, Wed Nov 11 2026. No macro, syntax, notation, axiom, sorry.
-/
import Derived.Test.YtnacbdhibmaefaaGreatDoorRows
import GoSem.ClaimSeven
namespace Go.Proofs.YtnacbdhibmaefaaGreatDoor
namespace Rows

/-- THE TIED CARD OF 'laws.FnExactGateTurned'. -/
def fnExactGateTurnedCard : Claim7 := { stood := { row := fnExactGateTurnedRow, standIns := [], harness := (true, "b3731a511040829421859fcf51cea10e8048408941492a63c6511626bda21bce"), looks := true }, kinds := [], alts := [], laidByText := true, laidKinds := [.handle], laidTests := true, laidLooks := .later }
def FnExactGateTurnedCardSaid : Prop := Claim7.holds Tryz.pinned (.plain (OpenSpec.ofChange fnExactGateTurnedSpec)) fnExactGateTurnedCard

/-- THE SECOND FORM's CARD OF 'laws.FnExactGateTurned'. -/
def fnExactGateTurnedUptoCard : Claim7 := { stood := { row := fnExactGateTurnedUptoRow, standIns := [], harness := (true, "b3731a511040829421859fcf51cea10e8048408941492a63c6511626bda21bce"), looks := true }, kinds := [], alts := [], laidByText := true, laidKinds := [.handle], laidTests := true, laidLooks := .later }
def FnExactGateTurnedUptoCardSaid : Prop := Claim7.holds Tryz.pinned (.plain (OpenSpec.upto fnExactGateTurnedSpec)) fnExactGateTurnedUptoCard
end Rows
end Go.Proofs.YtnacbdhibmaefaaGreatDoor
