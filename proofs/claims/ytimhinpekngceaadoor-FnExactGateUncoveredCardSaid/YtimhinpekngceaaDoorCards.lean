/-
  DERIVED. GIVEN WITH THE SEED: THE CARDS: each row of YtimhinpekngceaaDoorRows.lean that lists a variable, with what it lists TIED to the program's text (the seventh form; the later family's looks); each row that meets fmt, with fmt's text TOLD by the authors' own Lean function (tested against real Go, not proved from fmt's source: count such statements apart). THE CARD IS WHAT COUNTS. Prove the row's statement (the work); the ties are given (YtimhinpekngceaaDoorTie.lean); close each card by the builder's one call (the guide's Derived/Test/ToyasCard.lean, 'card_holds'). Laid BY PROGRAM, IN A SANDBOX (cutbox-door.mjs). By AI agents, Wed Nov 11 2026. No macro, syntax, notation, axiom, sorry.
-/
import Derived.Test.YtimhinpekngceaaDoorRows
import GoSem.ClaimSeven
namespace Go.Proofs.YtimhinpekngceaaDoor
namespace Rows

/-- THE TIED CARD OF 'laws.FnExactGateUncovered'. -/
def fnExactGateUncoveredCard : Claim7 := { stood := { row := fnExactGateUncoveredRow, standIns := [], harness := (true, "e6e7615be1d0e8c40ce080bc25c6175fb4b09b4a04ddcf7f793093dce1ee7252"), looks := false }, kinds := [], alts := [], laidByText := true, laidKinds := [.data, .data, .data], laidTests := true, laidLooks := .later }
def FnExactGateUncoveredCardSaid : Prop := Claim7.holds Tryd.pinned (.plain (OpenSpec.ofChange fnExactGateUncoveredSpec)) fnExactGateUncoveredCard

/-- THE TIED CARD OF 'laws.FnCovers'. -/
def fnCoversCard : Claim7 := { stood := { row := fnCoversRow, standIns := [], harness := (true, "e6e7615be1d0e8c40ce080bc25c6175fb4b09b4a04ddcf7f793093dce1ee7252"), looks := false }, kinds := [], alts := [], laidByText := true, laidKinds := [.data, .data, .data], laidTests := true, laidLooks := .later }
def FnCoversCardSaid : Prop := Claim7.holds Tryd.pinned (.plain (OpenSpec.ofChange fnCoversSpec)) fnCoversCard

/-- THE SECOND FORM's CARD OF 'laws.FnExactGateUncovered'. -/
def fnExactGateUncoveredUptoCard : Claim7 := { stood := { row := fnExactGateUncoveredUptoRow, standIns := [], harness := (true, "e6e7615be1d0e8c40ce080bc25c6175fb4b09b4a04ddcf7f793093dce1ee7252"), looks := false }, kinds := [], alts := [], laidByText := true, laidKinds := [.data, .data, .data], laidTests := true, laidLooks := .later }
def FnExactGateUncoveredUptoCardSaid : Prop := Claim7.holds Tryd.pinned (.plain (OpenSpec.upto fnExactGateUncoveredSpec)) fnExactGateUncoveredUptoCard

/-- THE SECOND FORM's CARD OF 'laws.FnCovers'. -/
def fnCoversUptoCard : Claim7 := { stood := { row := fnCoversUptoRow, standIns := [], harness := (true, "e6e7615be1d0e8c40ce080bc25c6175fb4b09b4a04ddcf7f793093dce1ee7252"), looks := false }, kinds := [], alts := [], laidByText := true, laidKinds := [.data, .data, .data], laidTests := true, laidLooks := .later }
def FnCoversUptoCardSaid : Prop := Claim7.holds Tryd.pinned (.plain (OpenSpec.upto fnCoversSpec)) fnCoversUptoCard
end Rows
end Go.Proofs.YtimhinpekngceaaDoor
