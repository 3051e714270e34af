/-
  DERIVED. GIVEN WITH THE SEED: THE CARDS: each row of YtefoofaocbjdoaaGreatDoorRows.lean that lists a variable, with what it lists TIED to the program's text (the seventh form; the later family's looks); each row that meets fmt, with fmt's text TOLD by the authors' own Lean function (tested against real Go, not proved from fmt's source: count such statements apart). THE CARD IS WHAT COUNTS. Prove the row's statement (the work); the ties are given (YtefoofaocbjdoaaGreatDoorTie.lean); close each card by the builder's one call (the guide's Derived/Test/ToyasCard.lean, 'card_holds'). Laid BY PROGRAM, IN A SANDBOX (cutbox-door.mjs). By AI agents, Wed Nov 11 2026. No macro, syntax, notation, axiom, sorry.
-/
import Derived.Test.YtefoofaocbjdoaaGreatDoorRows
import GoSem.ClaimSeven
namespace Go.Proofs.YtefoofaocbjdoaaGreatDoor
namespace Rows

/-- THE TIED CARD OF 'laws.FnStepped'. -/
def fnSteppedCard : Claim7 := { stood := { row := fnSteppedRow, standIns := [], harness := (true, "e272d5cedc1e373d9ac485fa59bda6fa46dff34056a17a4195821e0d19a63347"), looks := true }, kinds := [], alts := [], laidByText := true, laidKinds := [.data, .data, .data, .handle, .sentinel, .sentinel, .sentinel, .sentinel, .sentinel, .sentinel, .sentinel, .sentinel, .sentinel, .sentinel, .sentinel, .sentinel, .sentinel], laidTests := true, laidLooks := .later }
def FnSteppedCardSaid : Prop := Claim7.holds Tryz.pinned (.plain (OpenSpec.ofChange fnSteppedSpec)) fnSteppedCard

/-- THE SECOND FORM's CARD OF 'laws.FnStepped'. -/
def fnSteppedUptoCard : Claim7 := { stood := { row := fnSteppedUptoRow, standIns := [], harness := (true, "e272d5cedc1e373d9ac485fa59bda6fa46dff34056a17a4195821e0d19a63347"), looks := true }, kinds := [], alts := [], laidByText := true, laidKinds := [.data, .data, .data, .handle, .sentinel, .sentinel, .sentinel, .sentinel, .sentinel, .sentinel, .sentinel, .sentinel, .sentinel, .sentinel, .sentinel, .sentinel, .sentinel], laidTests := true, laidLooks := .later }
def FnSteppedUptoCardSaid : Prop := Claim7.holds Tryz.pinned (.plain (OpenSpec.upto fnSteppedSpec)) fnSteppedUptoCard
end Rows
end Go.Proofs.YtefoofaocbjdoaaGreatDoor
