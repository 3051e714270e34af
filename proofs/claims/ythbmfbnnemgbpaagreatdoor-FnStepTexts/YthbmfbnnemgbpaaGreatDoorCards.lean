/-
  DERIVED. GIVEN WITH THE SEED: THE CARDS: each row of YthbmfbnnemgbpaaGreatDoorRows.lean that lists a variable, with what it lists TIED to the program's text (the seventh form; the later family's looks); each row that meets fmt, with fmt's text TOLD by the authors' own Lean function (tested against real Go, not proved from fmt's source: count such statements apart). THE CARD IS WHAT COUNTS. Prove the row's statement (the work); the ties are given (YthbmfbnnemgbpaaGreatDoorTie.lean); close each card by the builder's one call (the guide's Derived/Test/ToyasCard.lean, 'card_holds'). Laid BY PROGRAM, IN A SANDBOX (cutbox-door.mjs). By AI agents, Wed Nov 11 2026. No macro, syntax, notation, axiom, sorry.
-/
import Derived.Test.YthbmfbnnemgbpaaGreatDoorRows
import GoSem.ClaimSeven
namespace Go.Proofs.YthbmfbnnemgbpaaGreatDoor
namespace Rows

/-- THE TIED CARD OF 'laws.FnStepTexts'. -/
def fnStepTextsCard : Claim7 := { stood := { row := fnStepTextsRow, standIns := [], harness := (true, "b0828a67a85256594095690e67b717ca5eaa4169442a410b7c0613f0f20b7d8f"), looks := false }, kinds := [], alts := [], laidByText := true, laidKinds := [.data, .data, .data, .sentinel], laidTests := true, laidLooks := .later }
def FnStepTextsCardSaid : Prop := Claim7.holds Tryz.pinned (.plain (OpenSpec.ofChange fnStepTextsSpec)) fnStepTextsCard

/-- THE SECOND FORM's CARD OF 'laws.FnStepTexts'. -/
def fnStepTextsUptoCard : Claim7 := { stood := { row := fnStepTextsUptoRow, standIns := [], harness := (true, "b0828a67a85256594095690e67b717ca5eaa4169442a410b7c0613f0f20b7d8f"), looks := false }, kinds := [], alts := [], laidByText := true, laidKinds := [.data, .data, .data, .sentinel], laidTests := true, laidLooks := .later }
def FnStepTextsUptoCardSaid : Prop := Claim7.holds Tryz.pinned (.plain (OpenSpec.upto fnStepTextsSpec)) fnStepTextsUptoCard
end Rows
end Go.Proofs.YthbmfbnnemgbpaaGreatDoor
