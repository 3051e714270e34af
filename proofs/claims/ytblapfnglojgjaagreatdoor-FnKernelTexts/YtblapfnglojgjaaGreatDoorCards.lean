/-
  DERIVED. GIVEN WITH THE SEED: THE CARDS: each row of YtblapfnglojgjaaGreatDoorRows.lean that lists a variable, with what it lists TIED to the program's text (the seventh form; the later family's looks); each row that meets fmt, with fmt's text TOLD by the authors' own Lean function (tested against real Go, not proved from fmt's source: count such statements apart). THE CARD IS WHAT COUNTS. Prove the row's statement (the work); the ties are given (YtblapfnglojgjaaGreatDoorTie.lean); close each card by the builder's one call (the guide's Derived/Test/ToyasCard.lean, 'card_holds'). Laid BY PROGRAM, IN A SANDBOX (cutbox-door.mjs). By AI agents, Wed Nov 11 2026. No macro, syntax, notation, axiom, sorry.
-/
import Derived.Test.YtblapfnglojgjaaGreatDoorRows
import GoSem.ClaimSeven
namespace Go.Proofs.YtblapfnglojgjaaGreatDoor
namespace Rows

/-- THE TIED CARD OF 'laws.FnKernelTexts'. -/
def fnKernelTextsCard : Claim7 := { stood := { row := fnKernelTextsRow, standIns := [], harness := (true, "af52927c6b0276876ddf7a33fc0c01c9c5bdcaf85d794acebf15801bd33ba21c"), looks := false }, kinds := [], alts := [], laidByText := true, laidKinds := [.data, .data, .data, .sentinel], laidTests := true, laidLooks := .later }
def FnKernelTextsCardSaid : Prop := Claim7.holds Tryz.pinned (.plain (OpenSpec.ofChange fnKernelTextsSpec)) fnKernelTextsCard

/-- THE SECOND FORM's CARD OF 'laws.FnKernelTexts'. -/
def fnKernelTextsUptoCard : Claim7 := { stood := { row := fnKernelTextsUptoRow, standIns := [], harness := (true, "af52927c6b0276876ddf7a33fc0c01c9c5bdcaf85d794acebf15801bd33ba21c"), looks := false }, kinds := [], alts := [], laidByText := true, laidKinds := [.data, .data, .data, .sentinel], laidTests := true, laidLooks := .later }
def FnKernelTextsUptoCardSaid : Prop := Claim7.holds Tryz.pinned (.plain (OpenSpec.upto fnKernelTextsSpec)) fnKernelTextsUptoCard
end Rows
end Go.Proofs.YtblapfnglojgjaaGreatDoor
