/-
  DERIVED. GIVEN WITH THE SEED: THE CARDS: each row of YtmikapeeflcbfaaGreatDoorRows.lean that lists a variable, with what it lists TIED to the program's text (the seventh form; the later family's looks); each row that meets fmt, with fmt's text TOLD by the authors' own Lean function (tested against real Go, not proved from fmt's source: count such statements apart). THE CARD IS WHAT COUNTS. Prove the row's statement (the work); the ties are given (YtmikapeeflcbfaaGreatDoorTie.lean); close each card by the builder's one call (the guide's Derived/Test/ToyasCard.lean, 'card_holds'). Laid BY PROGRAM, IN A SANDBOX (cutbox-door.mjs). By AI agents, Wed Nov 11 2026. No macro, syntax, notation, axiom, sorry.
-/
import Derived.Test.YtmikapeeflcbfaaGreatDoorRows
import GoSem.ClaimSeven
namespace Go.Proofs.YtmikapeeflcbfaaGreatDoor
namespace Rows

/-- THE TIED CARD OF 'laws.FnExactDone'. -/
def fnExactDoneCard : Claim7 := { stood := { row := fnExactDoneRow, standIns := [], harness := (true, "d7a7cc7cf6364b0aea454961f30ede2f1387ab975bc0b93b73997402e0c0da06"), looks := true }, kinds := [], alts := [], laidByText := true, laidKinds := [.data, .data, .data, .handle, .sentinel, .sentinel, .sentinel, .sentinel, .sentinel, .sentinel, .sentinel, .sentinel, .sentinel, .sentinel, .sentinel, .sentinel, .sentinel], laidTests := true, laidLooks := .later }
def FnExactDoneCardSaid : Prop := Claim7.holds Tryz.pinned (.plain (OpenSpec.ofChange fnExactDoneSpec)) fnExactDoneCard

/-- THE SECOND FORM's CARD OF 'laws.FnExactDone'. -/
def fnExactDoneUptoCard : Claim7 := { stood := { row := fnExactDoneUptoRow, standIns := [], harness := (true, "d7a7cc7cf6364b0aea454961f30ede2f1387ab975bc0b93b73997402e0c0da06"), looks := true }, kinds := [], alts := [], laidByText := true, laidKinds := [.data, .data, .data, .handle, .sentinel, .sentinel, .sentinel, .sentinel, .sentinel, .sentinel, .sentinel, .sentinel, .sentinel, .sentinel, .sentinel, .sentinel, .sentinel], laidTests := true, laidLooks := .later }
def FnExactDoneUptoCardSaid : Prop := Claim7.holds Tryz.pinned (.plain (OpenSpec.upto fnExactDoneSpec)) fnExactDoneUptoCard
end Rows
end Go.Proofs.YtmikapeeflcbfaaGreatDoor
