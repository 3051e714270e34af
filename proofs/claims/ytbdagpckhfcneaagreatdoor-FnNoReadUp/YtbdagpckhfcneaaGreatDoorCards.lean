/-
  DERIVED. GIVEN WITH THE SEED: THE CARDS: each row of YtbdagpckhfcneaaGreatDoorRows.lean that lists a variable, with what it lists TIED to the program's text (the seventh form; the later family's looks); each row that meets fmt, with fmt's text TOLD by the authors' own Lean function (tested against real Go, not proved from fmt's source: count such statements apart). THE CARD IS WHAT COUNTS. Prove the row's statement (the work); the ties are given (YtbdagpckhfcneaaGreatDoorTie.lean); close each card by the builder's one call (the guide's Derived/Test/ToyasCard.lean, 'card_holds'). Laid BY PROGRAM, IN A SANDBOX (cutbox-door.mjs). By AI agents, Wed Nov 11 2026. No macro, syntax, notation, axiom, sorry.
-/
import Derived.Test.YtbdagpckhfcneaaGreatDoorRows
import GoSem.ClaimSeven
namespace Go.Proofs.YtbdagpckhfcneaaGreatDoor
namespace Rows

/-- THE TIED CARD OF 'laws.FnStepped'. -/
def fnSteppedCard : Claim7 := { stood := { row := fnSteppedRow, standIns := [], harness := (true, "4b5666e7aef0a5d60bfe5f3954a0b2f69d1d55e20fb91d06866251831f707f97"), looks := true }, kinds := [], alts := [], laidByText := true, laidKinds := [.data, .data, .data, .handle, .sentinel, .sentinel, .sentinel, .sentinel, .sentinel, .sentinel, .sentinel, .sentinel, .sentinel, .sentinel, .sentinel, .sentinel, .sentinel], laidTests := true, laidLooks := .later }
def FnSteppedCardSaid : Prop := Claim7.holds Tryz.pinned (.plain (OpenSpec.ofChange fnSteppedSpec)) fnSteppedCard

/-- THE TIED CARD OF 'laws.FnMade'. -/
def fnMadeCard : Claim7 := { stood := { row := fnMadeRow, standIns := [], harness := (true, "4b5666e7aef0a5d60bfe5f3954a0b2f69d1d55e20fb91d06866251831f707f97"), looks := true }, kinds := [], alts := [], laidByText := true, laidKinds := [.data, .data, .data, .handle, .sentinel, .sentinel, .sentinel, .sentinel, .sentinel, .sentinel, .sentinel, .sentinel, .sentinel, .sentinel, .sentinel, .sentinel, .sentinel], laidTests := true, laidLooks := .later }
def FnMadeCardSaid : Prop := Claim7.holds Tryz.pinned (.plain (OpenSpec.ofChange fnMadeSpec)) fnMadeCard

/-- THE TIED CARD OF 'laws.FnNoReadUp'. -/
def fnNoReadUpCard : Claim7 := { stood := { row := fnNoReadUpRow, standIns := [], harness := (true, "4b5666e7aef0a5d60bfe5f3954a0b2f69d1d55e20fb91d06866251831f707f97"), looks := true }, kinds := [], alts := [], laidByText := true, laidKinds := [.data, .data, .data, .handle, .sentinel, .sentinel, .sentinel, .sentinel, .sentinel, .sentinel, .sentinel, .sentinel, .sentinel, .sentinel, .sentinel, .sentinel, .sentinel], laidTests := true, laidLooks := .later }
def FnNoReadUpCardSaid : Prop := Claim7.holds Tryz.pinned (.plain (OpenSpec.ofChange fnNoReadUpSpec)) fnNoReadUpCard

/-- THE TIED CARD OF 'laws.FnOwned'. -/
def fnOwnedCard : Claim7 := { stood := { row := fnOwnedRow, standIns := [], harness := (true, "4b5666e7aef0a5d60bfe5f3954a0b2f69d1d55e20fb91d06866251831f707f97"), looks := true }, kinds := [], alts := [], laidByText := true, laidKinds := [.data, .data, .data, .handle, .sentinel, .sentinel, .sentinel, .sentinel, .sentinel, .sentinel, .sentinel, .sentinel, .sentinel, .sentinel, .sentinel, .sentinel, .sentinel], laidTests := true, laidLooks := .later }
def FnOwnedCardSaid : Prop := Claim7.holds Tryz.pinned (.plain (OpenSpec.ofChange fnOwnedSpec)) fnOwnedCard

/-- THE SECOND FORM's CARD OF 'laws.FnStepped'. -/
def fnSteppedUptoCard : Claim7 := { stood := { row := fnSteppedUptoRow, standIns := [], harness := (true, "4b5666e7aef0a5d60bfe5f3954a0b2f69d1d55e20fb91d06866251831f707f97"), looks := true }, kinds := [], alts := [], laidByText := true, laidKinds := [.data, .data, .data, .handle, .sentinel, .sentinel, .sentinel, .sentinel, .sentinel, .sentinel, .sentinel, .sentinel, .sentinel, .sentinel, .sentinel, .sentinel, .sentinel], laidTests := true, laidLooks := .later }
def FnSteppedUptoCardSaid : Prop := Claim7.holds Tryz.pinned (.plain (OpenSpec.upto fnSteppedSpec)) fnSteppedUptoCard

/-- THE SECOND FORM's CARD OF 'laws.FnMade'. -/
def fnMadeUptoCard : Claim7 := { stood := { row := fnMadeUptoRow, standIns := [], harness := (true, "4b5666e7aef0a5d60bfe5f3954a0b2f69d1d55e20fb91d06866251831f707f97"), looks := true }, kinds := [], alts := [], laidByText := true, laidKinds := [.data, .data, .data, .handle, .sentinel, .sentinel, .sentinel, .sentinel, .sentinel, .sentinel, .sentinel, .sentinel, .sentinel, .sentinel, .sentinel, .sentinel, .sentinel], laidTests := true, laidLooks := .later }
def FnMadeUptoCardSaid : Prop := Claim7.holds Tryz.pinned (.plain (OpenSpec.upto fnMadeSpec)) fnMadeUptoCard

/-- THE SECOND FORM's CARD OF 'laws.FnNoReadUp'. -/
def fnNoReadUpUptoCard : Claim7 := { stood := { row := fnNoReadUpUptoRow, standIns := [], harness := (true, "4b5666e7aef0a5d60bfe5f3954a0b2f69d1d55e20fb91d06866251831f707f97"), looks := true }, kinds := [], alts := [], laidByText := true, laidKinds := [.data, .data, .data, .handle, .sentinel, .sentinel, .sentinel, .sentinel, .sentinel, .sentinel, .sentinel, .sentinel, .sentinel, .sentinel, .sentinel, .sentinel, .sentinel], laidTests := true, laidLooks := .later }
def FnNoReadUpUptoCardSaid : Prop := Claim7.holds Tryz.pinned (.plain (OpenSpec.upto fnNoReadUpSpec)) fnNoReadUpUptoCard

/-- THE SECOND FORM's CARD OF 'laws.FnOwned'. -/
def fnOwnedUptoCard : Claim7 := { stood := { row := fnOwnedUptoRow, standIns := [], harness := (true, "4b5666e7aef0a5d60bfe5f3954a0b2f69d1d55e20fb91d06866251831f707f97"), looks := true }, kinds := [], alts := [], laidByText := true, laidKinds := [.data, .data, .data, .handle, .sentinel, .sentinel, .sentinel, .sentinel, .sentinel, .sentinel, .sentinel, .sentinel, .sentinel, .sentinel, .sentinel, .sentinel, .sentinel], laidTests := true, laidLooks := .later }
def FnOwnedUptoCardSaid : Prop := Claim7.holds Tryz.pinned (.plain (OpenSpec.upto fnOwnedSpec)) fnOwnedUptoCard
end Rows
end Go.Proofs.YtbdagpckhfcneaaGreatDoor
