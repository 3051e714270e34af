/-
  DERIVED. GIVEN WITH THE SEED: THE CARDS: each row of YtphddbnadcjhgaaGreatDoorRows.lean that lists a variable, with what it lists TIED to the program's text (the seventh form; the later family's looks); each row that meets fmt, with fmt's text TOLD by the authors' own Lean function (tested against real Go, not proved from fmt's source: count such statements apart). THE CARD IS WHAT COUNTS. Prove the row's statement (the work); the ties are given (YtphddbnadcjhgaaGreatDoorTie.lean); close each card by the builder's one call (the guide's Derived/Test/ToyasCard.lean, 'card_holds'). Laid BY PROGRAM, IN A SANDBOX (cutbox-door.mjs). By AI agents, Wed Nov 11 2026. No macro, syntax, notation, axiom, sorry.
-/
import Derived.Test.YtphddbnadcjhgaaGreatDoorRows
import GoSem.ClaimSeven
namespace Go.Proofs.YtphddbnadcjhgaaGreatDoor
namespace Rows

/-- THE TIED CARD OF 'laws.FnQueued'. -/
def fnQueuedCard : Claim7 := { stood := { row := fnQueuedRow, standIns := [], harness := (true, "34699bf398277071919e6839ab50369eb659a6241c2f2139c4b88f78fdd140b4"), looks := true }, kinds := [], alts := [], laidByText := true, laidKinds := [.data, .data, .data, .handle, .sentinel, .sentinel, .sentinel, .sentinel, .sentinel, .sentinel, .sentinel, .sentinel, .sentinel, .sentinel, .sentinel, .sentinel, .sentinel], laidTests := true, laidLooks := .later }
def FnQueuedCardSaid : Prop := Claim7.holds Tryz.pinned (.plain (OpenSpec.ofChange fnQueuedSpec)) fnQueuedCard

/-- THE SECOND FORM's CARD OF 'laws.FnQueued'. -/
def fnQueuedUptoCard : Claim7 := { stood := { row := fnQueuedUptoRow, standIns := [], harness := (true, "34699bf398277071919e6839ab50369eb659a6241c2f2139c4b88f78fdd140b4"), looks := true }, kinds := [], alts := [], laidByText := true, laidKinds := [.data, .data, .data, .handle, .sentinel, .sentinel, .sentinel, .sentinel, .sentinel, .sentinel, .sentinel, .sentinel, .sentinel, .sentinel, .sentinel, .sentinel, .sentinel], laidTests := true, laidLooks := .later }
def FnQueuedUptoCardSaid : Prop := Claim7.holds Tryz.pinned (.plain (OpenSpec.upto fnQueuedSpec)) fnQueuedUptoCard
end Rows
end Go.Proofs.YtphddbnadcjhgaaGreatDoor
