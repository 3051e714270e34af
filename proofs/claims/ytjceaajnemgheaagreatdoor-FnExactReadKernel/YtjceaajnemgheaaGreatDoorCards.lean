/-
  DERIVED. GIVEN WITH THE SEED: THE CARDS: each row of YtjceaajnemgheaaGreatDoorRows.lean that lists a variable, with what it lists TIED to the program's text (the seventh form; the later family's looks); each row that meets fmt, with fmt's text TOLD by the authors' own Lean function (tested against real Go, not proved from fmt's source: count such statements apart). THE CARD IS WHAT COUNTS. Prove the row's statement (the work); the ties are given (YtjceaajnemgheaaGreatDoorTie.lean); close each card by the builder's one call (the guide's Derived/Test/ToyasCard.lean, 'card_holds'). Laid BY PROGRAM, IN A SANDBOX (cutbox-door.mjs). By AI agents, Wed Nov 11 2026. No macro, syntax, notation, axiom, sorry.
-/
import Derived.Test.YtjceaajnemgheaaGreatDoorRows
import GoSem.ClaimSeven
namespace Go.Proofs.YtjceaajnemgheaaGreatDoor
namespace Rows

/-- THE TIED CARD OF 'laws.FnExactReadKernel'. -/
def fnExactReadKernelCard : Claim7 := { stood := { row := fnExactReadKernelRow, standIns := [], harness := (true, "28985cabafcf8b9cb80fc437126f2d4a7d93b40bbd0c3db55bd282800bd638ea"), looks := false }, kinds := [], alts := [], laidByText := true, laidKinds := [.sentinel], laidTests := true, laidLooks := .later }
def FnExactReadKernelCardSaid : Prop := Claim7.holds Tryz.pinned (.plain (OpenSpec.ofChange fnExactReadKernelSpec)) fnExactReadKernelCard

/-- THE SECOND FORM's CARD OF 'laws.FnExactReadKernel'. -/
def fnExactReadKernelUptoCard : Claim7 := { stood := { row := fnExactReadKernelUptoRow, standIns := [], harness := (true, "28985cabafcf8b9cb80fc437126f2d4a7d93b40bbd0c3db55bd282800bd638ea"), looks := false }, kinds := [], alts := [], laidByText := true, laidKinds := [.sentinel], laidTests := true, laidLooks := .later }
def FnExactReadKernelUptoCardSaid : Prop := Claim7.holds Tryz.pinned (.plain (OpenSpec.upto fnExactReadKernelSpec)) fnExactReadKernelUptoCard
end Rows
end Go.Proofs.YtjceaajnemgheaaGreatDoor
