/-
  DERIVED. GIVEN WITH THE SEED: THE CARDS: each row of YtaaeeaknjlammaaGreatDoorRows.lean that lists a variable, with what it lists TIED to the program's text (the seventh form; the later family's looks); each row that meets fmt, with fmt's text TOLD by the authors' own Lean function (tested against real Go, not proved from fmt's source: count such statements apart). THE CARD IS WHAT COUNTS. Prove the row's statement (the work); the ties are given (YtaaeeaknjlammaaGreatDoorTie.lean); close each card by the builder's one call (the guide's Derived/Test/ToyasCard.lean, 'card_holds'). Laid BY PROGRAM, IN A SANDBOX (cutbox-door.mjs). By AI agents, Wed Nov 11 2026. No macro, syntax, notation, axiom, sorry.
-/
import Derived.Test.YtaaeeaknjlammaaGreatDoorRows
import GoSem.ClaimSeven
namespace Go.Proofs.YtaaeeaknjlammaaGreatDoor
namespace Rows

/-- THE TIED CARD OF 'laws.FnExactViewOf'. -/
def fnExactViewOfCard : Claim7 := { stood := { row := fnExactViewOfRow, standIns := [], harness := (true, "f453f51a3025eb2c82f491a64a2ad915c6665904ece5b4b332de2fc08e3624a2"), looks := true }, kinds := [], alts := [], laidByText := true, laidKinds := [.data, .data, .data], laidTests := true, laidLooks := .later }
def FnExactViewOfCardSaid : Prop := Claim7.holds Tryz.pinned (.plain (OpenSpec.ofChange fnExactViewOfSpec)) fnExactViewOfCard

/-- THE TIED CARD OF 'laws.FnExactKernelText'. -/
def fnExactKernelTextCard : Claim7 := { stood := { row := fnExactKernelTextRow, standIns := [], harness := (true, "f453f51a3025eb2c82f491a64a2ad915c6665904ece5b4b332de2fc08e3624a2"), looks := true }, kinds := [], alts := [], laidByText := true, laidKinds := [.data, .data, .data], laidTests := true, laidLooks := .later }
def FnExactKernelTextCardSaid : Prop := Claim7.holds Tryz.pinned (.plain (OpenSpec.ofChange fnExactKernelTextSpec)) fnExactKernelTextCard

/-- THE SECOND FORM's CARD OF 'laws.FnExactViewOf'. -/
def fnExactViewOfUptoCard : Claim7 := { stood := { row := fnExactViewOfUptoRow, standIns := [], harness := (true, "f453f51a3025eb2c82f491a64a2ad915c6665904ece5b4b332de2fc08e3624a2"), looks := true }, kinds := [], alts := [], laidByText := true, laidKinds := [.data, .data, .data], laidTests := true, laidLooks := .later }
def FnExactViewOfUptoCardSaid : Prop := Claim7.holds Tryz.pinned (.plain (OpenSpec.upto fnExactViewOfSpec)) fnExactViewOfUptoCard

/-- THE SECOND FORM's CARD OF 'laws.FnExactKernelText'. -/
def fnExactKernelTextUptoCard : Claim7 := { stood := { row := fnExactKernelTextUptoRow, standIns := [], harness := (true, "f453f51a3025eb2c82f491a64a2ad915c6665904ece5b4b332de2fc08e3624a2"), looks := true }, kinds := [], alts := [], laidByText := true, laidKinds := [.data, .data, .data], laidTests := true, laidLooks := .later }
def FnExactKernelTextUptoCardSaid : Prop := Claim7.holds Tryz.pinned (.plain (OpenSpec.upto fnExactKernelTextSpec)) fnExactKernelTextUptoCard
end Rows
end Go.Proofs.YtaaeeaknjlammaaGreatDoor
