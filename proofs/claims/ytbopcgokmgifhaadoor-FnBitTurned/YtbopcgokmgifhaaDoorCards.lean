/-
  DERIVED. GIVEN WITH THE SEED: THE CARDS: each row of YtbopcgokmgifhaaDoorRows.lean that lists a variable, with what it lists TIED to the program's text (the seventh form; the later family's looks); each row that meets fmt, with fmt's text TOLD by the authors' own Lean function (tested against real Go, not proved from fmt's source: count such statements apart). THE CARD IS WHAT COUNTS. Prove the row's statement (the work); the ties are given (YtbopcgokmgifhaaDoorTie.lean); close each card by the builder's one call (the guide's Derived/Test/ToyasCard.lean, 'card_holds'). Laid BY PROGRAM, IN A SANDBOX (cutbox-door.mjs). By AI agents, Wed Nov 11 2026. No macro, syntax, notation, axiom, sorry.
-/
import Derived.Test.YtbopcgokmgifhaaDoorRows
import GoSem.ClaimSeven
namespace Go.Proofs.YtbopcgokmgifhaaDoor
namespace Rows

/-- THE TIED CARD OF 'laws.FnSealed'. -/
def fnSealedCard : Claim7 := { stood := { row := fnSealedRow, standIns := [], harness := (true, "40d27a9fb534e9c1e122d62c1f210090f55276b075ae9e62966e2d2af1116658"), looks := false }, kinds := [], alts := [], laidByText := true, laidKinds := [.data], laidTests := true, laidLooks := .later }
def FnSealedCardSaid : Prop := Claim7.holds Tryd.pinned (.plain (OpenSpec.ofChange fnSealedSpec)) fnSealedCard

/-- THE TIED CARD OF 'laws.FnBitTurned'. -/
def fnBitTurnedCard : Claim7 := { stood := { row := fnBitTurnedRow, standIns := [], harness := (true, "40d27a9fb534e9c1e122d62c1f210090f55276b075ae9e62966e2d2af1116658"), looks := false }, kinds := [], alts := [], laidByText := true, laidKinds := [.data], laidTests := true, laidLooks := .later }
def FnBitTurnedCardSaid : Prop := Claim7.holds Tryd.pinned (.plain (OpenSpec.ofChange fnBitTurnedSpec)) fnBitTurnedCard

/-- THE SECOND FORM's CARD OF 'laws.FnSealed'. -/
def fnSealedUptoCard : Claim7 := { stood := { row := fnSealedUptoRow, standIns := [], harness := (true, "40d27a9fb534e9c1e122d62c1f210090f55276b075ae9e62966e2d2af1116658"), looks := false }, kinds := [], alts := [], laidByText := true, laidKinds := [.data], laidTests := true, laidLooks := .later }
def FnSealedUptoCardSaid : Prop := Claim7.holds Tryd.pinned (.plain (OpenSpec.upto fnSealedSpec)) fnSealedUptoCard

/-- THE SECOND FORM's CARD OF 'laws.FnBitTurned'. -/
def fnBitTurnedUptoCard : Claim7 := { stood := { row := fnBitTurnedUptoRow, standIns := [], harness := (true, "40d27a9fb534e9c1e122d62c1f210090f55276b075ae9e62966e2d2af1116658"), looks := false }, kinds := [], alts := [], laidByText := true, laidKinds := [.data], laidTests := true, laidLooks := .later }
def FnBitTurnedUptoCardSaid : Prop := Claim7.holds Tryd.pinned (.plain (OpenSpec.upto fnBitTurnedSpec)) fnBitTurnedUptoCard
end Rows
end Go.Proofs.YtbopcgokmgifhaaDoor
