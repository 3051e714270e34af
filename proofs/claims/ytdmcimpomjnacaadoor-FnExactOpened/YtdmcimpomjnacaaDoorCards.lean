/-
  DERIVED. GIVEN WITH THE SEED: THE CARDS: each row of YtdmcimpomjnacaaDoorRows.lean that lists a variable, with what it lists TIED to the program's text (the seventh form; the later family's looks); each row that meets fmt, with fmt's text TOLD by the authors' own Lean function (tested against real Go, not proved from fmt's source: count such statements apart). THE CARD IS WHAT COUNTS. Prove the row's statement (the work); the ties are given (YtdmcimpomjnacaaDoorTie.lean); close each card by the builder's one call (the guide's Derived/Test/ToyasCard.lean, 'card_holds'). Laid BY PROGRAM, IN A SANDBOX (cutbox-door.mjs). By AI agents, Wed Nov 11 2026. No macro, syntax, notation, axiom, sorry.
-/
import Derived.Test.YtdmcimpomjnacaaDoorRows
import GoSem.ClaimSeven
namespace Go.Proofs.YtdmcimpomjnacaaDoor
namespace Rows

/-- THE TIED CARD OF 'laws.FnExactSealed'. -/
def fnExactSealedCard : Claim7 := { stood := { row := fnExactSealedRow, standIns := [], harness := (true, "9ba4e7069615b4e55967a023642e7dab6697ef55afb42643dc3a64c90cfe6039"), looks := false }, kinds := [], alts := [], laidByText := true, laidKinds := [.data], laidTests := true, laidLooks := .later }
def FnExactSealedCardSaid : Prop := Claim7.holds Tryd.pinned (.plain (OpenSpec.ofChange fnExactSealedSpec)) fnExactSealedCard

/-- THE TIED CARD OF 'laws.FnExactOpened'. -/
def fnExactOpenedCard : Claim7 := { stood := { row := fnExactOpenedRow, standIns := [], harness := (true, "9ba4e7069615b4e55967a023642e7dab6697ef55afb42643dc3a64c90cfe6039"), looks := false }, kinds := [], alts := [], laidByText := true, laidKinds := [.data], laidTests := true, laidLooks := .later }
def FnExactOpenedCardSaid : Prop := Claim7.holds Tryd.pinned (.plain (OpenSpec.ofChange fnExactOpenedSpec)) fnExactOpenedCard

/-- THE SECOND FORM's CARD OF 'laws.FnExactSealed'. -/
def fnExactSealedUptoCard : Claim7 := { stood := { row := fnExactSealedUptoRow, standIns := [], harness := (true, "9ba4e7069615b4e55967a023642e7dab6697ef55afb42643dc3a64c90cfe6039"), looks := false }, kinds := [], alts := [], laidByText := true, laidKinds := [.data], laidTests := true, laidLooks := .later }
def FnExactSealedUptoCardSaid : Prop := Claim7.holds Tryd.pinned (.plain (OpenSpec.upto fnExactSealedSpec)) fnExactSealedUptoCard

/-- THE SECOND FORM's CARD OF 'laws.FnExactOpened'. -/
def fnExactOpenedUptoCard : Claim7 := { stood := { row := fnExactOpenedUptoRow, standIns := [], harness := (true, "9ba4e7069615b4e55967a023642e7dab6697ef55afb42643dc3a64c90cfe6039"), looks := false }, kinds := [], alts := [], laidByText := true, laidKinds := [.data], laidTests := true, laidLooks := .later }
def FnExactOpenedUptoCardSaid : Prop := Claim7.holds Tryd.pinned (.plain (OpenSpec.upto fnExactOpenedSpec)) fnExactOpenedUptoCard
end Rows
end Go.Proofs.YtdmcimpomjnacaaDoor
