/-
  DERIVED. GIVEN WITH THE SEED: THE CARDS: each row of YtjfbfebjbacciaaDoorRows.lean that lists a variable, with what it lists TIED to the program's text (the seventh form; the later family's looks); each row that meets fmt, with fmt's text TOLD by the authors' own Lean function (tested against real Go, not proved from fmt's source: count such statements apart). THE CARD IS WHAT COUNTS. Prove the row's statement (the work); the ties are given (YtjfbfebjbacciaaDoorTie.lean); close each card by the builder's one call (the guide's Derived/Test/ToyasCard.lean, 'card_holds'). Laid BY PROGRAM, IN A SANDBOX (cutbox-door.mjs). By AI agents, Wed Nov 11 2026. No macro, syntax, notation, axiom, sorry.
-/
import Derived.Test.YtjfbfebjbacciaaDoorRows
import GoSem.ClaimSeven
namespace Go.Proofs.YtjfbfebjbacciaaDoor
namespace Rows

/-- THE TIED CARD OF 'laws.FnLabelTexts'. -/
def fnLabelTextsCard : Claim7 := { stood := { row := fnLabelTextsRow, standIns := [], harness := (true, "252457d354ecfc1e1c31800eb836dbada9b9f0fe088dfaef341e5eb71b58626c"), looks := false }, kinds := [], alts := [], laidByText := true, laidKinds := [.data, .data, .data], laidTests := true, laidLooks := .later }
def FnLabelTextsCardSaid : Prop := Claim7.holds Tryd.pinned (.plain (OpenSpec.ofChange fnLabelTextsSpec)) fnLabelTextsCard

/-- THE TIED CARD OF 'laws.FnExactLabelText'. -/
def fnExactLabelTextCard : Claim7 := { stood := { row := fnExactLabelTextRow, standIns := [], harness := (true, "252457d354ecfc1e1c31800eb836dbada9b9f0fe088dfaef341e5eb71b58626c"), looks := false }, kinds := [], alts := [], laidByText := true, laidKinds := [.data, .data, .data], laidTests := true, laidLooks := .later }
def FnExactLabelTextCardSaid : Prop := Claim7.holds Tryd.pinned (.plain (OpenSpec.ofChange fnExactLabelTextSpec)) fnExactLabelTextCard

/-- THE SECOND FORM's CARD OF 'laws.FnLabelTexts'. -/
def fnLabelTextsUptoCard : Claim7 := { stood := { row := fnLabelTextsUptoRow, standIns := [], harness := (true, "252457d354ecfc1e1c31800eb836dbada9b9f0fe088dfaef341e5eb71b58626c"), looks := false }, kinds := [], alts := [], laidByText := true, laidKinds := [.data, .data, .data], laidTests := true, laidLooks := .later }
def FnLabelTextsUptoCardSaid : Prop := Claim7.holds Tryd.pinned (.plain (OpenSpec.upto fnLabelTextsSpec)) fnLabelTextsUptoCard

/-- THE SECOND FORM's CARD OF 'laws.FnExactLabelText'. -/
def fnExactLabelTextUptoCard : Claim7 := { stood := { row := fnExactLabelTextUptoRow, standIns := [], harness := (true, "252457d354ecfc1e1c31800eb836dbada9b9f0fe088dfaef341e5eb71b58626c"), looks := false }, kinds := [], alts := [], laidByText := true, laidKinds := [.data, .data, .data], laidTests := true, laidLooks := .later }
def FnExactLabelTextUptoCardSaid : Prop := Claim7.holds Tryd.pinned (.plain (OpenSpec.upto fnExactLabelTextSpec)) fnExactLabelTextUptoCard
end Rows
end Go.Proofs.YtjfbfebjbacciaaDoor
