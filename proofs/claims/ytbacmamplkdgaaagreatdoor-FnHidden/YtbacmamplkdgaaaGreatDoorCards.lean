/-
  DERIVED. GIVEN WITH THE SEED: THE CARDS: each row of YtbacmamplkdgaaaGreatDoorRows.lean that lists a variable, with what it lists TIED to the program's text (the seventh form; the later family's looks); each row that meets fmt, with fmt's text TOLD by the authors' own Lean function (tested against real Go, not proved from fmt's source: count such statements apart). THE CARD IS WHAT COUNTS. Prove the row's statement (the work); the ties are given (YtbacmamplkdgaaaGreatDoorTie.lean); close each card by the builder's one call (the guide's Derived/Test/ToyasCard.lean, 'card_holds'). Laid BY PROGRAM, IN A SANDBOX (cutbox-door.mjs). By AI agents, Wed Nov 11 2026. No macro, syntax, notation, axiom, sorry.
-/
import Derived.Test.YtbacmamplkdgaaaGreatDoorRows
import GoSem.ClaimSeven
namespace Go.Proofs.YtbacmamplkdgaaaGreatDoor
namespace Rows

/-- THE TIED CARD OF 'laws.FnViews'. -/
def fnViewsCard : Claim7 := { stood := { row := fnViewsRow, standIns := [], harness := (true, "0b7becc3356601446bf501212d68fafd242390766681a2f4a55993f2e4d6f031"), looks := true }, kinds := [], alts := [], laidByText := true, laidKinds := [.data, .data, .data], laidTests := true, laidLooks := .later }
def FnViewsCardSaid : Prop := Claim7.holds Tryz.pinned (.plain (OpenSpec.ofChange fnViewsSpec)) fnViewsCard

/-- THE TIED CARD OF 'laws.FnHidden'. -/
def fnHiddenCard : Claim7 := { stood := { row := fnHiddenRow, standIns := [], harness := (true, "0b7becc3356601446bf501212d68fafd242390766681a2f4a55993f2e4d6f031"), looks := true }, kinds := [], alts := [], laidByText := true, laidKinds := [.data, .data, .data], laidTests := true, laidLooks := .later }
def FnHiddenCardSaid : Prop := Claim7.holds Tryz.pinned (.plain (OpenSpec.ofChange fnHiddenSpec)) fnHiddenCard

/-- THE TIED CARD OF 'laws.FnKernelTexts'. -/
def fnKernelTextsCard : Claim7 := { stood := { row := fnKernelTextsRow, standIns := [], harness := (true, "0b7becc3356601446bf501212d68fafd242390766681a2f4a55993f2e4d6f031"), looks := true }, kinds := [], alts := [], laidByText := true, laidKinds := [.data, .data, .data, .sentinel], laidTests := true, laidLooks := .later }
def FnKernelTextsCardSaid : Prop := Claim7.holds Tryz.pinned (.plain (OpenSpec.ofChange fnKernelTextsSpec)) fnKernelTextsCard

/-- THE SECOND FORM's CARD OF 'laws.FnViews'. -/
def fnViewsUptoCard : Claim7 := { stood := { row := fnViewsUptoRow, standIns := [], harness := (true, "0b7becc3356601446bf501212d68fafd242390766681a2f4a55993f2e4d6f031"), looks := true }, kinds := [], alts := [], laidByText := true, laidKinds := [.data, .data, .data], laidTests := true, laidLooks := .later }
def FnViewsUptoCardSaid : Prop := Claim7.holds Tryz.pinned (.plain (OpenSpec.upto fnViewsSpec)) fnViewsUptoCard

/-- THE SECOND FORM's CARD OF 'laws.FnHidden'. -/
def fnHiddenUptoCard : Claim7 := { stood := { row := fnHiddenUptoRow, standIns := [], harness := (true, "0b7becc3356601446bf501212d68fafd242390766681a2f4a55993f2e4d6f031"), looks := true }, kinds := [], alts := [], laidByText := true, laidKinds := [.data, .data, .data], laidTests := true, laidLooks := .later }
def FnHiddenUptoCardSaid : Prop := Claim7.holds Tryz.pinned (.plain (OpenSpec.upto fnHiddenSpec)) fnHiddenUptoCard

/-- THE SECOND FORM's CARD OF 'laws.FnKernelTexts'. -/
def fnKernelTextsUptoCard : Claim7 := { stood := { row := fnKernelTextsUptoRow, standIns := [], harness := (true, "0b7becc3356601446bf501212d68fafd242390766681a2f4a55993f2e4d6f031"), looks := true }, kinds := [], alts := [], laidByText := true, laidKinds := [.data, .data, .data, .sentinel], laidTests := true, laidLooks := .later }
def FnKernelTextsUptoCardSaid : Prop := Claim7.holds Tryz.pinned (.plain (OpenSpec.upto fnKernelTextsSpec)) fnKernelTextsUptoCard
end Rows
end Go.Proofs.YtbacmamplkdgaaaGreatDoor
