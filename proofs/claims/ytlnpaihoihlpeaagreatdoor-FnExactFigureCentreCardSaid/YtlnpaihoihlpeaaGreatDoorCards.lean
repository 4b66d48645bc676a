/-
  DERIVED. GIVEN WITH THE SEED: THE CARDS: each row of YtlnpaihoihlpeaaGreatDoorRows.lean that lists a variable, with what it lists TIED to the program's text (the seventh form; the later family's looks); each row that meets fmt, with fmt's text TOLD by the authors' own Lean function (tested against real Go, not proved from fmt's source: count such statements apart). THE CARD IS WHAT COUNTS. Prove the row's statement (the work); the ties are given (YtlnpaihoihlpeaaGreatDoorTie.lean); close each card by the builder's one call (the guide's Derived/Test/ToyasCard.lean, 'card_holds'). Laid BY PROGRAM, IN A SANDBOX (cutbox-door.mjs). By AI agents, Wed Nov 11 2026. No macro, syntax, notation, axiom, sorry.
-/
import Derived.Test.YtlnpaihoihlpeaaGreatDoorRows
import GoSem.ClaimSeven
namespace Go.Proofs.YtlnpaihoihlpeaaGreatDoor
namespace Rows

/-- THE TIED CARD OF 'laws.FnExactFigureLength'. -/
def fnExactFigureLengthCard : Claim7 := { stood := { row := fnExactFigureLengthRow, standIns := [], harness := (true, "a8122cad15d039689c10ccc5c6246df14f10a9d617c909d6ffed1808289c18a1"), looks := false }, kinds := [], alts := [], laidByText := true, laidKinds := [.data], laidTests := true, laidLooks := .later }
def FnExactFigureLengthCardSaid : Prop := Claim7.holds Tryz.pinned (.plain (OpenSpec.ofChange fnExactFigureLengthSpec)) fnExactFigureLengthCard

/-- THE TIED CARD OF 'laws.FnExactFigureSpan'. -/
def fnExactFigureSpanCard : Claim7 := { stood := { row := fnExactFigureSpanRow, standIns := [], harness := (true, "a8122cad15d039689c10ccc5c6246df14f10a9d617c909d6ffed1808289c18a1"), looks := false }, kinds := [], alts := [], laidByText := true, laidKinds := [.data], laidTests := true, laidLooks := .later }
def FnExactFigureSpanCardSaid : Prop := Claim7.holds Tryz.pinned (.plain (OpenSpec.ofChange fnExactFigureSpanSpec)) fnExactFigureSpanCard

/-- THE TIED CARD OF 'laws.FnExactFigureCentre'. -/
def fnExactFigureCentreCard : Claim7 := { stood := { row := fnExactFigureCentreRow, standIns := [], harness := (true, "a8122cad15d039689c10ccc5c6246df14f10a9d617c909d6ffed1808289c18a1"), looks := false }, kinds := [], alts := [], laidByText := true, laidKinds := [.data], laidTests := true, laidLooks := .later }
def FnExactFigureCentreCardSaid : Prop := Claim7.holds Tryz.pinned (.plain (OpenSpec.ofChange fnExactFigureCentreSpec)) fnExactFigureCentreCard

/-- THE TIED CARD OF 'laws.FnExactTourLength'. -/
def fnExactTourLengthCard : Claim7 := { stood := { row := fnExactTourLengthRow, standIns := [], harness := (true, "a8122cad15d039689c10ccc5c6246df14f10a9d617c909d6ffed1808289c18a1"), looks := false }, kinds := [], alts := [], laidByText := true, laidKinds := [.data], laidTests := true, laidLooks := .later }
def FnExactTourLengthCardSaid : Prop := Claim7.holds Tryz.pinned (.plain (OpenSpec.ofChange fnExactTourLengthSpec)) fnExactTourLengthCard

/-- THE TIED CARD OF 'laws.FnExactNearestTour'. -/
def fnExactNearestTourCard : Claim7 := { stood := { row := fnExactNearestTourRow, standIns := [], harness := (true, "a8122cad15d039689c10ccc5c6246df14f10a9d617c909d6ffed1808289c18a1"), looks := false }, kinds := [], alts := [], laidByText := true, laidKinds := [.data], laidTests := true, laidLooks := .later }
def FnExactNearestTourCardSaid : Prop := Claim7.holds Tryz.pinned (.plain (OpenSpec.ofChange fnExactNearestTourSpec)) fnExactNearestTourCard

/-- THE TIED CARD OF 'laws.FnExactBestTour'. -/
def fnExactBestTourCard : Claim7 := { stood := { row := fnExactBestTourRow, standIns := [], harness := (true, "a8122cad15d039689c10ccc5c6246df14f10a9d617c909d6ffed1808289c18a1"), looks := false }, kinds := [], alts := [], laidByText := true, laidKinds := [.data], laidTests := true, laidLooks := .later }
def FnExactBestTourCardSaid : Prop := Claim7.holds Tryz.pinned (.plain (OpenSpec.ofChange fnExactBestTourSpec)) fnExactBestTourCard

/-- THE SECOND FORM's CARD OF 'laws.FnExactFigureLength'. -/
def fnExactFigureLengthUptoCard : Claim7 := { stood := { row := fnExactFigureLengthUptoRow, standIns := [], harness := (true, "a8122cad15d039689c10ccc5c6246df14f10a9d617c909d6ffed1808289c18a1"), looks := false }, kinds := [], alts := [], laidByText := true, laidKinds := [.data], laidTests := true, laidLooks := .later }
def FnExactFigureLengthUptoCardSaid : Prop := Claim7.holds Tryz.pinned (.plain (OpenSpec.upto fnExactFigureLengthSpec)) fnExactFigureLengthUptoCard

/-- THE SECOND FORM's CARD OF 'laws.FnExactFigureSpan'. -/
def fnExactFigureSpanUptoCard : Claim7 := { stood := { row := fnExactFigureSpanUptoRow, standIns := [], harness := (true, "a8122cad15d039689c10ccc5c6246df14f10a9d617c909d6ffed1808289c18a1"), looks := false }, kinds := [], alts := [], laidByText := true, laidKinds := [.data], laidTests := true, laidLooks := .later }
def FnExactFigureSpanUptoCardSaid : Prop := Claim7.holds Tryz.pinned (.plain (OpenSpec.upto fnExactFigureSpanSpec)) fnExactFigureSpanUptoCard

/-- THE SECOND FORM's CARD OF 'laws.FnExactFigureCentre'. -/
def fnExactFigureCentreUptoCard : Claim7 := { stood := { row := fnExactFigureCentreUptoRow, standIns := [], harness := (true, "a8122cad15d039689c10ccc5c6246df14f10a9d617c909d6ffed1808289c18a1"), looks := false }, kinds := [], alts := [], laidByText := true, laidKinds := [.data], laidTests := true, laidLooks := .later }
def FnExactFigureCentreUptoCardSaid : Prop := Claim7.holds Tryz.pinned (.plain (OpenSpec.upto fnExactFigureCentreSpec)) fnExactFigureCentreUptoCard

/-- THE SECOND FORM's CARD OF 'laws.FnExactTourLength'. -/
def fnExactTourLengthUptoCard : Claim7 := { stood := { row := fnExactTourLengthUptoRow, standIns := [], harness := (true, "a8122cad15d039689c10ccc5c6246df14f10a9d617c909d6ffed1808289c18a1"), looks := false }, kinds := [], alts := [], laidByText := true, laidKinds := [.data], laidTests := true, laidLooks := .later }
def FnExactTourLengthUptoCardSaid : Prop := Claim7.holds Tryz.pinned (.plain (OpenSpec.upto fnExactTourLengthSpec)) fnExactTourLengthUptoCard

/-- THE SECOND FORM's CARD OF 'laws.FnExactNearestTour'. -/
def fnExactNearestTourUptoCard : Claim7 := { stood := { row := fnExactNearestTourUptoRow, standIns := [], harness := (true, "a8122cad15d039689c10ccc5c6246df14f10a9d617c909d6ffed1808289c18a1"), looks := false }, kinds := [], alts := [], laidByText := true, laidKinds := [.data], laidTests := true, laidLooks := .later }
def FnExactNearestTourUptoCardSaid : Prop := Claim7.holds Tryz.pinned (.plain (OpenSpec.upto fnExactNearestTourSpec)) fnExactNearestTourUptoCard

/-- THE SECOND FORM's CARD OF 'laws.FnExactBestTour'. -/
def fnExactBestTourUptoCard : Claim7 := { stood := { row := fnExactBestTourUptoRow, standIns := [], harness := (true, "a8122cad15d039689c10ccc5c6246df14f10a9d617c909d6ffed1808289c18a1"), looks := false }, kinds := [], alts := [], laidByText := true, laidKinds := [.data], laidTests := true, laidLooks := .later }
def FnExactBestTourUptoCardSaid : Prop := Claim7.holds Tryz.pinned (.plain (OpenSpec.upto fnExactBestTourSpec)) fnExactBestTourUptoCard
end Rows
end Go.Proofs.YtlnpaihoihlpeaaGreatDoor
