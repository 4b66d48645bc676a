/-
  DERIVED. GIVEN WITH THE SEED: THE CARDS: each row of YtoellkbmhpekdaaGreatDoorRows.lean that lists a variable, with what it lists TIED to the program's text (the seventh form; the later family's looks); each row that meets fmt, with fmt's text TOLD by the authors' own Lean function (tested against real Go, not proved from fmt's source: count such statements apart). THE CARD IS WHAT COUNTS. Prove the row's statement (the work); the ties are given (YtoellkbmhpekdaaGreatDoorTie.lean); close each card by the builder's one call (the guide's Derived/Test/ToyasCard.lean, 'card_holds'). Laid BY PROGRAM, IN A SANDBOX (cutbox-door.mjs). By AI agents, Wed Nov 11 2026. No macro, syntax, notation, axiom, sorry.
-/
import Derived.Test.YtoellkbmhpekdaaGreatDoorRows
import GoSem.ClaimSeven
namespace Go.Proofs.YtoellkbmhpekdaaGreatDoor
namespace Rows

/-- THE TIED CARD OF 'laws.FnExactNearestStar'. -/
def fnExactNearestStarCard : Claim7 := { stood := { row := fnExactNearestStarRow, standIns := [], harness := (true, "6897b7c27887aa650c8735d73c3598cbadba70d4bf8b870845c1e90368d99192"), looks := false }, kinds := [], alts := [], laidByText := true, laidKinds := [.data], laidTests := true, laidLooks := .later }
def FnExactNearestStarCardSaid : Prop := Claim7.holds Tryz.pinned (.plain (OpenSpec.ofChange fnExactNearestStarSpec)) fnExactNearestStarCard

/-- THE TIED CARD OF 'laws.FnExactFigureLength'. -/
def fnExactFigureLengthCard : Claim7 := { stood := { row := fnExactFigureLengthRow, standIns := [], harness := (true, "6897b7c27887aa650c8735d73c3598cbadba70d4bf8b870845c1e90368d99192"), looks := false }, kinds := [], alts := [], laidByText := true, laidKinds := [.data], laidTests := true, laidLooks := .later }
def FnExactFigureLengthCardSaid : Prop := Claim7.holds Tryz.pinned (.plain (OpenSpec.ofChange fnExactFigureLengthSpec)) fnExactFigureLengthCard

/-- THE TIED CARD OF 'laws.FnExactFigureSpan'. -/
def fnExactFigureSpanCard : Claim7 := { stood := { row := fnExactFigureSpanRow, standIns := [], harness := (true, "6897b7c27887aa650c8735d73c3598cbadba70d4bf8b870845c1e90368d99192"), looks := false }, kinds := [], alts := [], laidByText := true, laidKinds := [.data], laidTests := true, laidLooks := .later }
def FnExactFigureSpanCardSaid : Prop := Claim7.holds Tryz.pinned (.plain (OpenSpec.ofChange fnExactFigureSpanSpec)) fnExactFigureSpanCard

/-- THE TIED CARD OF 'laws.FnExactFigureCentre'. -/
def fnExactFigureCentreCard : Claim7 := { stood := { row := fnExactFigureCentreRow, standIns := [], harness := (true, "6897b7c27887aa650c8735d73c3598cbadba70d4bf8b870845c1e90368d99192"), looks := false }, kinds := [], alts := [], laidByText := true, laidKinds := [.data], laidTests := true, laidLooks := .later }
def FnExactFigureCentreCardSaid : Prop := Claim7.holds Tryz.pinned (.plain (OpenSpec.ofChange fnExactFigureCentreSpec)) fnExactFigureCentreCard

/-- THE TIED CARD OF 'laws.FnExactStarsWithin'. -/
def fnExactStarsWithinCard : Claim7 := { stood := { row := fnExactStarsWithinRow, standIns := [], harness := (true, "6897b7c27887aa650c8735d73c3598cbadba70d4bf8b870845c1e90368d99192"), looks := false }, kinds := [], alts := [], laidByText := true, laidKinds := [.data], laidTests := true, laidLooks := .later }
def FnExactStarsWithinCardSaid : Prop := Claim7.holds Tryz.pinned (.plain (OpenSpec.ofChange fnExactStarsWithinSpec)) fnExactStarsWithinCard

/-- THE TIED CARD OF 'laws.FnExactTourLength'. -/
def fnExactTourLengthCard : Claim7 := { stood := { row := fnExactTourLengthRow, standIns := [], harness := (true, "6897b7c27887aa650c8735d73c3598cbadba70d4bf8b870845c1e90368d99192"), looks := false }, kinds := [], alts := [], laidByText := true, laidKinds := [.data], laidTests := true, laidLooks := .later }
def FnExactTourLengthCardSaid : Prop := Claim7.holds Tryz.pinned (.plain (OpenSpec.ofChange fnExactTourLengthSpec)) fnExactTourLengthCard

/-- THE TIED CARD OF 'laws.FnExactVisibleLines'. -/
def fnExactVisibleLinesCard : Claim7 := { stood := { row := fnExactVisibleLinesRow, standIns := [], harness := (true, "6897b7c27887aa650c8735d73c3598cbadba70d4bf8b870845c1e90368d99192"), looks := false }, kinds := [], alts := [], laidByText := true, laidKinds := [.data], laidTests := true, laidLooks := .later }
def FnExactVisibleLinesCardSaid : Prop := Claim7.holds Tryz.pinned (.plain (OpenSpec.ofChange fnExactVisibleLinesSpec)) fnExactVisibleLinesCard

/-- THE TIED CARD OF 'laws.FnExactVisibleStars'. -/
def fnExactVisibleStarsCard : Claim7 := { stood := { row := fnExactVisibleStarsRow, standIns := [], harness := (true, "6897b7c27887aa650c8735d73c3598cbadba70d4bf8b870845c1e90368d99192"), looks := false }, kinds := [], alts := [], laidByText := true, laidKinds := [.data], laidTests := true, laidLooks := .later }
def FnExactVisibleStarsCardSaid : Prop := Claim7.holds Tryz.pinned (.plain (OpenSpec.ofChange fnExactVisibleStarsSpec)) fnExactVisibleStarsCard

/-- THE SECOND FORM's CARD OF 'laws.FnExactNearestStar'. -/
def fnExactNearestStarUptoCard : Claim7 := { stood := { row := fnExactNearestStarUptoRow, standIns := [], harness := (true, "6897b7c27887aa650c8735d73c3598cbadba70d4bf8b870845c1e90368d99192"), looks := false }, kinds := [], alts := [], laidByText := true, laidKinds := [.data], laidTests := true, laidLooks := .later }
def FnExactNearestStarUptoCardSaid : Prop := Claim7.holds Tryz.pinned (.plain (OpenSpec.upto fnExactNearestStarSpec)) fnExactNearestStarUptoCard

/-- THE SECOND FORM's CARD OF 'laws.FnExactFigureLength'. -/
def fnExactFigureLengthUptoCard : Claim7 := { stood := { row := fnExactFigureLengthUptoRow, standIns := [], harness := (true, "6897b7c27887aa650c8735d73c3598cbadba70d4bf8b870845c1e90368d99192"), looks := false }, kinds := [], alts := [], laidByText := true, laidKinds := [.data], laidTests := true, laidLooks := .later }
def FnExactFigureLengthUptoCardSaid : Prop := Claim7.holds Tryz.pinned (.plain (OpenSpec.upto fnExactFigureLengthSpec)) fnExactFigureLengthUptoCard

/-- THE SECOND FORM's CARD OF 'laws.FnExactFigureSpan'. -/
def fnExactFigureSpanUptoCard : Claim7 := { stood := { row := fnExactFigureSpanUptoRow, standIns := [], harness := (true, "6897b7c27887aa650c8735d73c3598cbadba70d4bf8b870845c1e90368d99192"), looks := false }, kinds := [], alts := [], laidByText := true, laidKinds := [.data], laidTests := true, laidLooks := .later }
def FnExactFigureSpanUptoCardSaid : Prop := Claim7.holds Tryz.pinned (.plain (OpenSpec.upto fnExactFigureSpanSpec)) fnExactFigureSpanUptoCard

/-- THE SECOND FORM's CARD OF 'laws.FnExactFigureCentre'. -/
def fnExactFigureCentreUptoCard : Claim7 := { stood := { row := fnExactFigureCentreUptoRow, standIns := [], harness := (true, "6897b7c27887aa650c8735d73c3598cbadba70d4bf8b870845c1e90368d99192"), looks := false }, kinds := [], alts := [], laidByText := true, laidKinds := [.data], laidTests := true, laidLooks := .later }
def FnExactFigureCentreUptoCardSaid : Prop := Claim7.holds Tryz.pinned (.plain (OpenSpec.upto fnExactFigureCentreSpec)) fnExactFigureCentreUptoCard

/-- THE SECOND FORM's CARD OF 'laws.FnExactStarsWithin'. -/
def fnExactStarsWithinUptoCard : Claim7 := { stood := { row := fnExactStarsWithinUptoRow, standIns := [], harness := (true, "6897b7c27887aa650c8735d73c3598cbadba70d4bf8b870845c1e90368d99192"), looks := false }, kinds := [], alts := [], laidByText := true, laidKinds := [.data], laidTests := true, laidLooks := .later }
def FnExactStarsWithinUptoCardSaid : Prop := Claim7.holds Tryz.pinned (.plain (OpenSpec.upto fnExactStarsWithinSpec)) fnExactStarsWithinUptoCard

/-- THE SECOND FORM's CARD OF 'laws.FnExactTourLength'. -/
def fnExactTourLengthUptoCard : Claim7 := { stood := { row := fnExactTourLengthUptoRow, standIns := [], harness := (true, "6897b7c27887aa650c8735d73c3598cbadba70d4bf8b870845c1e90368d99192"), looks := false }, kinds := [], alts := [], laidByText := true, laidKinds := [.data], laidTests := true, laidLooks := .later }
def FnExactTourLengthUptoCardSaid : Prop := Claim7.holds Tryz.pinned (.plain (OpenSpec.upto fnExactTourLengthSpec)) fnExactTourLengthUptoCard

/-- THE SECOND FORM's CARD OF 'laws.FnExactVisibleLines'. -/
def fnExactVisibleLinesUptoCard : Claim7 := { stood := { row := fnExactVisibleLinesUptoRow, standIns := [], harness := (true, "6897b7c27887aa650c8735d73c3598cbadba70d4bf8b870845c1e90368d99192"), looks := false }, kinds := [], alts := [], laidByText := true, laidKinds := [.data], laidTests := true, laidLooks := .later }
def FnExactVisibleLinesUptoCardSaid : Prop := Claim7.holds Tryz.pinned (.plain (OpenSpec.upto fnExactVisibleLinesSpec)) fnExactVisibleLinesUptoCard

/-- THE SECOND FORM's CARD OF 'laws.FnExactVisibleStars'. -/
def fnExactVisibleStarsUptoCard : Claim7 := { stood := { row := fnExactVisibleStarsUptoRow, standIns := [], harness := (true, "6897b7c27887aa650c8735d73c3598cbadba70d4bf8b870845c1e90368d99192"), looks := false }, kinds := [], alts := [], laidByText := true, laidKinds := [.data], laidTests := true, laidLooks := .later }
def FnExactVisibleStarsUptoCardSaid : Prop := Claim7.holds Tryz.pinned (.plain (OpenSpec.upto fnExactVisibleStarsSpec)) fnExactVisibleStarsUptoCard
end Rows
end Go.Proofs.YtoellkbmhpekdaaGreatDoor
