/-
  DERIVED. GIVEN WITH THE SEED: THE CARDS: each row of YtnobiepjjdcofaaGreatDoorRows.lean that lists a variable, with what it lists TIED to the program's text (the seventh form; the later family's looks); each row that meets fmt, with fmt's text TOLD by the authors' own Lean function (tested against real Go, not proved from fmt's source: count such statements apart). THE CARD IS WHAT COUNTS. Prove the row's statement (the work); the ties are given (YtnobiepjjdcofaaGreatDoorTie.lean); close each card by the builder's one call (the guide's Derived/Test/ToyasCard.lean, 'card_holds'). Laid BY PROGRAM, IN A SANDBOX (cutbox-door.mjs). By AI agents, Wed Nov 11 2026. No macro, syntax, notation, axiom, sorry.
-/
import Derived.Test.YtnobiepjjdcofaaGreatDoorRows
import GoSem.ClaimSeven
namespace Go.Proofs.YtnobiepjjdcofaaGreatDoor
namespace Rows

/-- THE TIED CARD OF 'laws.FnExactNearestTour'. -/
def fnExactNearestTourCard : Claim7 := { stood := { row := fnExactNearestTourRow, standIns := [], harness := (true, "163f66b3cb21429bd702cde018a35b410f996cfb755f38518772e17ad548c3f5"), looks := false }, kinds := [], alts := [], laidByText := true, laidKinds := [.data], laidTests := true, laidLooks := .later }
def FnExactNearestTourCardSaid : Prop := Claim7.holds Tryz.pinned (.plain (OpenSpec.ofChange fnExactNearestTourSpec)) fnExactNearestTourCard

/-- THE TIED CARD OF 'laws.FnExactVisibleStars'. -/
def fnExactVisibleStarsCard : Claim7 := { stood := { row := fnExactVisibleStarsRow, standIns := [], harness := (true, "163f66b3cb21429bd702cde018a35b410f996cfb755f38518772e17ad548c3f5"), looks := false }, kinds := [], alts := [], laidByText := true, laidKinds := [.data], laidTests := true, laidLooks := .later }
def FnExactVisibleStarsCardSaid : Prop := Claim7.holds Tryz.pinned (.plain (OpenSpec.ofChange fnExactVisibleStarsSpec)) fnExactVisibleStarsCard

/-- THE TIED CARD OF 'laws.FnExactVisibleLines'. -/
def fnExactVisibleLinesCard : Claim7 := { stood := { row := fnExactVisibleLinesRow, standIns := [], harness := (true, "163f66b3cb21429bd702cde018a35b410f996cfb755f38518772e17ad548c3f5"), looks := false }, kinds := [], alts := [], laidByText := true, laidKinds := [.data], laidTests := true, laidLooks := .later }
def FnExactVisibleLinesCardSaid : Prop := Claim7.holds Tryz.pinned (.plain (OpenSpec.ofChange fnExactVisibleLinesSpec)) fnExactVisibleLinesCard

/-- THE SECOND FORM's CARD OF 'laws.FnExactNearestTour'. -/
def fnExactNearestTourUptoCard : Claim7 := { stood := { row := fnExactNearestTourUptoRow, standIns := [], harness := (true, "163f66b3cb21429bd702cde018a35b410f996cfb755f38518772e17ad548c3f5"), looks := false }, kinds := [], alts := [], laidByText := true, laidKinds := [.data], laidTests := true, laidLooks := .later }
def FnExactNearestTourUptoCardSaid : Prop := Claim7.holds Tryz.pinned (.plain (OpenSpec.upto fnExactNearestTourSpec)) fnExactNearestTourUptoCard

/-- THE SECOND FORM's CARD OF 'laws.FnExactVisibleStars'. -/
def fnExactVisibleStarsUptoCard : Claim7 := { stood := { row := fnExactVisibleStarsUptoRow, standIns := [], harness := (true, "163f66b3cb21429bd702cde018a35b410f996cfb755f38518772e17ad548c3f5"), looks := false }, kinds := [], alts := [], laidByText := true, laidKinds := [.data], laidTests := true, laidLooks := .later }
def FnExactVisibleStarsUptoCardSaid : Prop := Claim7.holds Tryz.pinned (.plain (OpenSpec.upto fnExactVisibleStarsSpec)) fnExactVisibleStarsUptoCard

/-- THE SECOND FORM's CARD OF 'laws.FnExactVisibleLines'. -/
def fnExactVisibleLinesUptoCard : Claim7 := { stood := { row := fnExactVisibleLinesUptoRow, standIns := [], harness := (true, "163f66b3cb21429bd702cde018a35b410f996cfb755f38518772e17ad548c3f5"), looks := false }, kinds := [], alts := [], laidByText := true, laidKinds := [.data], laidTests := true, laidLooks := .later }
def FnExactVisibleLinesUptoCardSaid : Prop := Claim7.holds Tryz.pinned (.plain (OpenSpec.upto fnExactVisibleLinesSpec)) fnExactVisibleLinesUptoCard
end Rows
end Go.Proofs.YtnobiepjjdcofaaGreatDoor
