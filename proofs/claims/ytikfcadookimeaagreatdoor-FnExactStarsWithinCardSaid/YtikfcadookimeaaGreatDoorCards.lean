/-
  DERIVED. GIVEN WITH THE SEED: THE CARDS: each row of YtikfcadookimeaaGreatDoorRows.lean that lists a variable, with what it lists TIED to the program's text (the seventh form; the later family's looks); each row that meets fmt, with fmt's text TOLD by the authors' own Lean function (tested against real Go, not proved from fmt's source: count such statements apart). THE CARD IS WHAT COUNTS. Prove the row's statement (the work); the ties are given (YtikfcadookimeaaGreatDoorTie.lean); close each card by the builder's one call (the guide's Derived/Test/ToyasCard.lean, 'card_holds'). Laid BY PROGRAM, IN A SANDBOX (cutbox-door.mjs). By AI agents, Wed Nov 11 2026. No macro, syntax, notation, axiom, sorry.
-/
import Derived.Test.YtikfcadookimeaaGreatDoorRows
import GoSem.ClaimSeven
namespace Go.Proofs.YtikfcadookimeaaGreatDoor
namespace Rows

/-- THE TIED CARD OF 'laws.FnExactVisibleStars'. -/
def fnExactVisibleStarsCard : Claim7 := { stood := { row := fnExactVisibleStarsRow, standIns := [], harness := (true, "a7884a2061de1fc06cc8976c09ddd7b6f1793a70b7aa0ee63f4f52d4329cd9cf"), looks := false }, kinds := [], alts := [], laidByText := true, laidKinds := [.data], laidTests := true, laidLooks := .later }
def FnExactVisibleStarsCardSaid : Prop := Claim7.holds Tryz.pinned (.plain (OpenSpec.ofChange fnExactVisibleStarsSpec)) fnExactVisibleStarsCard

/-- THE TIED CARD OF 'laws.FnExactVisibleLines'. -/
def fnExactVisibleLinesCard : Claim7 := { stood := { row := fnExactVisibleLinesRow, standIns := [], harness := (true, "a7884a2061de1fc06cc8976c09ddd7b6f1793a70b7aa0ee63f4f52d4329cd9cf"), looks := false }, kinds := [], alts := [], laidByText := true, laidKinds := [.data], laidTests := true, laidLooks := .later }
def FnExactVisibleLinesCardSaid : Prop := Claim7.holds Tryz.pinned (.plain (OpenSpec.ofChange fnExactVisibleLinesSpec)) fnExactVisibleLinesCard

/-- THE TIED CARD OF 'laws.FnExactStarsWithin'. -/
def fnExactStarsWithinCard : Claim7 := { stood := { row := fnExactStarsWithinRow, standIns := [], harness := (true, "a7884a2061de1fc06cc8976c09ddd7b6f1793a70b7aa0ee63f4f52d4329cd9cf"), looks := false }, kinds := [], alts := [], laidByText := true, laidKinds := [.data], laidTests := true, laidLooks := .later }
def FnExactStarsWithinCardSaid : Prop := Claim7.holds Tryz.pinned (.plain (OpenSpec.ofChange fnExactStarsWithinSpec)) fnExactStarsWithinCard

/-- THE SECOND FORM's CARD OF 'laws.FnExactVisibleStars'. -/
def fnExactVisibleStarsUptoCard : Claim7 := { stood := { row := fnExactVisibleStarsUptoRow, standIns := [], harness := (true, "a7884a2061de1fc06cc8976c09ddd7b6f1793a70b7aa0ee63f4f52d4329cd9cf"), looks := false }, kinds := [], alts := [], laidByText := true, laidKinds := [.data], laidTests := true, laidLooks := .later }
def FnExactVisibleStarsUptoCardSaid : Prop := Claim7.holds Tryz.pinned (.plain (OpenSpec.upto fnExactVisibleStarsSpec)) fnExactVisibleStarsUptoCard

/-- THE SECOND FORM's CARD OF 'laws.FnExactVisibleLines'. -/
def fnExactVisibleLinesUptoCard : Claim7 := { stood := { row := fnExactVisibleLinesUptoRow, standIns := [], harness := (true, "a7884a2061de1fc06cc8976c09ddd7b6f1793a70b7aa0ee63f4f52d4329cd9cf"), looks := false }, kinds := [], alts := [], laidByText := true, laidKinds := [.data], laidTests := true, laidLooks := .later }
def FnExactVisibleLinesUptoCardSaid : Prop := Claim7.holds Tryz.pinned (.plain (OpenSpec.upto fnExactVisibleLinesSpec)) fnExactVisibleLinesUptoCard

/-- THE SECOND FORM's CARD OF 'laws.FnExactStarsWithin'. -/
def fnExactStarsWithinUptoCard : Claim7 := { stood := { row := fnExactStarsWithinUptoRow, standIns := [], harness := (true, "a7884a2061de1fc06cc8976c09ddd7b6f1793a70b7aa0ee63f4f52d4329cd9cf"), looks := false }, kinds := [], alts := [], laidByText := true, laidKinds := [.data], laidTests := true, laidLooks := .later }
def FnExactStarsWithinUptoCardSaid : Prop := Claim7.holds Tryz.pinned (.plain (OpenSpec.upto fnExactStarsWithinSpec)) fnExactStarsWithinUptoCard
end Rows
end Go.Proofs.YtikfcadookimeaaGreatDoor
