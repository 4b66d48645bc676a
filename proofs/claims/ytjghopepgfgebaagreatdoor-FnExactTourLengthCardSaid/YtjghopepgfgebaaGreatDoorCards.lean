/-
  DERIVED. GIVEN WITH THE SEED: THE CARDS: each row of YtjghopepgfgebaaGreatDoorRows.lean that lists a variable, with what it lists TIED to the program's text (the seventh form; the later family's looks); each row that meets fmt, with fmt's text TOLD by the authors' own Lean function (tested against real Go, not proved from fmt's source: count such statements apart). THE CARD IS WHAT COUNTS. Prove the row's statement (the work); the ties are given (YtjghopepgfgebaaGreatDoorTie.lean); close each card by the builder's one call (the guide's Derived/Test/ToyasCard.lean, 'card_holds'). Laid BY PROGRAM, IN A SANDBOX (cutbox-door.mjs). By AI agents, Wed Nov 11 2026. No macro, syntax, notation, axiom, sorry.
-/
import Derived.Test.YtjghopepgfgebaaGreatDoorRows
import GoSem.ClaimSeven
namespace Go.Proofs.YtjghopepgfgebaaGreatDoor
namespace Rows

/-- THE TIED CARD OF 'laws.FnExactVisibleStars'. -/
def fnExactVisibleStarsCard : Claim7 := { stood := { row := fnExactVisibleStarsRow, standIns := [], harness := (true, "11063c8e403fffc07c21eeaa2417346561ec1e167b6d2726c2f0292f4d453b2b"), looks := false }, kinds := [], alts := [], laidByText := true, laidKinds := [.data], laidTests := true, laidLooks := .later }
def FnExactVisibleStarsCardSaid : Prop := Claim7.holds Tryz.pinned (.plain (OpenSpec.ofChange fnExactVisibleStarsSpec)) fnExactVisibleStarsCard

/-- THE TIED CARD OF 'laws.FnExactTourLength'. -/
def fnExactTourLengthCard : Claim7 := { stood := { row := fnExactTourLengthRow, standIns := [], harness := (true, "11063c8e403fffc07c21eeaa2417346561ec1e167b6d2726c2f0292f4d453b2b"), looks := false }, kinds := [], alts := [], laidByText := true, laidKinds := [.data], laidTests := true, laidLooks := .later }
def FnExactTourLengthCardSaid : Prop := Claim7.holds Tryz.pinned (.plain (OpenSpec.ofChange fnExactTourLengthSpec)) fnExactTourLengthCard

/-- THE SECOND FORM's CARD OF 'laws.FnExactVisibleStars'. -/
def fnExactVisibleStarsUptoCard : Claim7 := { stood := { row := fnExactVisibleStarsUptoRow, standIns := [], harness := (true, "11063c8e403fffc07c21eeaa2417346561ec1e167b6d2726c2f0292f4d453b2b"), looks := false }, kinds := [], alts := [], laidByText := true, laidKinds := [.data], laidTests := true, laidLooks := .later }
def FnExactVisibleStarsUptoCardSaid : Prop := Claim7.holds Tryz.pinned (.plain (OpenSpec.upto fnExactVisibleStarsSpec)) fnExactVisibleStarsUptoCard

/-- THE SECOND FORM's CARD OF 'laws.FnExactTourLength'. -/
def fnExactTourLengthUptoCard : Claim7 := { stood := { row := fnExactTourLengthUptoRow, standIns := [], harness := (true, "11063c8e403fffc07c21eeaa2417346561ec1e167b6d2726c2f0292f4d453b2b"), looks := false }, kinds := [], alts := [], laidByText := true, laidKinds := [.data], laidTests := true, laidLooks := .later }
def FnExactTourLengthUptoCardSaid : Prop := Claim7.holds Tryz.pinned (.plain (OpenSpec.upto fnExactTourLengthSpec)) fnExactTourLengthUptoCard
end Rows
end Go.Proofs.YtjghopepgfgebaaGreatDoor
