/-
  DERIVED. GIVEN WITH THE SEED: THE CARDS: each row of YtcehiagpknmmeaaGreatDoorRows.lean that lists a variable, with what it lists TIED to the program's text (the seventh form; the later family's looks); each row that meets fmt, with fmt's text TOLD by the authors' own Lean function (tested against real Go, not proved from fmt's source: count such statements apart). THE CARD IS WHAT COUNTS. Prove the row's statement (the work); the ties are given (YtcehiagpknmmeaaGreatDoorTie.lean); close each card by the builder's one call (the guide's Derived/Test/ToyasCard.lean, 'card_holds'). Laid BY PROGRAM, IN A SANDBOX (cutbox-door.mjs). By AI agents, Wed Nov 11 2026. No macro, syntax, notation, axiom, sorry.
-/
import Derived.Test.YtcehiagpknmmeaaGreatDoorRows
import GoSem.ClaimSeven
namespace Go.Proofs.YtcehiagpknmmeaaGreatDoor
namespace Rows

/-- THE TIED CARD OF 'laws.FnExactTourLength'. -/
def fnExactTourLengthCard : Claim7 := { stood := { row := fnExactTourLengthRow, standIns := [], harness := (true, "f64f4bd262e4c3fb6b313196772b1fc20ca1ca37418fb1042e84805c12ae7556"), looks := false }, kinds := [], alts := [], laidByText := true, laidKinds := [.data], laidTests := true, laidLooks := .later }
def FnExactTourLengthCardSaid : Prop := Claim7.holds Tryz.pinned (.plain (OpenSpec.ofChange fnExactTourLengthSpec)) fnExactTourLengthCard

/-- THE TIED CARD OF 'laws.FnExactNearestTour'. -/
def fnExactNearestTourCard : Claim7 := { stood := { row := fnExactNearestTourRow, standIns := [], harness := (true, "f64f4bd262e4c3fb6b313196772b1fc20ca1ca37418fb1042e84805c12ae7556"), looks := false }, kinds := [], alts := [], laidByText := true, laidKinds := [.data], laidTests := true, laidLooks := .later }
def FnExactNearestTourCardSaid : Prop := Claim7.holds Tryz.pinned (.plain (OpenSpec.ofChange fnExactNearestTourSpec)) fnExactNearestTourCard

/-- THE SECOND FORM's CARD OF 'laws.FnExactTourLength'. -/
def fnExactTourLengthUptoCard : Claim7 := { stood := { row := fnExactTourLengthUptoRow, standIns := [], harness := (true, "f64f4bd262e4c3fb6b313196772b1fc20ca1ca37418fb1042e84805c12ae7556"), looks := false }, kinds := [], alts := [], laidByText := true, laidKinds := [.data], laidTests := true, laidLooks := .later }
def FnExactTourLengthUptoCardSaid : Prop := Claim7.holds Tryz.pinned (.plain (OpenSpec.upto fnExactTourLengthSpec)) fnExactTourLengthUptoCard

/-- THE SECOND FORM's CARD OF 'laws.FnExactNearestTour'. -/
def fnExactNearestTourUptoCard : Claim7 := { stood := { row := fnExactNearestTourUptoRow, standIns := [], harness := (true, "f64f4bd262e4c3fb6b313196772b1fc20ca1ca37418fb1042e84805c12ae7556"), looks := false }, kinds := [], alts := [], laidByText := true, laidKinds := [.data], laidTests := true, laidLooks := .later }
def FnExactNearestTourUptoCardSaid : Prop := Claim7.holds Tryz.pinned (.plain (OpenSpec.upto fnExactNearestTourSpec)) fnExactNearestTourUptoCard
end Rows
end Go.Proofs.YtcehiagpknmmeaaGreatDoor
