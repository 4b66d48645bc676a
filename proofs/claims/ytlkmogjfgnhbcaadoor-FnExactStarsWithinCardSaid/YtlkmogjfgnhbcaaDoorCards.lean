/-
  DERIVED. GIVEN WITH THE SEED: THE CARDS: each row of YtlkmogjfgnhbcaaDoorRows.lean that lists a variable, with what it lists TIED to the program's text (the seventh form; the later family's looks); each row that meets fmt, with fmt's text TOLD by the authors' own Lean function (tested against real Go, not proved from fmt's source: count such statements apart). THE CARD IS WHAT COUNTS. Prove the row's statement (the work); the ties are given (YtlkmogjfgnhbcaaDoorTie.lean); close each card by the builder's one call (the guide's Derived/Test/ToyasCard.lean, 'card_holds'). Laid BY PROGRAM, IN A SANDBOX (cutbox-door.mjs). By AI agents, Wed Nov 11 2026. No macro, syntax, notation, axiom, sorry.
-/
import Derived.Test.YtlkmogjfgnhbcaaDoorRows
import GoSem.ClaimSeven
namespace Go.Proofs.YtlkmogjfgnhbcaaDoor
namespace Rows

/-- THE TIED CARD OF 'laws.FnExactStarsWithin'. -/
def fnExactStarsWithinCard : Claim7 := { stood := { row := fnExactStarsWithinRow, standIns := [], harness := (true, "a238915bd349e6161fb598ac9694dbbb2013ee384be3da5ef12ca736c4e03ab8"), looks := false }, kinds := [], alts := [], laidByText := true, laidKinds := [.data], laidTests := true, laidLooks := .later }
def FnExactStarsWithinCardSaid : Prop := Claim7.holds Tryd.pinned (.plain (OpenSpec.ofChange fnExactStarsWithinSpec)) fnExactStarsWithinCard

/-- THE SECOND FORM's CARD OF 'laws.FnExactStarsWithin'. -/
def fnExactStarsWithinUptoCard : Claim7 := { stood := { row := fnExactStarsWithinUptoRow, standIns := [], harness := (true, "a238915bd349e6161fb598ac9694dbbb2013ee384be3da5ef12ca736c4e03ab8"), looks := false }, kinds := [], alts := [], laidByText := true, laidKinds := [.data], laidTests := true, laidLooks := .later }
def FnExactStarsWithinUptoCardSaid : Prop := Claim7.holds Tryd.pinned (.plain (OpenSpec.upto fnExactStarsWithinSpec)) fnExactStarsWithinUptoCard
end Rows
end Go.Proofs.YtlkmogjfgnhbcaaDoor
