/-
  DERIVED. GIVEN WITH THE SEED: THE CARDS: each row of YtlnpaihoihlpeaaDoorRows.lean that lists a variable, with what it lists TIED to the program's text (the seventh form; the later family's looks); each row that meets fmt, with fmt's text TOLD by the authors' own Lean function (tested against real Go, not proved from fmt's source: count such statements apart). THE CARD IS WHAT COUNTS. Prove the row's statement (the work); the ties are given (YtlnpaihoihlpeaaDoorTie.lean); close each card by the builder's one call (the guide's Derived/Test/ToyasCard.lean, 'card_holds'). Laid BY PROGRAM, IN A SANDBOX (cutbox-door.mjs). By AI agents, Wed Nov 11 2026. No macro, syntax, notation, axiom, sorry.
-/
import Derived.Test.YtlnpaihoihlpeaaDoorRows
import GoSem.ClaimSeven
namespace Go.Proofs.YtlnpaihoihlpeaaDoor
namespace Rows

/-- THE TIED CARD OF 'laws.FnExactLineLength'. -/
def fnExactLineLengthCard : Claim7 := { stood := { row := fnExactLineLengthRow, standIns := [], harness := (true, "d164ed75c59386824e4669dbb90b6cd9a6fef8a5138ff16e3d2270d8b1d2f80d"), looks := false }, kinds := [], alts := [], laidByText := true, laidKinds := [.data], laidTests := true, laidLooks := .later }
def FnExactLineLengthCardSaid : Prop := Claim7.holds Tryd.pinned (.plain (OpenSpec.ofChange fnExactLineLengthSpec)) fnExactLineLengthCard

/-- THE SECOND FORM's CARD OF 'laws.FnExactLineLength'. -/
def fnExactLineLengthUptoCard : Claim7 := { stood := { row := fnExactLineLengthUptoRow, standIns := [], harness := (true, "d164ed75c59386824e4669dbb90b6cd9a6fef8a5138ff16e3d2270d8b1d2f80d"), looks := false }, kinds := [], alts := [], laidByText := true, laidKinds := [.data], laidTests := true, laidLooks := .later }
def FnExactLineLengthUptoCardSaid : Prop := Claim7.holds Tryd.pinned (.plain (OpenSpec.upto fnExactLineLengthSpec)) fnExactLineLengthUptoCard
end Rows
end Go.Proofs.YtlnpaihoihlpeaaDoor
