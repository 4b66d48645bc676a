/-
  DERIVED. GIVEN WITH THE SEED: THE CARDS: each row of YtcehiagpknmmeaaDoorRows.lean that lists a variable, with what it lists TIED to the program's text (the seventh form; the later family's looks); each row that meets fmt, with fmt's text TOLD by the authors' own Lean function (tested against real Go, not proved from fmt's source: count such statements apart). THE CARD IS WHAT COUNTS. Prove the row's statement (the work); the ties are given (YtcehiagpknmmeaaDoorTie.lean); close each card by the builder's one call (the guide's Derived/Test/ToyasCard.lean, 'card_holds'). Laid BY PROGRAM, IN A SANDBOX (cutbox-door.mjs). By AI agents, Wed Nov 11 2026. No macro, syntax, notation, axiom, sorry.
-/
import Derived.Test.YtcehiagpknmmeaaDoorRows
import GoSem.ClaimSeven
namespace Go.Proofs.YtcehiagpknmmeaaDoor
namespace Rows

/-- THE TIED CARD OF 'laws.FnSidereal'. -/
def fnSiderealCard : Claim7 := { stood := { row := fnSiderealRow, standIns := [], harness := (true, "0143b90ea144ce5e1d5abbac317253d2b2c80969f65e485d69329e5c9cdd8529"), looks := false }, kinds := [], alts := [], laidByText := true, laidKinds := [.data], laidTests := true, laidLooks := .later }
def FnSiderealCardSaid : Prop := Claim7.holds Tryd.pinned (.plain (OpenSpec.ofChange fnSiderealSpec)) fnSiderealCard

/-- THE SECOND FORM's CARD OF 'laws.FnSidereal'. -/
def fnSiderealUptoCard : Claim7 := { stood := { row := fnSiderealUptoRow, standIns := [], harness := (true, "0143b90ea144ce5e1d5abbac317253d2b2c80969f65e485d69329e5c9cdd8529"), looks := false }, kinds := [], alts := [], laidByText := true, laidKinds := [.data], laidTests := true, laidLooks := .later }
def FnSiderealUptoCardSaid : Prop := Claim7.holds Tryd.pinned (.plain (OpenSpec.upto fnSiderealSpec)) fnSiderealUptoCard
end Rows
end Go.Proofs.YtcehiagpknmmeaaDoor
