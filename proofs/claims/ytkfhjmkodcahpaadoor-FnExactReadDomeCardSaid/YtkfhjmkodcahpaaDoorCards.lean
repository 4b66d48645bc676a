/-
  DERIVED. GIVEN WITH THE SEED: THE CARDS: each row of YtkfhjmkodcahpaaDoorRows.lean that lists a variable, with what it lists TIED to the program's text (the seventh form; the later family's looks); each row that meets fmt, with fmt's text TOLD by the authors' own Lean function (tested against real Go, not proved from fmt's source: count such statements apart). THE CARD IS WHAT COUNTS. Prove the row's statement (the work); the ties are given (YtkfhjmkodcahpaaDoorTie.lean); close each card by the builder's one call (the guide's Derived/Test/ToyasCard.lean, 'card_holds'). Laid BY PROGRAM, IN A SANDBOX (cutbox-door.mjs). By AI agents, Wed Nov 11 2026. No macro, syntax, notation, axiom, sorry.
-/
import Derived.Test.YtkfhjmkodcahpaaDoorRows
import GoSem.ClaimSeven
namespace Go.Proofs.YtkfhjmkodcahpaaDoor
namespace Rows

/-- THE TIED CARD OF 'laws.FnExactReadPlanet'. -/
def fnExactReadPlanetCard : Claim7 := { stood := { row := fnExactReadPlanetRow, standIns := [], harness := (true, "66f1ec45010e03dba58d503df62703653d86a82163d2d0c988f221a3a3674b19"), looks := true }, kinds := [], alts := [], laidByText := true, laidKinds := [.data, .data, .data, .data, .sentinel, .sentinel, .pinned], laidTests := true, laidLooks := .later }
def FnExactReadPlanetCardSaid : Prop := Claim7.holds Tryd.pinned (.plain (OpenSpec.ofChange fnExactReadPlanetSpec)) fnExactReadPlanetCard

/-- THE TIED CARD OF 'laws.FnExactReadDome'. -/
def fnExactReadDomeCard : Claim7 := { stood := { row := fnExactReadDomeRow, standIns := [], harness := (true, "66f1ec45010e03dba58d503df62703653d86a82163d2d0c988f221a3a3674b19"), looks := true }, kinds := [], alts := [], laidByText := true, laidKinds := [.data, .data, .data, .data, .sentinel, .sentinel, .pinned], laidTests := true, laidLooks := .later }
def FnExactReadDomeCardSaid : Prop := Claim7.holds Tryd.pinned (.plain (OpenSpec.ofChange fnExactReadDomeSpec)) fnExactReadDomeCard

/-- THE SECOND FORM's CARD OF 'laws.FnExactReadPlanet'. -/
def fnExactReadPlanetUptoCard : Claim7 := { stood := { row := fnExactReadPlanetUptoRow, standIns := [], harness := (true, "66f1ec45010e03dba58d503df62703653d86a82163d2d0c988f221a3a3674b19"), looks := true }, kinds := [], alts := [], laidByText := true, laidKinds := [.data, .data, .data, .data, .sentinel, .sentinel, .pinned], laidTests := true, laidLooks := .later }
def FnExactReadPlanetUptoCardSaid : Prop := Claim7.holds Tryd.pinned (.plain (OpenSpec.upto fnExactReadPlanetSpec)) fnExactReadPlanetUptoCard

/-- THE SECOND FORM's CARD OF 'laws.FnExactReadDome'. -/
def fnExactReadDomeUptoCard : Claim7 := { stood := { row := fnExactReadDomeUptoRow, standIns := [], harness := (true, "66f1ec45010e03dba58d503df62703653d86a82163d2d0c988f221a3a3674b19"), looks := true }, kinds := [], alts := [], laidByText := true, laidKinds := [.data, .data, .data, .data, .sentinel, .sentinel, .pinned], laidTests := true, laidLooks := .later }
def FnExactReadDomeUptoCardSaid : Prop := Claim7.holds Tryd.pinned (.plain (OpenSpec.upto fnExactReadDomeSpec)) fnExactReadDomeUptoCard
end Rows
end Go.Proofs.YtkfhjmkodcahpaaDoor
