/-
  DERIVED. GIVEN WITH THE SEED: THE CARDS: each row of YtekebjjelkejbaaDoorRows.lean that lists a variable, with what it lists TIED to the program's text (the seventh form; the later family's looks); each row that meets fmt, with fmt's text TOLD by the authors' own Lean function (tested against real Go, not proved from fmt's source: count such statements apart). THE CARD IS WHAT COUNTS. Prove the row's statement (the work); the ties are given (YtekebjjelkejbaaDoorTie.lean); close each card by the builder's one call (the guide's Derived/Test/ToyasCard.lean, 'card_holds'). Laid BY PROGRAM, IN A SANDBOX (cutbox-door.mjs). By AI agents, Wed Nov 11 2026. No macro, syntax, notation, axiom, sorry.
-/
import Derived.Test.YtekebjjelkejbaaDoorRows
import GoSem.ClaimSeven
namespace Go.Proofs.YtekebjjelkejbaaDoor
namespace Rows

/-- THE TIED CARD OF 'laws.FnSidereal'. -/
def fnSiderealCard : Claim7 := { stood := { row := fnSiderealRow, standIns := [], harness := (true, "bfcd90545c028be13e76ba1c1406b9e718dbc65f220fef0901e601783c5de399"), looks := false }, kinds := [], alts := [], laidByText := true, laidKinds := [.data], laidTests := true, laidLooks := .later }
def FnSiderealCardSaid : Prop := Claim7.holds Tryd.pinned (.plain (OpenSpec.ofChange fnSiderealSpec)) fnSiderealCard

/-- THE TIED CARD OF 'laws.FnExactSunLongitude'. -/
def fnExactSunLongitudeCard : Claim7 := { stood := { row := fnExactSunLongitudeRow, standIns := [], harness := (true, "bfcd90545c028be13e76ba1c1406b9e718dbc65f220fef0901e601783c5de399"), looks := false }, kinds := [], alts := [], laidByText := true, laidKinds := [.data], laidTests := true, laidLooks := .later }
def FnExactSunLongitudeCardSaid : Prop := Claim7.holds Tryd.pinned (.plain (OpenSpec.ofChange fnExactSunLongitudeSpec)) fnExactSunLongitudeCard

/-- THE TIED CARD OF 'laws.FnExactSeasonOf'. -/
def fnExactSeasonOfCard : Claim7 := { stood := { row := fnExactSeasonOfRow, standIns := [], harness := (true, "bfcd90545c028be13e76ba1c1406b9e718dbc65f220fef0901e601783c5de399"), looks := false }, kinds := [], alts := [], laidByText := true, laidKinds := [.data], laidTests := true, laidLooks := .later }
def FnExactSeasonOfCardSaid : Prop := Claim7.holds Tryd.pinned (.plain (OpenSpec.ofChange fnExactSeasonOfSpec)) fnExactSeasonOfCard

/-- THE SECOND FORM's CARD OF 'laws.FnSidereal'. -/
def fnSiderealUptoCard : Claim7 := { stood := { row := fnSiderealUptoRow, standIns := [], harness := (true, "bfcd90545c028be13e76ba1c1406b9e718dbc65f220fef0901e601783c5de399"), looks := false }, kinds := [], alts := [], laidByText := true, laidKinds := [.data], laidTests := true, laidLooks := .later }
def FnSiderealUptoCardSaid : Prop := Claim7.holds Tryd.pinned (.plain (OpenSpec.upto fnSiderealSpec)) fnSiderealUptoCard

/-- THE SECOND FORM's CARD OF 'laws.FnExactSunLongitude'. -/
def fnExactSunLongitudeUptoCard : Claim7 := { stood := { row := fnExactSunLongitudeUptoRow, standIns := [], harness := (true, "bfcd90545c028be13e76ba1c1406b9e718dbc65f220fef0901e601783c5de399"), looks := false }, kinds := [], alts := [], laidByText := true, laidKinds := [.data], laidTests := true, laidLooks := .later }
def FnExactSunLongitudeUptoCardSaid : Prop := Claim7.holds Tryd.pinned (.plain (OpenSpec.upto fnExactSunLongitudeSpec)) fnExactSunLongitudeUptoCard

/-- THE SECOND FORM's CARD OF 'laws.FnExactSeasonOf'. -/
def fnExactSeasonOfUptoCard : Claim7 := { stood := { row := fnExactSeasonOfUptoRow, standIns := [], harness := (true, "bfcd90545c028be13e76ba1c1406b9e718dbc65f220fef0901e601783c5de399"), looks := false }, kinds := [], alts := [], laidByText := true, laidKinds := [.data], laidTests := true, laidLooks := .later }
def FnExactSeasonOfUptoCardSaid : Prop := Claim7.holds Tryd.pinned (.plain (OpenSpec.upto fnExactSeasonOfSpec)) fnExactSeasonOfUptoCard
end Rows
end Go.Proofs.YtekebjjelkejbaaDoor
