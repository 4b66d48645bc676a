/-
  DERIVED. GIVEN WITH THE SEED: THE CARDS: each row of YtoopjbhjdjbmeaaDoorRows.lean that lists a variable, with what it lists TIED to the program's text (the seventh form; the later family's looks); each row that meets fmt, with fmt's text TOLD by the authors' own Lean function (tested against real Go, not proved from fmt's source: count such statements apart). THE CARD IS WHAT COUNTS. Prove the row's statement (the work); the ties are given (YtoopjbhjdjbmeaaDoorTie.lean); close each card by the builder's one call (the guide's Derived/Test/ToyasCard.lean, 'card_holds'). Laid BY PROGRAM, IN A SANDBOX (cutbox-door.mjs). By AI agents, Wed Nov 11 2026. No macro, syntax, notation, axiom, sorry.
-/
import Derived.Test.YtoopjbhjdjbmeaaDoorRows
import GoSem.ClaimSeven
namespace Go.Proofs.YtoopjbhjdjbmeaaDoor
namespace Rows

/-- THE TIED CARD OF 'laws.FnExactFluxOf'. -/
def fnExactFluxOfCard : Claim7 := { stood := { row := fnExactFluxOfRow, standIns := [], harness := (true, "74f9bf939fef7dc2c39de3435ca130a117d64b8d27e4a032116b852cca32f3c2"), looks := false }, kinds := [], alts := [], laidByText := true, laidKinds := [.data], laidTests := true, laidLooks := .later }
def FnExactFluxOfCardSaid : Prop := Claim7.holds Tryd.pinned (.plain (OpenSpec.ofChange fnExactFluxOfSpec)) fnExactFluxOfCard

/-- THE TIED CARD OF 'laws.FnExactMagnitudeOf'. -/
def fnExactMagnitudeOfCard : Claim7 := { stood := { row := fnExactMagnitudeOfRow, standIns := [], harness := (true, "74f9bf939fef7dc2c39de3435ca130a117d64b8d27e4a032116b852cca32f3c2"), looks := false }, kinds := [], alts := [], laidByText := true, laidKinds := [.data], laidTests := true, laidLooks := .later }
def FnExactMagnitudeOfCardSaid : Prop := Claim7.holds Tryd.pinned (.plain (OpenSpec.ofChange fnExactMagnitudeOfSpec)) fnExactMagnitudeOfCard

/-- THE TIED CARD OF 'laws.FnExactColourName'. -/
def fnExactColourNameCard : Claim7 := { stood := { row := fnExactColourNameRow, standIns := [], harness := (true, "74f9bf939fef7dc2c39de3435ca130a117d64b8d27e4a032116b852cca32f3c2"), looks := false }, kinds := [], alts := [], laidByText := true, laidKinds := [.data], laidTests := true, laidLooks := .later }
def FnExactColourNameCardSaid : Prop := Claim7.holds Tryd.pinned (.plain (OpenSpec.ofChange fnExactColourNameSpec)) fnExactColourNameCard

/-- THE TIED CARD OF 'laws.FnExactTotalMagnitude'. -/
def fnExactTotalMagnitudeCard : Claim7 := { stood := { row := fnExactTotalMagnitudeRow, standIns := [], harness := (true, "74f9bf939fef7dc2c39de3435ca130a117d64b8d27e4a032116b852cca32f3c2"), looks := false }, kinds := [], alts := [], laidByText := true, laidKinds := [.data], laidTests := true, laidLooks := .later }
def FnExactTotalMagnitudeCardSaid : Prop := Claim7.holds Tryd.pinned (.plain (OpenSpec.ofChange fnExactTotalMagnitudeSpec)) fnExactTotalMagnitudeCard

/-- THE TIED CARD OF 'laws.FnFlux'. -/
def fnFluxCard : Claim7 := { stood := { row := fnFluxRow, standIns := [], harness := (true, "74f9bf939fef7dc2c39de3435ca130a117d64b8d27e4a032116b852cca32f3c2"), looks := false }, kinds := [], alts := [], laidByText := true, laidKinds := [.data, .data], laidTests := true, laidLooks := .later }
def FnFluxCardSaid : Prop := Claim7.holds Tryd.pinned (.plain (OpenSpec.ofChange fnFluxSpec)) fnFluxCard

/-- THE TIED CARD OF 'laws.FnExactStarsWithin'. -/
def fnExactStarsWithinCard : Claim7 := { stood := { row := fnExactStarsWithinRow, standIns := [], harness := (true, "74f9bf939fef7dc2c39de3435ca130a117d64b8d27e4a032116b852cca32f3c2"), looks := false }, kinds := [], alts := [], laidByText := true, laidKinds := [.data], laidTests := true, laidLooks := .later }
def FnExactStarsWithinCardSaid : Prop := Claim7.holds Tryd.pinned (.plain (OpenSpec.ofChange fnExactStarsWithinSpec)) fnExactStarsWithinCard

/-- THE TIED CARD OF 'laws.FnExactNearestStar'. -/
def fnExactNearestStarCard : Claim7 := { stood := { row := fnExactNearestStarRow, standIns := [], harness := (true, "74f9bf939fef7dc2c39de3435ca130a117d64b8d27e4a032116b852cca32f3c2"), looks := false }, kinds := [], alts := [], laidByText := true, laidKinds := [.data], laidTests := true, laidLooks := .later }
def FnExactNearestStarCardSaid : Prop := Claim7.holds Tryd.pinned (.plain (OpenSpec.ofChange fnExactNearestStarSpec)) fnExactNearestStarCard

/-- THE SECOND FORM's CARD OF 'laws.FnExactFluxOf'. -/
def fnExactFluxOfUptoCard : Claim7 := { stood := { row := fnExactFluxOfUptoRow, standIns := [], harness := (true, "74f9bf939fef7dc2c39de3435ca130a117d64b8d27e4a032116b852cca32f3c2"), looks := false }, kinds := [], alts := [], laidByText := true, laidKinds := [.data], laidTests := true, laidLooks := .later }
def FnExactFluxOfUptoCardSaid : Prop := Claim7.holds Tryd.pinned (.plain (OpenSpec.upto fnExactFluxOfSpec)) fnExactFluxOfUptoCard

/-- THE SECOND FORM's CARD OF 'laws.FnExactMagnitudeOf'. -/
def fnExactMagnitudeOfUptoCard : Claim7 := { stood := { row := fnExactMagnitudeOfUptoRow, standIns := [], harness := (true, "74f9bf939fef7dc2c39de3435ca130a117d64b8d27e4a032116b852cca32f3c2"), looks := false }, kinds := [], alts := [], laidByText := true, laidKinds := [.data], laidTests := true, laidLooks := .later }
def FnExactMagnitudeOfUptoCardSaid : Prop := Claim7.holds Tryd.pinned (.plain (OpenSpec.upto fnExactMagnitudeOfSpec)) fnExactMagnitudeOfUptoCard

/-- THE SECOND FORM's CARD OF 'laws.FnExactColourName'. -/
def fnExactColourNameUptoCard : Claim7 := { stood := { row := fnExactColourNameUptoRow, standIns := [], harness := (true, "74f9bf939fef7dc2c39de3435ca130a117d64b8d27e4a032116b852cca32f3c2"), looks := false }, kinds := [], alts := [], laidByText := true, laidKinds := [.data], laidTests := true, laidLooks := .later }
def FnExactColourNameUptoCardSaid : Prop := Claim7.holds Tryd.pinned (.plain (OpenSpec.upto fnExactColourNameSpec)) fnExactColourNameUptoCard

/-- THE SECOND FORM's CARD OF 'laws.FnExactTotalMagnitude'. -/
def fnExactTotalMagnitudeUptoCard : Claim7 := { stood := { row := fnExactTotalMagnitudeUptoRow, standIns := [], harness := (true, "74f9bf939fef7dc2c39de3435ca130a117d64b8d27e4a032116b852cca32f3c2"), looks := false }, kinds := [], alts := [], laidByText := true, laidKinds := [.data], laidTests := true, laidLooks := .later }
def FnExactTotalMagnitudeUptoCardSaid : Prop := Claim7.holds Tryd.pinned (.plain (OpenSpec.upto fnExactTotalMagnitudeSpec)) fnExactTotalMagnitudeUptoCard

/-- THE SECOND FORM's CARD OF 'laws.FnFlux'. -/
def fnFluxUptoCard : Claim7 := { stood := { row := fnFluxUptoRow, standIns := [], harness := (true, "74f9bf939fef7dc2c39de3435ca130a117d64b8d27e4a032116b852cca32f3c2"), looks := false }, kinds := [], alts := [], laidByText := true, laidKinds := [.data, .data], laidTests := true, laidLooks := .later }
def FnFluxUptoCardSaid : Prop := Claim7.holds Tryd.pinned (.plain (OpenSpec.upto fnFluxSpec)) fnFluxUptoCard

/-- THE SECOND FORM's CARD OF 'laws.FnExactStarsWithin'. -/
def fnExactStarsWithinUptoCard : Claim7 := { stood := { row := fnExactStarsWithinUptoRow, standIns := [], harness := (true, "74f9bf939fef7dc2c39de3435ca130a117d64b8d27e4a032116b852cca32f3c2"), looks := false }, kinds := [], alts := [], laidByText := true, laidKinds := [.data], laidTests := true, laidLooks := .later }
def FnExactStarsWithinUptoCardSaid : Prop := Claim7.holds Tryd.pinned (.plain (OpenSpec.upto fnExactStarsWithinSpec)) fnExactStarsWithinUptoCard

/-- THE SECOND FORM's CARD OF 'laws.FnExactNearestStar'. -/
def fnExactNearestStarUptoCard : Claim7 := { stood := { row := fnExactNearestStarUptoRow, standIns := [], harness := (true, "74f9bf939fef7dc2c39de3435ca130a117d64b8d27e4a032116b852cca32f3c2"), looks := false }, kinds := [], alts := [], laidByText := true, laidKinds := [.data], laidTests := true, laidLooks := .later }
def FnExactNearestStarUptoCardSaid : Prop := Claim7.holds Tryd.pinned (.plain (OpenSpec.upto fnExactNearestStarSpec)) fnExactNearestStarUptoCard
end Rows
end Go.Proofs.YtoopjbhjdjbmeaaDoor
