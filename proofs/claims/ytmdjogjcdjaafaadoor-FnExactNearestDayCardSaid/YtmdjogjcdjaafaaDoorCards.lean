/-
  DERIVED. GIVEN WITH THE SEED: THE CARDS: each row of YtmdjogjcdjaafaaDoorRows.lean that lists a variable, with what it lists TIED to the program's text (the seventh form; the later family's looks); each row that meets fmt, with fmt's text TOLD by the authors' own Lean function (tested against real Go, not proved from fmt's source: count such statements apart). THE CARD IS WHAT COUNTS. Prove the row's statement (the work); the ties are given (YtmdjogjcdjaafaaDoorTie.lean); close each card by the builder's one call (the guide's Derived/Test/ToyasCard.lean, 'card_holds'). Laid BY PROGRAM, IN A SANDBOX (cutbox-door.mjs). By AI agents, Wed Nov 11 2026. No macro, syntax, notation, axiom, sorry.
-/
import Derived.Test.YtmdjogjcdjaafaaDoorRows
import GoSem.ClaimSeven
namespace Go.Proofs.YtmdjogjcdjaafaaDoor
namespace Rows

/-- THE TIED CARD OF 'laws.FnExactPlaceInOrbit'. -/
def fnExactPlaceInOrbitCard : Claim7 := { stood := { row := fnExactPlaceInOrbitRow, standIns := [], harness := (true, "0833dee06580ae2f12c80fedc4f51fa08804fd986017d538c8f626a0cfb55792"), looks := false }, kinds := [], alts := [], laidByText := true, laidKinds := [.data], laidTests := true, laidLooks := .later }
def FnExactPlaceInOrbitCardSaid : Prop := Claim7.holds Tryd.pinned (.plain (OpenSpec.ofChange fnExactPlaceInOrbitSpec)) fnExactPlaceInOrbitCard

/-- THE TIED CARD OF 'laws.FnExactSeenAngle'. -/
def fnExactSeenAngleCard : Claim7 := { stood := { row := fnExactSeenAngleRow, standIns := [], harness := (true, "0833dee06580ae2f12c80fedc4f51fa08804fd986017d538c8f626a0cfb55792"), looks := false }, kinds := [], alts := [], laidByText := true, laidKinds := [.data], laidTests := true, laidLooks := .later }
def FnExactSeenAngleCardSaid : Prop := Claim7.holds Tryd.pinned (.plain (OpenSpec.ofChange fnExactSeenAngleSpec)) fnExactSeenAngleCard

/-- THE TIED CARD OF 'laws.FnExactSeenDistance'. -/
def fnExactSeenDistanceCard : Claim7 := { stood := { row := fnExactSeenDistanceRow, standIns := [], harness := (true, "0833dee06580ae2f12c80fedc4f51fa08804fd986017d538c8f626a0cfb55792"), looks := false }, kinds := [], alts := [], laidByText := true, laidKinds := [.data], laidTests := true, laidLooks := .later }
def FnExactSeenDistanceCardSaid : Prop := Claim7.holds Tryd.pinned (.plain (OpenSpec.ofChange fnExactSeenDistanceSpec)) fnExactSeenDistanceCard

/-- THE TIED CARD OF 'laws.FnExactElongation'. -/
def fnExactElongationCard : Claim7 := { stood := { row := fnExactElongationRow, standIns := [], harness := (true, "0833dee06580ae2f12c80fedc4f51fa08804fd986017d538c8f626a0cfb55792"), looks := false }, kinds := [], alts := [], laidByText := true, laidKinds := [.data], laidTests := true, laidLooks := .later }
def FnExactElongationCardSaid : Prop := Claim7.holds Tryd.pinned (.plain (OpenSpec.ofChange fnExactElongationSpec)) fnExactElongationCard

/-- THE TIED CARD OF 'laws.FnExactPhaseOf'. -/
def fnExactPhaseOfCard : Claim7 := { stood := { row := fnExactPhaseOfRow, standIns := [], harness := (true, "0833dee06580ae2f12c80fedc4f51fa08804fd986017d538c8f626a0cfb55792"), looks := false }, kinds := [], alts := [], laidByText := true, laidKinds := [.data], laidTests := true, laidLooks := .later }
def FnExactPhaseOfCardSaid : Prop := Claim7.holds Tryd.pinned (.plain (OpenSpec.ofChange fnExactPhaseOfSpec)) fnExactPhaseOfCard

/-- THE TIED CARD OF 'laws.FnExactIsRetrograde'. -/
def fnExactIsRetrogradeCard : Claim7 := { stood := { row := fnExactIsRetrogradeRow, standIns := [], harness := (true, "0833dee06580ae2f12c80fedc4f51fa08804fd986017d538c8f626a0cfb55792"), looks := false }, kinds := [], alts := [], laidByText := true, laidKinds := [.data], laidTests := true, laidLooks := .later }
def FnExactIsRetrogradeCardSaid : Prop := Claim7.holds Tryd.pinned (.plain (OpenSpec.ofChange fnExactIsRetrogradeSpec)) fnExactIsRetrogradeCard

/-- THE TIED CARD OF 'laws.FnExactNearestDay'. -/
def fnExactNearestDayCard : Claim7 := { stood := { row := fnExactNearestDayRow, standIns := [], harness := (true, "0833dee06580ae2f12c80fedc4f51fa08804fd986017d538c8f626a0cfb55792"), looks := false }, kinds := [], alts := [], laidByText := true, laidKinds := [.data], laidTests := true, laidLooks := .later }
def FnExactNearestDayCardSaid : Prop := Claim7.holds Tryd.pinned (.plain (OpenSpec.ofChange fnExactNearestDaySpec)) fnExactNearestDayCard

/-- THE SECOND FORM's CARD OF 'laws.FnExactPlaceInOrbit'. -/
def fnExactPlaceInOrbitUptoCard : Claim7 := { stood := { row := fnExactPlaceInOrbitUptoRow, standIns := [], harness := (true, "0833dee06580ae2f12c80fedc4f51fa08804fd986017d538c8f626a0cfb55792"), looks := false }, kinds := [], alts := [], laidByText := true, laidKinds := [.data], laidTests := true, laidLooks := .later }
def FnExactPlaceInOrbitUptoCardSaid : Prop := Claim7.holds Tryd.pinned (.plain (OpenSpec.upto fnExactPlaceInOrbitSpec)) fnExactPlaceInOrbitUptoCard

/-- THE SECOND FORM's CARD OF 'laws.FnExactSeenAngle'. -/
def fnExactSeenAngleUptoCard : Claim7 := { stood := { row := fnExactSeenAngleUptoRow, standIns := [], harness := (true, "0833dee06580ae2f12c80fedc4f51fa08804fd986017d538c8f626a0cfb55792"), looks := false }, kinds := [], alts := [], laidByText := true, laidKinds := [.data], laidTests := true, laidLooks := .later }
def FnExactSeenAngleUptoCardSaid : Prop := Claim7.holds Tryd.pinned (.plain (OpenSpec.upto fnExactSeenAngleSpec)) fnExactSeenAngleUptoCard

/-- THE SECOND FORM's CARD OF 'laws.FnExactSeenDistance'. -/
def fnExactSeenDistanceUptoCard : Claim7 := { stood := { row := fnExactSeenDistanceUptoRow, standIns := [], harness := (true, "0833dee06580ae2f12c80fedc4f51fa08804fd986017d538c8f626a0cfb55792"), looks := false }, kinds := [], alts := [], laidByText := true, laidKinds := [.data], laidTests := true, laidLooks := .later }
def FnExactSeenDistanceUptoCardSaid : Prop := Claim7.holds Tryd.pinned (.plain (OpenSpec.upto fnExactSeenDistanceSpec)) fnExactSeenDistanceUptoCard

/-- THE SECOND FORM's CARD OF 'laws.FnExactElongation'. -/
def fnExactElongationUptoCard : Claim7 := { stood := { row := fnExactElongationUptoRow, standIns := [], harness := (true, "0833dee06580ae2f12c80fedc4f51fa08804fd986017d538c8f626a0cfb55792"), looks := false }, kinds := [], alts := [], laidByText := true, laidKinds := [.data], laidTests := true, laidLooks := .later }
def FnExactElongationUptoCardSaid : Prop := Claim7.holds Tryd.pinned (.plain (OpenSpec.upto fnExactElongationSpec)) fnExactElongationUptoCard

/-- THE SECOND FORM's CARD OF 'laws.FnExactPhaseOf'. -/
def fnExactPhaseOfUptoCard : Claim7 := { stood := { row := fnExactPhaseOfUptoRow, standIns := [], harness := (true, "0833dee06580ae2f12c80fedc4f51fa08804fd986017d538c8f626a0cfb55792"), looks := false }, kinds := [], alts := [], laidByText := true, laidKinds := [.data], laidTests := true, laidLooks := .later }
def FnExactPhaseOfUptoCardSaid : Prop := Claim7.holds Tryd.pinned (.plain (OpenSpec.upto fnExactPhaseOfSpec)) fnExactPhaseOfUptoCard

/-- THE SECOND FORM's CARD OF 'laws.FnExactIsRetrograde'. -/
def fnExactIsRetrogradeUptoCard : Claim7 := { stood := { row := fnExactIsRetrogradeUptoRow, standIns := [], harness := (true, "0833dee06580ae2f12c80fedc4f51fa08804fd986017d538c8f626a0cfb55792"), looks := false }, kinds := [], alts := [], laidByText := true, laidKinds := [.data], laidTests := true, laidLooks := .later }
def FnExactIsRetrogradeUptoCardSaid : Prop := Claim7.holds Tryd.pinned (.plain (OpenSpec.upto fnExactIsRetrogradeSpec)) fnExactIsRetrogradeUptoCard

/-- THE SECOND FORM's CARD OF 'laws.FnExactNearestDay'. -/
def fnExactNearestDayUptoCard : Claim7 := { stood := { row := fnExactNearestDayUptoRow, standIns := [], harness := (true, "0833dee06580ae2f12c80fedc4f51fa08804fd986017d538c8f626a0cfb55792"), looks := false }, kinds := [], alts := [], laidByText := true, laidKinds := [.data], laidTests := true, laidLooks := .later }
def FnExactNearestDayUptoCardSaid : Prop := Claim7.holds Tryd.pinned (.plain (OpenSpec.upto fnExactNearestDaySpec)) fnExactNearestDayUptoCard
end Rows
end Go.Proofs.YtmdjogjcdjaafaaDoor
