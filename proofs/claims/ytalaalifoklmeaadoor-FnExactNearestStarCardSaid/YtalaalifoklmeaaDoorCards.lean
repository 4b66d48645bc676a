/-
  DERIVED. GIVEN WITH THE SEED: THE CARDS: each row of YtalaalifoklmeaaDoorRows.lean that lists a variable, with what it lists TIED to the program's text (the seventh form; the later family's looks); each row that meets fmt, with fmt's text TOLD by the authors' own Lean function (tested against real Go, not proved from fmt's source: count such statements apart). THE CARD IS WHAT COUNTS. Prove the row's statement (the work); the ties are given (YtalaalifoklmeaaDoorTie.lean); close each card by the builder's one call (the guide's Derived/Test/ToyasCard.lean, 'card_holds'). Laid BY PROGRAM, IN A SANDBOX (cutbox-door.mjs). By AI agents, Wed Nov 11 2026. No macro, syntax, notation, axiom, sorry.
-/
import Derived.Test.YtalaalifoklmeaaDoorRows
import GoSem.ClaimSeven
namespace Go.Proofs.YtalaalifoklmeaaDoor
namespace Rows

/-- THE TIED CARD OF 'laws.FnExactPlanetText'. -/
def fnExactPlanetTextCard : Claim7 := { stood := { row := fnExactPlanetTextRow, standIns := [], harness := (true, "51c95fc21a50e8330d93bffe51857f695a4887367c9453b06c575beced3057ff"), looks := true }, kinds := [], alts := [], laidByText := true, laidKinds := [.data, .data, .data], laidTests := true, laidLooks := .later }
def FnExactPlanetTextCardSaid : Prop := Claim7.holds Tryd.pinned (.plain (OpenSpec.ofChange fnExactPlanetTextSpec)) fnExactPlanetTextCard

/-- THE TIED CARD OF 'laws.FnExactReadPlanet'. -/
def fnExactReadPlanetCard : Claim7 := { stood := { row := fnExactReadPlanetRow, standIns := [], harness := (true, "51c95fc21a50e8330d93bffe51857f695a4887367c9453b06c575beced3057ff"), looks := true }, kinds := [], alts := [], laidByText := true, laidKinds := [.data, .data, .data, .data, .sentinel, .sentinel, .pinned], laidTests := true, laidLooks := .later }
def FnExactReadPlanetCardSaid : Prop := Claim7.holds Tryd.pinned (.plain (OpenSpec.ofChange fnExactReadPlanetSpec)) fnExactReadPlanetCard

/-- THE TIED CARD OF 'laws.FnExactReadVector'. -/
def fnExactReadVectorCard : Claim7 := { stood := { row := fnExactReadVectorRow, standIns := [], harness := (true, "51c95fc21a50e8330d93bffe51857f695a4887367c9453b06c575beced3057ff"), looks := true }, kinds := [], alts := [], laidByText := true, laidKinds := [.data, .data, .data, .data, .sentinel, .sentinel, .pinned], laidTests := true, laidLooks := .later }
def FnExactReadVectorCardSaid : Prop := Claim7.holds Tryd.pinned (.plain (OpenSpec.ofChange fnExactReadVectorSpec)) fnExactReadVectorCard

/-- THE TIED CARD OF 'laws.FnExactSplitWords'. -/
def fnExactSplitWordsCard : Claim7 := { stood := { row := fnExactSplitWordsRow, standIns := [], harness := (true, "51c95fc21a50e8330d93bffe51857f695a4887367c9453b06c575beced3057ff"), looks := true }, kinds := [], alts := [], laidByText := true, laidKinds := [.data, .pinned], laidTests := true, laidLooks := .later }
def FnExactSplitWordsCardSaid : Prop := Claim7.holds Tryd.pinned (.plain (OpenSpec.ofChange fnExactSplitWordsSpec)) fnExactSplitWordsCard

/-- THE TIED CARD OF 'laws.FnExactTotalMagnitude'. -/
def fnExactTotalMagnitudeCard : Claim7 := { stood := { row := fnExactTotalMagnitudeRow, standIns := [], harness := (true, "51c95fc21a50e8330d93bffe51857f695a4887367c9453b06c575beced3057ff"), looks := true }, kinds := [], alts := [], laidByText := true, laidKinds := [.data], laidTests := true, laidLooks := .later }
def FnExactTotalMagnitudeCardSaid : Prop := Claim7.holds Tryd.pinned (.plain (OpenSpec.ofChange fnExactTotalMagnitudeSpec)) fnExactTotalMagnitudeCard

/-- THE TIED CARD OF 'laws.FnExactNearestStar'. -/
def fnExactNearestStarCard : Claim7 := { stood := { row := fnExactNearestStarRow, standIns := [], harness := (true, "51c95fc21a50e8330d93bffe51857f695a4887367c9453b06c575beced3057ff"), looks := true }, kinds := [], alts := [], laidByText := true, laidKinds := [.data], laidTests := true, laidLooks := .later }
def FnExactNearestStarCardSaid : Prop := Claim7.holds Tryd.pinned (.plain (OpenSpec.ofChange fnExactNearestStarSpec)) fnExactNearestStarCard

/-- THE TIED CARD OF 'laws.FnExactStarsWithin'. -/
def fnExactStarsWithinCard : Claim7 := { stood := { row := fnExactStarsWithinRow, standIns := [], harness := (true, "51c95fc21a50e8330d93bffe51857f695a4887367c9453b06c575beced3057ff"), looks := true }, kinds := [], alts := [], laidByText := true, laidKinds := [.data], laidTests := true, laidLooks := .later }
def FnExactStarsWithinCardSaid : Prop := Claim7.holds Tryd.pinned (.plain (OpenSpec.ofChange fnExactStarsWithinSpec)) fnExactStarsWithinCard

/-- THE TIED CARD OF 'laws.FnExactAngleText'. -/
def fnExactAngleTextCard : Claim7 := { stood := { row := fnExactAngleTextRow, standIns := [], harness := (true, "51c95fc21a50e8330d93bffe51857f695a4887367c9453b06c575beced3057ff"), looks := true }, kinds := [], alts := [], laidByText := true, laidKinds := [.data, .data, .data], laidTests := true, laidLooks := .later }
def FnExactAngleTextCardSaid : Prop := Claim7.holds Tryd.pinned (.plain (OpenSpec.ofChange fnExactAngleTextSpec)) fnExactAngleTextCard

/-- THE TIED CARD OF 'laws.FnExactSiteText'. -/
def fnExactSiteTextCard : Claim7 := { stood := { row := fnExactSiteTextRow, standIns := [], harness := (true, "51c95fc21a50e8330d93bffe51857f695a4887367c9453b06c575beced3057ff"), looks := true }, kinds := [], alts := [], laidByText := true, laidKinds := [.data, .data, .data], laidTests := true, laidLooks := .later }
def FnExactSiteTextCardSaid : Prop := Claim7.holds Tryd.pinned (.plain (OpenSpec.ofChange fnExactSiteTextSpec)) fnExactSiteTextCard

/-- THE TIED CARD OF 'laws.FnExactStarText'. -/
def fnExactStarTextCard : Claim7 := { stood := { row := fnExactStarTextRow, standIns := [], harness := (true, "51c95fc21a50e8330d93bffe51857f695a4887367c9453b06c575beced3057ff"), looks := true }, kinds := [], alts := [], laidByText := true, laidKinds := [.data, .data, .data], laidTests := true, laidLooks := .later }
def FnExactStarTextCardSaid : Prop := Claim7.holds Tryd.pinned (.plain (OpenSpec.ofChange fnExactStarTextSpec)) fnExactStarTextCard

/-- THE SECOND FORM's CARD OF 'laws.FnExactPlanetText'. -/
def fnExactPlanetTextUptoCard : Claim7 := { stood := { row := fnExactPlanetTextUptoRow, standIns := [], harness := (true, "51c95fc21a50e8330d93bffe51857f695a4887367c9453b06c575beced3057ff"), looks := true }, kinds := [], alts := [], laidByText := true, laidKinds := [.data, .data, .data], laidTests := true, laidLooks := .later }
def FnExactPlanetTextUptoCardSaid : Prop := Claim7.holds Tryd.pinned (.plain (OpenSpec.upto fnExactPlanetTextSpec)) fnExactPlanetTextUptoCard

/-- THE SECOND FORM's CARD OF 'laws.FnExactReadPlanet'. -/
def fnExactReadPlanetUptoCard : Claim7 := { stood := { row := fnExactReadPlanetUptoRow, standIns := [], harness := (true, "51c95fc21a50e8330d93bffe51857f695a4887367c9453b06c575beced3057ff"), looks := true }, kinds := [], alts := [], laidByText := true, laidKinds := [.data, .data, .data, .data, .sentinel, .sentinel, .pinned], laidTests := true, laidLooks := .later }
def FnExactReadPlanetUptoCardSaid : Prop := Claim7.holds Tryd.pinned (.plain (OpenSpec.upto fnExactReadPlanetSpec)) fnExactReadPlanetUptoCard

/-- THE SECOND FORM's CARD OF 'laws.FnExactReadVector'. -/
def fnExactReadVectorUptoCard : Claim7 := { stood := { row := fnExactReadVectorUptoRow, standIns := [], harness := (true, "51c95fc21a50e8330d93bffe51857f695a4887367c9453b06c575beced3057ff"), looks := true }, kinds := [], alts := [], laidByText := true, laidKinds := [.data, .data, .data, .data, .sentinel, .sentinel, .pinned], laidTests := true, laidLooks := .later }
def FnExactReadVectorUptoCardSaid : Prop := Claim7.holds Tryd.pinned (.plain (OpenSpec.upto fnExactReadVectorSpec)) fnExactReadVectorUptoCard

/-- THE SECOND FORM's CARD OF 'laws.FnExactSplitWords'. -/
def fnExactSplitWordsUptoCard : Claim7 := { stood := { row := fnExactSplitWordsUptoRow, standIns := [], harness := (true, "51c95fc21a50e8330d93bffe51857f695a4887367c9453b06c575beced3057ff"), looks := true }, kinds := [], alts := [], laidByText := true, laidKinds := [.data, .pinned], laidTests := true, laidLooks := .later }
def FnExactSplitWordsUptoCardSaid : Prop := Claim7.holds Tryd.pinned (.plain (OpenSpec.upto fnExactSplitWordsSpec)) fnExactSplitWordsUptoCard

/-- THE SECOND FORM's CARD OF 'laws.FnExactTotalMagnitude'. -/
def fnExactTotalMagnitudeUptoCard : Claim7 := { stood := { row := fnExactTotalMagnitudeUptoRow, standIns := [], harness := (true, "51c95fc21a50e8330d93bffe51857f695a4887367c9453b06c575beced3057ff"), looks := true }, kinds := [], alts := [], laidByText := true, laidKinds := [.data], laidTests := true, laidLooks := .later }
def FnExactTotalMagnitudeUptoCardSaid : Prop := Claim7.holds Tryd.pinned (.plain (OpenSpec.upto fnExactTotalMagnitudeSpec)) fnExactTotalMagnitudeUptoCard

/-- THE SECOND FORM's CARD OF 'laws.FnExactNearestStar'. -/
def fnExactNearestStarUptoCard : Claim7 := { stood := { row := fnExactNearestStarUptoRow, standIns := [], harness := (true, "51c95fc21a50e8330d93bffe51857f695a4887367c9453b06c575beced3057ff"), looks := true }, kinds := [], alts := [], laidByText := true, laidKinds := [.data], laidTests := true, laidLooks := .later }
def FnExactNearestStarUptoCardSaid : Prop := Claim7.holds Tryd.pinned (.plain (OpenSpec.upto fnExactNearestStarSpec)) fnExactNearestStarUptoCard

/-- THE SECOND FORM's CARD OF 'laws.FnExactStarsWithin'. -/
def fnExactStarsWithinUptoCard : Claim7 := { stood := { row := fnExactStarsWithinUptoRow, standIns := [], harness := (true, "51c95fc21a50e8330d93bffe51857f695a4887367c9453b06c575beced3057ff"), looks := true }, kinds := [], alts := [], laidByText := true, laidKinds := [.data], laidTests := true, laidLooks := .later }
def FnExactStarsWithinUptoCardSaid : Prop := Claim7.holds Tryd.pinned (.plain (OpenSpec.upto fnExactStarsWithinSpec)) fnExactStarsWithinUptoCard

/-- THE SECOND FORM's CARD OF 'laws.FnExactAngleText'. -/
def fnExactAngleTextUptoCard : Claim7 := { stood := { row := fnExactAngleTextUptoRow, standIns := [], harness := (true, "51c95fc21a50e8330d93bffe51857f695a4887367c9453b06c575beced3057ff"), looks := true }, kinds := [], alts := [], laidByText := true, laidKinds := [.data, .data, .data], laidTests := true, laidLooks := .later }
def FnExactAngleTextUptoCardSaid : Prop := Claim7.holds Tryd.pinned (.plain (OpenSpec.upto fnExactAngleTextSpec)) fnExactAngleTextUptoCard

/-- THE SECOND FORM's CARD OF 'laws.FnExactSiteText'. -/
def fnExactSiteTextUptoCard : Claim7 := { stood := { row := fnExactSiteTextUptoRow, standIns := [], harness := (true, "51c95fc21a50e8330d93bffe51857f695a4887367c9453b06c575beced3057ff"), looks := true }, kinds := [], alts := [], laidByText := true, laidKinds := [.data, .data, .data], laidTests := true, laidLooks := .later }
def FnExactSiteTextUptoCardSaid : Prop := Claim7.holds Tryd.pinned (.plain (OpenSpec.upto fnExactSiteTextSpec)) fnExactSiteTextUptoCard

/-- THE SECOND FORM's CARD OF 'laws.FnExactStarText'. -/
def fnExactStarTextUptoCard : Claim7 := { stood := { row := fnExactStarTextUptoRow, standIns := [], harness := (true, "51c95fc21a50e8330d93bffe51857f695a4887367c9453b06c575beced3057ff"), looks := true }, kinds := [], alts := [], laidByText := true, laidKinds := [.data, .data, .data], laidTests := true, laidLooks := .later }
def FnExactStarTextUptoCardSaid : Prop := Claim7.holds Tryd.pinned (.plain (OpenSpec.upto fnExactStarTextSpec)) fnExactStarTextUptoCard
end Rows
end Go.Proofs.YtalaalifoklmeaaDoor
