/-
  DERIVED. GIVEN WITH THE SEED: THE CARDS: each row of YtpldjkgmpdagpaaDoorRows.lean that lists a variable, with what it lists TIED to the program's text (the seventh form; the later family's looks); each row that meets fmt, with fmt's text TOLD by the authors' own Lean function (tested against real Go, not proved from fmt's source: count such statements apart). THE CARD IS WHAT COUNTS. Prove the row's statement (the work); the ties are given (YtpldjkgmpdagpaaDoorTie.lean); close each card by the builder's one call (the guide's Derived/Test/ToyasCard.lean, 'card_holds'). Laid BY PROGRAM, IN A SANDBOX (cutbox-door.mjs). By AI agents, Wed Nov 11 2026. No macro, syntax, notation, axiom, sorry.
-/
import Derived.Test.YtpldjkgmpdagpaaDoorRows
import GoSem.ClaimSeven
namespace Go.Proofs.YtpldjkgmpdagpaaDoor
namespace Rows

/-- THE TIED CARD OF 'laws.FnExactMomentText'. -/
def fnExactMomentTextCard : Claim7 := { stood := { row := fnExactMomentTextRow, standIns := [], harness := (true, "009b083ce4bc597500733d7c141d2f5f8717854b616f485d115a9bc4cbd7b87c"), looks := true }, kinds := [], alts := [], laidByText := true, laidKinds := [.data, .data, .data, .data, .data], laidTests := true, laidLooks := .later }
def FnExactMomentTextCardSaid : Prop := Claim7.holds Tryd.pinned (.plain (OpenSpec.ofChange fnExactMomentTextSpec)) fnExactMomentTextCard

/-- THE TIED CARD OF 'laws.FnExactReadMoment'. -/
def fnExactReadMomentCard : Claim7 := { stood := { row := fnExactReadMomentRow, standIns := [], harness := (true, "009b083ce4bc597500733d7c141d2f5f8717854b616f485d115a9bc4cbd7b87c"), looks := true }, kinds := [], alts := [], laidByText := true, laidKinds := [.data, .data, .data, .sentinel, .sentinel, .data, .data], laidTests := true, laidLooks := .later }
def FnExactReadMomentCardSaid : Prop := Claim7.holds Tryd.pinned (.plain (OpenSpec.ofChange fnExactReadMomentSpec)) fnExactReadMomentCard

/-- THE TIED CARD OF 'laws.FnFlux'. -/
def fnFluxCard : Claim7 := { stood := { row := fnFluxRow, standIns := [], harness := (true, "009b083ce4bc597500733d7c141d2f5f8717854b616f485d115a9bc4cbd7b87c"), looks := true }, kinds := [], alts := [], laidByText := true, laidKinds := [.data, .data], laidTests := true, laidLooks := .later }
def FnFluxCardSaid : Prop := Claim7.holds Tryd.pinned (.plain (OpenSpec.ofChange fnFluxSpec)) fnFluxCard

/-- THE TIED CARD OF 'laws.FnExactReadVector'. -/
def fnExactReadVectorCard : Claim7 := { stood := { row := fnExactReadVectorRow, standIns := [], harness := (true, "009b083ce4bc597500733d7c141d2f5f8717854b616f485d115a9bc4cbd7b87c"), looks := true }, kinds := [], alts := [], laidByText := true, laidKinds := [.data, .data, .data, .data, .sentinel, .sentinel, .pinned], laidTests := true, laidLooks := .later }
def FnExactReadVectorCardSaid : Prop := Claim7.holds Tryd.pinned (.plain (OpenSpec.ofChange fnExactReadVectorSpec)) fnExactReadVectorCard

/-- THE TIED CARD OF 'laws.FnExactReadPlanet'. -/
def fnExactReadPlanetCard : Claim7 := { stood := { row := fnExactReadPlanetRow, standIns := [], harness := (true, "009b083ce4bc597500733d7c141d2f5f8717854b616f485d115a9bc4cbd7b87c"), looks := true }, kinds := [], alts := [], laidByText := true, laidKinds := [.data, .data, .data, .data, .sentinel, .sentinel, .pinned], laidTests := true, laidLooks := .later }
def FnExactReadPlanetCardSaid : Prop := Claim7.holds Tryd.pinned (.plain (OpenSpec.ofChange fnExactReadPlanetSpec)) fnExactReadPlanetCard

/-- THE TIED CARD OF 'laws.FnExactPlanetText'. -/
def fnExactPlanetTextCard : Claim7 := { stood := { row := fnExactPlanetTextRow, standIns := [], harness := (true, "009b083ce4bc597500733d7c141d2f5f8717854b616f485d115a9bc4cbd7b87c"), looks := true }, kinds := [], alts := [], laidByText := true, laidKinds := [.data, .data, .data], laidTests := true, laidLooks := .later }
def FnExactPlanetTextCardSaid : Prop := Claim7.holds Tryd.pinned (.plain (OpenSpec.ofChange fnExactPlanetTextSpec)) fnExactPlanetTextCard

/-- THE TIED CARD OF 'laws.FnExactRotateAround'. -/
def fnExactRotateAroundCard : Claim7 := { stood := { row := fnExactRotateAroundRow, standIns := [], harness := (true, "009b083ce4bc597500733d7c141d2f5f8717854b616f485d115a9bc4cbd7b87c"), looks := true }, kinds := [], alts := [], laidByText := true, laidKinds := [.data], laidTests := true, laidLooks := .later }
def FnExactRotateAroundCardSaid : Prop := Claim7.holds Tryd.pinned (.plain (OpenSpec.ofChange fnExactRotateAroundSpec)) fnExactRotateAroundCard

/-- THE TIED CARD OF 'laws.FnExactReadFigure'. -/
def fnExactReadFigureCard : Claim7 := { stood := { row := fnExactReadFigureRow, standIns := [], harness := (true, "009b083ce4bc597500733d7c141d2f5f8717854b616f485d115a9bc4cbd7b87c"), looks := true }, kinds := [], alts := [], laidByText := true, laidKinds := [.data, .data, .data, .data, .sentinel, .sentinel, .pinned], laidTests := true, laidLooks := .later }
def FnExactReadFigureCardSaid : Prop := Claim7.holds Tryd.pinned (.plain (OpenSpec.ofChange fnExactReadFigureSpec)) fnExactReadFigureCard

/-- THE SECOND FORM's CARD OF 'laws.FnExactMomentText'. -/
def fnExactMomentTextUptoCard : Claim7 := { stood := { row := fnExactMomentTextUptoRow, standIns := [], harness := (true, "009b083ce4bc597500733d7c141d2f5f8717854b616f485d115a9bc4cbd7b87c"), looks := true }, kinds := [], alts := [], laidByText := true, laidKinds := [.data, .data, .data, .data, .data], laidTests := true, laidLooks := .later }
def FnExactMomentTextUptoCardSaid : Prop := Claim7.holds Tryd.pinned (.plain (OpenSpec.upto fnExactMomentTextSpec)) fnExactMomentTextUptoCard

/-- THE SECOND FORM's CARD OF 'laws.FnExactReadMoment'. -/
def fnExactReadMomentUptoCard : Claim7 := { stood := { row := fnExactReadMomentUptoRow, standIns := [], harness := (true, "009b083ce4bc597500733d7c141d2f5f8717854b616f485d115a9bc4cbd7b87c"), looks := true }, kinds := [], alts := [], laidByText := true, laidKinds := [.data, .data, .data, .sentinel, .sentinel, .data, .data], laidTests := true, laidLooks := .later }
def FnExactReadMomentUptoCardSaid : Prop := Claim7.holds Tryd.pinned (.plain (OpenSpec.upto fnExactReadMomentSpec)) fnExactReadMomentUptoCard

/-- THE SECOND FORM's CARD OF 'laws.FnFlux'. -/
def fnFluxUptoCard : Claim7 := { stood := { row := fnFluxUptoRow, standIns := [], harness := (true, "009b083ce4bc597500733d7c141d2f5f8717854b616f485d115a9bc4cbd7b87c"), looks := true }, kinds := [], alts := [], laidByText := true, laidKinds := [.data, .data], laidTests := true, laidLooks := .later }
def FnFluxUptoCardSaid : Prop := Claim7.holds Tryd.pinned (.plain (OpenSpec.upto fnFluxSpec)) fnFluxUptoCard

/-- THE SECOND FORM's CARD OF 'laws.FnExactReadVector'. -/
def fnExactReadVectorUptoCard : Claim7 := { stood := { row := fnExactReadVectorUptoRow, standIns := [], harness := (true, "009b083ce4bc597500733d7c141d2f5f8717854b616f485d115a9bc4cbd7b87c"), looks := true }, kinds := [], alts := [], laidByText := true, laidKinds := [.data, .data, .data, .data, .sentinel, .sentinel, .pinned], laidTests := true, laidLooks := .later }
def FnExactReadVectorUptoCardSaid : Prop := Claim7.holds Tryd.pinned (.plain (OpenSpec.upto fnExactReadVectorSpec)) fnExactReadVectorUptoCard

/-- THE SECOND FORM's CARD OF 'laws.FnExactReadPlanet'. -/
def fnExactReadPlanetUptoCard : Claim7 := { stood := { row := fnExactReadPlanetUptoRow, standIns := [], harness := (true, "009b083ce4bc597500733d7c141d2f5f8717854b616f485d115a9bc4cbd7b87c"), looks := true }, kinds := [], alts := [], laidByText := true, laidKinds := [.data, .data, .data, .data, .sentinel, .sentinel, .pinned], laidTests := true, laidLooks := .later }
def FnExactReadPlanetUptoCardSaid : Prop := Claim7.holds Tryd.pinned (.plain (OpenSpec.upto fnExactReadPlanetSpec)) fnExactReadPlanetUptoCard

/-- THE SECOND FORM's CARD OF 'laws.FnExactPlanetText'. -/
def fnExactPlanetTextUptoCard : Claim7 := { stood := { row := fnExactPlanetTextUptoRow, standIns := [], harness := (true, "009b083ce4bc597500733d7c141d2f5f8717854b616f485d115a9bc4cbd7b87c"), looks := true }, kinds := [], alts := [], laidByText := true, laidKinds := [.data, .data, .data], laidTests := true, laidLooks := .later }
def FnExactPlanetTextUptoCardSaid : Prop := Claim7.holds Tryd.pinned (.plain (OpenSpec.upto fnExactPlanetTextSpec)) fnExactPlanetTextUptoCard

/-- THE SECOND FORM's CARD OF 'laws.FnExactRotateAround'. -/
def fnExactRotateAroundUptoCard : Claim7 := { stood := { row := fnExactRotateAroundUptoRow, standIns := [], harness := (true, "009b083ce4bc597500733d7c141d2f5f8717854b616f485d115a9bc4cbd7b87c"), looks := true }, kinds := [], alts := [], laidByText := true, laidKinds := [.data], laidTests := true, laidLooks := .later }
def FnExactRotateAroundUptoCardSaid : Prop := Claim7.holds Tryd.pinned (.plain (OpenSpec.upto fnExactRotateAroundSpec)) fnExactRotateAroundUptoCard

/-- THE SECOND FORM's CARD OF 'laws.FnExactReadFigure'. -/
def fnExactReadFigureUptoCard : Claim7 := { stood := { row := fnExactReadFigureUptoRow, standIns := [], harness := (true, "009b083ce4bc597500733d7c141d2f5f8717854b616f485d115a9bc4cbd7b87c"), looks := true }, kinds := [], alts := [], laidByText := true, laidKinds := [.data, .data, .data, .data, .sentinel, .sentinel, .pinned], laidTests := true, laidLooks := .later }
def FnExactReadFigureUptoCardSaid : Prop := Claim7.holds Tryd.pinned (.plain (OpenSpec.upto fnExactReadFigureSpec)) fnExactReadFigureUptoCard
end Rows
end Go.Proofs.YtpldjkgmpdagpaaDoor
