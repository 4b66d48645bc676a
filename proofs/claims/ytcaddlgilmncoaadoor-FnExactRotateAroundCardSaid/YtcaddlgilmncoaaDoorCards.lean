/-
  DERIVED. GIVEN WITH THE SEED: THE CARDS: each row of YtcaddlgilmncoaaDoorRows.lean that lists a variable, with what it lists TIED to the program's text (the seventh form; the later family's looks); each row that meets fmt, with fmt's text TOLD by the authors' own Lean function (tested against real Go, not proved from fmt's source: count such statements apart). THE CARD IS WHAT COUNTS. Prove the row's statement (the work); the ties are given (YtcaddlgilmncoaaDoorTie.lean); close each card by the builder's one call (the guide's Derived/Test/ToyasCard.lean, 'card_holds'). Laid BY PROGRAM, IN A SANDBOX (cutbox-door.mjs). By AI agents, Wed Nov 11 2026. No macro, syntax, notation, axiom, sorry.
-/
import Derived.Test.YtcaddlgilmncoaaDoorRows
import GoSem.ClaimSeven
namespace Go.Proofs.YtcaddlgilmncoaaDoor
namespace Rows

/-- THE TIED CARD OF 'laws.FnExactDirectionOf'. -/
def fnExactDirectionOfCard : Claim7 := { stood := { row := fnExactDirectionOfRow, standIns := [], harness := (true, "bb44afe7be7fd851d8719540d64341e91f6b9e04529395f76ce84815a3bec3a5"), looks := false }, kinds := [], alts := [], laidByText := true, laidKinds := [.data], laidTests := true, laidLooks := .later }
def FnExactDirectionOfCardSaid : Prop := Claim7.holds Tryd.pinned (.plain (OpenSpec.ofChange fnExactDirectionOfSpec)) fnExactDirectionOfCard

/-- THE TIED CARD OF 'laws.FnExactAnglesOf'. -/
def fnExactAnglesOfCard : Claim7 := { stood := { row := fnExactAnglesOfRow, standIns := [], harness := (true, "bb44afe7be7fd851d8719540d64341e91f6b9e04529395f76ce84815a3bec3a5"), looks := false }, kinds := [], alts := [], laidByText := true, laidKinds := [.data], laidTests := true, laidLooks := .later }
def FnExactAnglesOfCardSaid : Prop := Claim7.holds Tryd.pinned (.plain (OpenSpec.ofChange fnExactAnglesOfSpec)) fnExactAnglesOfCard

/-- THE TIED CARD OF 'laws.FnExactSeparation'. -/
def fnExactSeparationCard : Claim7 := { stood := { row := fnExactSeparationRow, standIns := [], harness := (true, "bb44afe7be7fd851d8719540d64341e91f6b9e04529395f76ce84815a3bec3a5"), looks := false }, kinds := [], alts := [], laidByText := true, laidKinds := [.data], laidTests := true, laidLooks := .later }
def FnExactSeparationCardSaid : Prop := Claim7.holds Tryd.pinned (.plain (OpenSpec.ofChange fnExactSeparationSpec)) fnExactSeparationCard

/-- THE TIED CARD OF 'laws.FnExactRotateAround'. -/
def fnExactRotateAroundCard : Claim7 := { stood := { row := fnExactRotateAroundRow, standIns := [], harness := (true, "bb44afe7be7fd851d8719540d64341e91f6b9e04529395f76ce84815a3bec3a5"), looks := false }, kinds := [], alts := [], laidByText := true, laidKinds := [.data], laidTests := true, laidLooks := .later }
def FnExactRotateAroundCardSaid : Prop := Claim7.holds Tryd.pinned (.plain (OpenSpec.ofChange fnExactRotateAroundSpec)) fnExactRotateAroundCard

/-- THE TIED CARD OF 'laws.FnExactArcTangent'. -/
def fnExactArcTangentCard : Claim7 := { stood := { row := fnExactArcTangentRow, standIns := [], harness := (true, "bb44afe7be7fd851d8719540d64341e91f6b9e04529395f76ce84815a3bec3a5"), looks := false }, kinds := [], alts := [], laidByText := true, laidKinds := [.data], laidTests := true, laidLooks := .later }
def FnExactArcTangentCardSaid : Prop := Claim7.holds Tryd.pinned (.plain (OpenSpec.ofChange fnExactArcTangentSpec)) fnExactArcTangentCard

/-- THE TIED CARD OF 'laws.FnExactMeanAngle'. -/
def fnExactMeanAngleCard : Claim7 := { stood := { row := fnExactMeanAngleRow, standIns := [], harness := (true, "bb44afe7be7fd851d8719540d64341e91f6b9e04529395f76ce84815a3bec3a5"), looks := false }, kinds := [], alts := [], laidByText := true, laidKinds := [.data], laidTests := true, laidLooks := .later }
def FnExactMeanAngleCardSaid : Prop := Claim7.holds Tryd.pinned (.plain (OpenSpec.ofChange fnExactMeanAngleSpec)) fnExactMeanAngleCard

/-- THE SECOND FORM's CARD OF 'laws.FnExactDirectionOf'. -/
def fnExactDirectionOfUptoCard : Claim7 := { stood := { row := fnExactDirectionOfUptoRow, standIns := [], harness := (true, "bb44afe7be7fd851d8719540d64341e91f6b9e04529395f76ce84815a3bec3a5"), looks := false }, kinds := [], alts := [], laidByText := true, laidKinds := [.data], laidTests := true, laidLooks := .later }
def FnExactDirectionOfUptoCardSaid : Prop := Claim7.holds Tryd.pinned (.plain (OpenSpec.upto fnExactDirectionOfSpec)) fnExactDirectionOfUptoCard

/-- THE SECOND FORM's CARD OF 'laws.FnExactAnglesOf'. -/
def fnExactAnglesOfUptoCard : Claim7 := { stood := { row := fnExactAnglesOfUptoRow, standIns := [], harness := (true, "bb44afe7be7fd851d8719540d64341e91f6b9e04529395f76ce84815a3bec3a5"), looks := false }, kinds := [], alts := [], laidByText := true, laidKinds := [.data], laidTests := true, laidLooks := .later }
def FnExactAnglesOfUptoCardSaid : Prop := Claim7.holds Tryd.pinned (.plain (OpenSpec.upto fnExactAnglesOfSpec)) fnExactAnglesOfUptoCard

/-- THE SECOND FORM's CARD OF 'laws.FnExactSeparation'. -/
def fnExactSeparationUptoCard : Claim7 := { stood := { row := fnExactSeparationUptoRow, standIns := [], harness := (true, "bb44afe7be7fd851d8719540d64341e91f6b9e04529395f76ce84815a3bec3a5"), looks := false }, kinds := [], alts := [], laidByText := true, laidKinds := [.data], laidTests := true, laidLooks := .later }
def FnExactSeparationUptoCardSaid : Prop := Claim7.holds Tryd.pinned (.plain (OpenSpec.upto fnExactSeparationSpec)) fnExactSeparationUptoCard

/-- THE SECOND FORM's CARD OF 'laws.FnExactRotateAround'. -/
def fnExactRotateAroundUptoCard : Claim7 := { stood := { row := fnExactRotateAroundUptoRow, standIns := [], harness := (true, "bb44afe7be7fd851d8719540d64341e91f6b9e04529395f76ce84815a3bec3a5"), looks := false }, kinds := [], alts := [], laidByText := true, laidKinds := [.data], laidTests := true, laidLooks := .later }
def FnExactRotateAroundUptoCardSaid : Prop := Claim7.holds Tryd.pinned (.plain (OpenSpec.upto fnExactRotateAroundSpec)) fnExactRotateAroundUptoCard

/-- THE SECOND FORM's CARD OF 'laws.FnExactArcTangent'. -/
def fnExactArcTangentUptoCard : Claim7 := { stood := { row := fnExactArcTangentUptoRow, standIns := [], harness := (true, "bb44afe7be7fd851d8719540d64341e91f6b9e04529395f76ce84815a3bec3a5"), looks := false }, kinds := [], alts := [], laidByText := true, laidKinds := [.data], laidTests := true, laidLooks := .later }
def FnExactArcTangentUptoCardSaid : Prop := Claim7.holds Tryd.pinned (.plain (OpenSpec.upto fnExactArcTangentSpec)) fnExactArcTangentUptoCard

/-- THE SECOND FORM's CARD OF 'laws.FnExactMeanAngle'. -/
def fnExactMeanAngleUptoCard : Claim7 := { stood := { row := fnExactMeanAngleUptoRow, standIns := [], harness := (true, "bb44afe7be7fd851d8719540d64341e91f6b9e04529395f76ce84815a3bec3a5"), looks := false }, kinds := [], alts := [], laidByText := true, laidKinds := [.data], laidTests := true, laidLooks := .later }
def FnExactMeanAngleUptoCardSaid : Prop := Claim7.holds Tryd.pinned (.plain (OpenSpec.upto fnExactMeanAngleSpec)) fnExactMeanAngleUptoCard
end Rows
end Go.Proofs.YtcaddlgilmncoaaDoor
