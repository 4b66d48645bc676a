/-
  DERIVED. GIVEN WITH THE SEED: THE CARDS: each row of YtlklcpnnaolbeaaGreatDoorRows.lean that lists a variable, with what it lists TIED to the program's text (the seventh form; the later family's looks); each row that meets fmt, with fmt's text TOLD by the authors' own Lean function (tested against real Go, not proved from fmt's source: count such statements apart). THE CARD IS WHAT COUNTS. Prove the row's statement (the work); the ties are given (YtlklcpnnaolbeaaGreatDoorTie.lean); close each card by the builder's one call (the guide's Derived/Test/ToyasCard.lean, 'card_holds'). Laid BY PROGRAM, IN A SANDBOX (cutbox-door.mjs). By AI agents, Wed Nov 11 2026. No macro, syntax, notation, axiom, sorry.
-/
import Derived.Test.YtlklcpnnaolbeaaGreatDoorRows
import GoSem.ClaimSeven
namespace Go.Proofs.YtlklcpnnaolbeaaGreatDoor
namespace Rows

/-- THE TIED CARD OF 'laws.FnExactWeightsAt'. -/
def fnExactWeightsAtCard : Claim7 := { stood := { row := fnExactWeightsAtRow, standIns := [], harness := (true, "d38147be96f3a0585553f397bad78c73bd94dc6d3c081d1934e404c21e6bccaf"), looks := true }, kinds := [], alts := [], laidByText := true, laidKinds := [.data], laidTests := true, laidLooks := .later }
def FnExactWeightsAtCardSaid : Prop := Claim7.holds Tryz.pinned (.plain (OpenSpec.ofChange fnExactWeightsAtSpec)) fnExactWeightsAtCard

/-- THE TIED CARD OF 'laws.FnExactBrightnessAt'. -/
def fnExactBrightnessAtCard : Claim7 := { stood := { row := fnExactBrightnessAtRow, standIns := [], harness := (true, "d38147be96f3a0585553f397bad78c73bd94dc6d3c081d1934e404c21e6bccaf"), looks := true }, kinds := [], alts := [], laidByText := true, laidKinds := [.data], laidTests := true, laidLooks := .later }
def FnExactBrightnessAtCardSaid : Prop := Claim7.holds Tryz.pinned (.plain (OpenSpec.ofChange fnExactBrightnessAtSpec)) fnExactBrightnessAtCard

/-- THE TIED CARD OF 'laws.FnExactReadProjector'. -/
def fnExactReadProjectorCard : Claim7 := { stood := { row := fnExactReadProjectorRow, standIns := [], harness := (true, "d38147be96f3a0585553f397bad78c73bd94dc6d3c081d1934e404c21e6bccaf"), looks := true }, kinds := [], alts := [], laidByText := true, laidKinds := [.data, .data, .data, .data, .sentinel, .sentinel, .pinned], laidTests := true, laidLooks := .later }
def FnExactReadProjectorCardSaid : Prop := Claim7.holds Tryz.pinned (.plain (OpenSpec.ofChange fnExactReadProjectorSpec)) fnExactReadProjectorCard

/-- THE TIED CARD OF 'laws.FnWeights'. -/
def fnWeightsCard : Claim7 := { stood := { row := fnWeightsRow, standIns := [], harness := (true, "d38147be96f3a0585553f397bad78c73bd94dc6d3c081d1934e404c21e6bccaf"), looks := true }, kinds := [], alts := [], laidByText := true, laidKinds := [.data], laidTests := true, laidLooks := .later }
def FnWeightsCardSaid : Prop := Claim7.holds Tryz.pinned (.plain (OpenSpec.ofChange fnWeightsSpec)) fnWeightsCard

/-- THE SECOND FORM's CARD OF 'laws.FnExactWeightsAt'. -/
def fnExactWeightsAtUptoCard : Claim7 := { stood := { row := fnExactWeightsAtUptoRow, standIns := [], harness := (true, "d38147be96f3a0585553f397bad78c73bd94dc6d3c081d1934e404c21e6bccaf"), looks := true }, kinds := [], alts := [], laidByText := true, laidKinds := [.data], laidTests := true, laidLooks := .later }
def FnExactWeightsAtUptoCardSaid : Prop := Claim7.holds Tryz.pinned (.plain (OpenSpec.upto fnExactWeightsAtSpec)) fnExactWeightsAtUptoCard

/-- THE SECOND FORM's CARD OF 'laws.FnExactBrightnessAt'. -/
def fnExactBrightnessAtUptoCard : Claim7 := { stood := { row := fnExactBrightnessAtUptoRow, standIns := [], harness := (true, "d38147be96f3a0585553f397bad78c73bd94dc6d3c081d1934e404c21e6bccaf"), looks := true }, kinds := [], alts := [], laidByText := true, laidKinds := [.data], laidTests := true, laidLooks := .later }
def FnExactBrightnessAtUptoCardSaid : Prop := Claim7.holds Tryz.pinned (.plain (OpenSpec.upto fnExactBrightnessAtSpec)) fnExactBrightnessAtUptoCard

/-- THE SECOND FORM's CARD OF 'laws.FnExactReadProjector'. -/
def fnExactReadProjectorUptoCard : Claim7 := { stood := { row := fnExactReadProjectorUptoRow, standIns := [], harness := (true, "d38147be96f3a0585553f397bad78c73bd94dc6d3c081d1934e404c21e6bccaf"), looks := true }, kinds := [], alts := [], laidByText := true, laidKinds := [.data, .data, .data, .data, .sentinel, .sentinel, .pinned], laidTests := true, laidLooks := .later }
def FnExactReadProjectorUptoCardSaid : Prop := Claim7.holds Tryz.pinned (.plain (OpenSpec.upto fnExactReadProjectorSpec)) fnExactReadProjectorUptoCard

/-- THE SECOND FORM's CARD OF 'laws.FnWeights'. -/
def fnWeightsUptoCard : Claim7 := { stood := { row := fnWeightsUptoRow, standIns := [], harness := (true, "d38147be96f3a0585553f397bad78c73bd94dc6d3c081d1934e404c21e6bccaf"), looks := true }, kinds := [], alts := [], laidByText := true, laidKinds := [.data], laidTests := true, laidLooks := .later }
def FnWeightsUptoCardSaid : Prop := Claim7.holds Tryz.pinned (.plain (OpenSpec.upto fnWeightsSpec)) fnWeightsUptoCard
end Rows
end Go.Proofs.YtlklcpnnaolbeaaGreatDoor
