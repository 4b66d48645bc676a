/-
  DERIVED. GIVEN WITH THE SEED: THE CARDS: each row of YtlklcpnnaolbeaaDoorRows.lean that lists a variable, with what it lists TIED to the program's text (the seventh form; the later family's looks); each row that meets fmt, with fmt's text TOLD by the authors' own Lean function (tested against real Go, not proved from fmt's source: count such statements apart). THE CARD IS WHAT COUNTS. Prove the row's statement (the work); the ties are given (YtlklcpnnaolbeaaDoorTie.lean); close each card by the builder's one call (the guide's Derived/Test/ToyasCard.lean, 'card_holds'). Laid BY PROGRAM, IN A SANDBOX (cutbox-door.mjs). By AI agents, Wed Nov 11 2026. No macro, syntax, notation, axiom, sorry.
-/
import Derived.Test.YtlklcpnnaolbeaaDoorRows
import GoSem.ClaimSeven
namespace Go.Proofs.YtlklcpnnaolbeaaDoor
namespace Rows

/-- THE TIED CARD OF 'laws.FnExactViewFrom'. -/
def fnExactViewFromCard : Claim7 := { stood := { row := fnExactViewFromRow, standIns := [], harness := (true, "1ce3bc7f312a600c023b7b3381a2f4cd7f3b043bcf5c35fc3f645c1cd8ec91d0"), looks := false }, kinds := [], alts := [], laidByText := true, laidKinds := [.data], laidTests := true, laidLooks := .later }
def FnExactViewFromCardSaid : Prop := Claim7.holds Tryd.pinned (.plain (OpenSpec.ofChange fnExactViewFromSpec)) fnExactViewFromCard

/-- THE TIED CARD OF 'laws.FnExactWorstView'. -/
def fnExactWorstViewCard : Claim7 := { stood := { row := fnExactWorstViewRow, standIns := [], harness := (true, "1ce3bc7f312a600c023b7b3381a2f4cd7f3b043bcf5c35fc3f645c1cd8ec91d0"), looks := false }, kinds := [], alts := [], laidByText := true, laidKinds := [.data], laidTests := true, laidLooks := .later }
def FnExactWorstViewCardSaid : Prop := Claim7.holds Tryd.pinned (.plain (OpenSpec.ofChange fnExactWorstViewSpec)) fnExactWorstViewCard

/-- THE TIED CARD OF 'laws.FnExactRawWeight'. -/
def fnExactRawWeightCard : Claim7 := { stood := { row := fnExactRawWeightRow, standIns := [], harness := (true, "1ce3bc7f312a600c023b7b3381a2f4cd7f3b043bcf5c35fc3f645c1cd8ec91d0"), looks := false }, kinds := [], alts := [], laidByText := true, laidKinds := [.data], laidTests := true, laidLooks := .later }
def FnExactRawWeightCardSaid : Prop := Claim7.holds Tryd.pinned (.plain (OpenSpec.ofChange fnExactRawWeightSpec)) fnExactRawWeightCard

/-- THE TIED CARD OF 'laws.FnExactProjectorText'. -/
def fnExactProjectorTextCard : Claim7 := { stood := { row := fnExactProjectorTextRow, standIns := [], harness := (true, "1ce3bc7f312a600c023b7b3381a2f4cd7f3b043bcf5c35fc3f645c1cd8ec91d0"), looks := false }, kinds := [], alts := [], laidByText := true, laidKinds := [.data, .data, .data], laidTests := true, laidLooks := .later }
def FnExactProjectorTextCardSaid : Prop := Claim7.holds Tryd.pinned (.plain (OpenSpec.ofChange fnExactProjectorTextSpec)) fnExactProjectorTextCard

/-- THE SECOND FORM's CARD OF 'laws.FnExactViewFrom'. -/
def fnExactViewFromUptoCard : Claim7 := { stood := { row := fnExactViewFromUptoRow, standIns := [], harness := (true, "1ce3bc7f312a600c023b7b3381a2f4cd7f3b043bcf5c35fc3f645c1cd8ec91d0"), looks := false }, kinds := [], alts := [], laidByText := true, laidKinds := [.data], laidTests := true, laidLooks := .later }
def FnExactViewFromUptoCardSaid : Prop := Claim7.holds Tryd.pinned (.plain (OpenSpec.upto fnExactViewFromSpec)) fnExactViewFromUptoCard

/-- THE SECOND FORM's CARD OF 'laws.FnExactWorstView'. -/
def fnExactWorstViewUptoCard : Claim7 := { stood := { row := fnExactWorstViewUptoRow, standIns := [], harness := (true, "1ce3bc7f312a600c023b7b3381a2f4cd7f3b043bcf5c35fc3f645c1cd8ec91d0"), looks := false }, kinds := [], alts := [], laidByText := true, laidKinds := [.data], laidTests := true, laidLooks := .later }
def FnExactWorstViewUptoCardSaid : Prop := Claim7.holds Tryd.pinned (.plain (OpenSpec.upto fnExactWorstViewSpec)) fnExactWorstViewUptoCard

/-- THE SECOND FORM's CARD OF 'laws.FnExactRawWeight'. -/
def fnExactRawWeightUptoCard : Claim7 := { stood := { row := fnExactRawWeightUptoRow, standIns := [], harness := (true, "1ce3bc7f312a600c023b7b3381a2f4cd7f3b043bcf5c35fc3f645c1cd8ec91d0"), looks := false }, kinds := [], alts := [], laidByText := true, laidKinds := [.data], laidTests := true, laidLooks := .later }
def FnExactRawWeightUptoCardSaid : Prop := Claim7.holds Tryd.pinned (.plain (OpenSpec.upto fnExactRawWeightSpec)) fnExactRawWeightUptoCard

/-- THE SECOND FORM's CARD OF 'laws.FnExactProjectorText'. -/
def fnExactProjectorTextUptoCard : Claim7 := { stood := { row := fnExactProjectorTextUptoRow, standIns := [], harness := (true, "1ce3bc7f312a600c023b7b3381a2f4cd7f3b043bcf5c35fc3f645c1cd8ec91d0"), looks := false }, kinds := [], alts := [], laidByText := true, laidKinds := [.data, .data, .data], laidTests := true, laidLooks := .later }
def FnExactProjectorTextUptoCardSaid : Prop := Claim7.holds Tryd.pinned (.plain (OpenSpec.upto fnExactProjectorTextSpec)) fnExactProjectorTextUptoCard
end Rows
end Go.Proofs.YtlklcpnnaolbeaaDoor
