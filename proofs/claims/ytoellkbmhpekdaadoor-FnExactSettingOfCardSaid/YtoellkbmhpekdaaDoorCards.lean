/-
  DERIVED. GIVEN WITH THE SEED: THE CARDS: each row of YtoellkbmhpekdaaDoorRows.lean that lists a variable, with what it lists TIED to the program's text (the seventh form; the later family's looks); each row that meets fmt, with fmt's text TOLD by the authors' own Lean function (tested against real Go, not proved from fmt's source: count such statements apart). THE CARD IS WHAT COUNTS. Prove the row's statement (the work); the ties are given (YtoellkbmhpekdaaDoorTie.lean); close each card by the builder's one call (the guide's Derived/Test/ToyasCard.lean, 'card_holds'). Laid BY PROGRAM, IN A SANDBOX (cutbox-door.mjs). By AI agents, Wed Nov 11 2026. No macro, syntax, notation, axiom, sorry.
-/
import Derived.Test.YtoellkbmhpekdaaDoorRows
import GoSem.ClaimSeven
namespace Go.Proofs.YtoellkbmhpekdaaDoor
namespace Rows

/-- THE TIED CARD OF 'laws.FnExactHorizontalVector'. -/
def fnExactHorizontalVectorCard : Claim7 := { stood := { row := fnExactHorizontalVectorRow, standIns := [], harness := (true, "0423d20a1034bf6a2476744328e3b48a65eda42ba9c0f53b818fa5b2ead03b6b"), looks := false }, kinds := [], alts := [], laidByText := true, laidKinds := [.data], laidTests := true, laidLooks := .later }
def FnExactHorizontalVectorCardSaid : Prop := Claim7.holds Tryd.pinned (.plain (OpenSpec.ofChange fnExactHorizontalVectorSpec)) fnExactHorizontalVectorCard

/-- THE TIED CARD OF 'laws.FnExactHorizontal'. -/
def fnExactHorizontalCard : Claim7 := { stood := { row := fnExactHorizontalRow, standIns := [], harness := (true, "0423d20a1034bf6a2476744328e3b48a65eda42ba9c0f53b818fa5b2ead03b6b"), looks := false }, kinds := [], alts := [], laidByText := true, laidKinds := [.data], laidTests := true, laidLooks := .later }
def FnExactHorizontalCardSaid : Prop := Claim7.holds Tryd.pinned (.plain (OpenSpec.ofChange fnExactHorizontalSpec)) fnExactHorizontalCard

/-- THE TIED CARD OF 'laws.FnExactEquatorialOf'. -/
def fnExactEquatorialOfCard : Claim7 := { stood := { row := fnExactEquatorialOfRow, standIns := [], harness := (true, "0423d20a1034bf6a2476744328e3b48a65eda42ba9c0f53b818fa5b2ead03b6b"), looks := false }, kinds := [], alts := [], laidByText := true, laidKinds := [.data], laidTests := true, laidLooks := .later }
def FnExactEquatorialOfCardSaid : Prop := Claim7.holds Tryd.pinned (.plain (OpenSpec.ofChange fnExactEquatorialOfSpec)) fnExactEquatorialOfCard

/-- THE TIED CARD OF 'laws.FnExactSettingHour'. -/
def fnExactSettingHourCard : Claim7 := { stood := { row := fnExactSettingHourRow, standIns := [], harness := (true, "0423d20a1034bf6a2476744328e3b48a65eda42ba9c0f53b818fa5b2ead03b6b"), looks := false }, kinds := [], alts := [], laidByText := true, laidKinds := [.data], laidTests := true, laidLooks := .later }
def FnExactSettingHourCardSaid : Prop := Claim7.holds Tryd.pinned (.plain (OpenSpec.ofChange fnExactSettingHourSpec)) fnExactSettingHourCard

/-- THE TIED CARD OF 'laws.FnExactRisingOf'. -/
def fnExactRisingOfCard : Claim7 := { stood := { row := fnExactRisingOfRow, standIns := [], harness := (true, "0423d20a1034bf6a2476744328e3b48a65eda42ba9c0f53b818fa5b2ead03b6b"), looks := false }, kinds := [], alts := [], laidByText := true, laidKinds := [.data], laidTests := true, laidLooks := .later }
def FnExactRisingOfCardSaid : Prop := Claim7.holds Tryd.pinned (.plain (OpenSpec.ofChange fnExactRisingOfSpec)) fnExactRisingOfCard

/-- THE TIED CARD OF 'laws.FnExactSettingOf'. -/
def fnExactSettingOfCard : Claim7 := { stood := { row := fnExactSettingOfRow, standIns := [], harness := (true, "0423d20a1034bf6a2476744328e3b48a65eda42ba9c0f53b818fa5b2ead03b6b"), looks := false }, kinds := [], alts := [], laidByText := true, laidKinds := [.data], laidTests := true, laidLooks := .later }
def FnExactSettingOfCardSaid : Prop := Claim7.holds Tryd.pinned (.plain (OpenSpec.ofChange fnExactSettingOfSpec)) fnExactSettingOfCard

/-- THE TIED CARD OF 'laws.FnExactLineLength'. -/
def fnExactLineLengthCard : Claim7 := { stood := { row := fnExactLineLengthRow, standIns := [], harness := (true, "0423d20a1034bf6a2476744328e3b48a65eda42ba9c0f53b818fa5b2ead03b6b"), looks := false }, kinds := [], alts := [], laidByText := true, laidKinds := [.data], laidTests := true, laidLooks := .later }
def FnExactLineLengthCardSaid : Prop := Claim7.holds Tryd.pinned (.plain (OpenSpec.ofChange fnExactLineLengthSpec)) fnExactLineLengthCard

/-- THE TIED CARD OF 'laws.FnExactTotalMagnitude'. -/
def fnExactTotalMagnitudeCard : Claim7 := { stood := { row := fnExactTotalMagnitudeRow, standIns := [], harness := (true, "0423d20a1034bf6a2476744328e3b48a65eda42ba9c0f53b818fa5b2ead03b6b"), looks := false }, kinds := [], alts := [], laidByText := true, laidKinds := [.data], laidTests := true, laidLooks := .later }
def FnExactTotalMagnitudeCardSaid : Prop := Claim7.holds Tryd.pinned (.plain (OpenSpec.ofChange fnExactTotalMagnitudeSpec)) fnExactTotalMagnitudeCard

/-- THE SECOND FORM's CARD OF 'laws.FnExactHorizontalVector'. -/
def fnExactHorizontalVectorUptoCard : Claim7 := { stood := { row := fnExactHorizontalVectorUptoRow, standIns := [], harness := (true, "0423d20a1034bf6a2476744328e3b48a65eda42ba9c0f53b818fa5b2ead03b6b"), looks := false }, kinds := [], alts := [], laidByText := true, laidKinds := [.data], laidTests := true, laidLooks := .later }
def FnExactHorizontalVectorUptoCardSaid : Prop := Claim7.holds Tryd.pinned (.plain (OpenSpec.upto fnExactHorizontalVectorSpec)) fnExactHorizontalVectorUptoCard

/-- THE SECOND FORM's CARD OF 'laws.FnExactHorizontal'. -/
def fnExactHorizontalUptoCard : Claim7 := { stood := { row := fnExactHorizontalUptoRow, standIns := [], harness := (true, "0423d20a1034bf6a2476744328e3b48a65eda42ba9c0f53b818fa5b2ead03b6b"), looks := false }, kinds := [], alts := [], laidByText := true, laidKinds := [.data], laidTests := true, laidLooks := .later }
def FnExactHorizontalUptoCardSaid : Prop := Claim7.holds Tryd.pinned (.plain (OpenSpec.upto fnExactHorizontalSpec)) fnExactHorizontalUptoCard

/-- THE SECOND FORM's CARD OF 'laws.FnExactEquatorialOf'. -/
def fnExactEquatorialOfUptoCard : Claim7 := { stood := { row := fnExactEquatorialOfUptoRow, standIns := [], harness := (true, "0423d20a1034bf6a2476744328e3b48a65eda42ba9c0f53b818fa5b2ead03b6b"), looks := false }, kinds := [], alts := [], laidByText := true, laidKinds := [.data], laidTests := true, laidLooks := .later }
def FnExactEquatorialOfUptoCardSaid : Prop := Claim7.holds Tryd.pinned (.plain (OpenSpec.upto fnExactEquatorialOfSpec)) fnExactEquatorialOfUptoCard

/-- THE SECOND FORM's CARD OF 'laws.FnExactSettingHour'. -/
def fnExactSettingHourUptoCard : Claim7 := { stood := { row := fnExactSettingHourUptoRow, standIns := [], harness := (true, "0423d20a1034bf6a2476744328e3b48a65eda42ba9c0f53b818fa5b2ead03b6b"), looks := false }, kinds := [], alts := [], laidByText := true, laidKinds := [.data], laidTests := true, laidLooks := .later }
def FnExactSettingHourUptoCardSaid : Prop := Claim7.holds Tryd.pinned (.plain (OpenSpec.upto fnExactSettingHourSpec)) fnExactSettingHourUptoCard

/-- THE SECOND FORM's CARD OF 'laws.FnExactRisingOf'. -/
def fnExactRisingOfUptoCard : Claim7 := { stood := { row := fnExactRisingOfUptoRow, standIns := [], harness := (true, "0423d20a1034bf6a2476744328e3b48a65eda42ba9c0f53b818fa5b2ead03b6b"), looks := false }, kinds := [], alts := [], laidByText := true, laidKinds := [.data], laidTests := true, laidLooks := .later }
def FnExactRisingOfUptoCardSaid : Prop := Claim7.holds Tryd.pinned (.plain (OpenSpec.upto fnExactRisingOfSpec)) fnExactRisingOfUptoCard

/-- THE SECOND FORM's CARD OF 'laws.FnExactSettingOf'. -/
def fnExactSettingOfUptoCard : Claim7 := { stood := { row := fnExactSettingOfUptoRow, standIns := [], harness := (true, "0423d20a1034bf6a2476744328e3b48a65eda42ba9c0f53b818fa5b2ead03b6b"), looks := false }, kinds := [], alts := [], laidByText := true, laidKinds := [.data], laidTests := true, laidLooks := .later }
def FnExactSettingOfUptoCardSaid : Prop := Claim7.holds Tryd.pinned (.plain (OpenSpec.upto fnExactSettingOfSpec)) fnExactSettingOfUptoCard

/-- THE SECOND FORM's CARD OF 'laws.FnExactLineLength'. -/
def fnExactLineLengthUptoCard : Claim7 := { stood := { row := fnExactLineLengthUptoRow, standIns := [], harness := (true, "0423d20a1034bf6a2476744328e3b48a65eda42ba9c0f53b818fa5b2ead03b6b"), looks := false }, kinds := [], alts := [], laidByText := true, laidKinds := [.data], laidTests := true, laidLooks := .later }
def FnExactLineLengthUptoCardSaid : Prop := Claim7.holds Tryd.pinned (.plain (OpenSpec.upto fnExactLineLengthSpec)) fnExactLineLengthUptoCard

/-- THE SECOND FORM's CARD OF 'laws.FnExactTotalMagnitude'. -/
def fnExactTotalMagnitudeUptoCard : Claim7 := { stood := { row := fnExactTotalMagnitudeUptoRow, standIns := [], harness := (true, "0423d20a1034bf6a2476744328e3b48a65eda42ba9c0f53b818fa5b2ead03b6b"), looks := false }, kinds := [], alts := [], laidByText := true, laidKinds := [.data], laidTests := true, laidLooks := .later }
def FnExactTotalMagnitudeUptoCardSaid : Prop := Claim7.holds Tryd.pinned (.plain (OpenSpec.upto fnExactTotalMagnitudeSpec)) fnExactTotalMagnitudeUptoCard
end Rows
end Go.Proofs.YtoellkbmhpekdaaDoor
