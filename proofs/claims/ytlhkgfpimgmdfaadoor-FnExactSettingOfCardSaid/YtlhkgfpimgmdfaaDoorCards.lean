/-
  DERIVED. GIVEN WITH THE SEED: THE CARDS: each row of YtlhkgfpimgmdfaaDoorRows.lean that lists a variable, with what it lists TIED to the program's text (the seventh form; the later family's looks); each row that meets fmt, with fmt's text TOLD by the authors' own Lean function (tested against real Go, not proved from fmt's source: count such statements apart). THE CARD IS WHAT COUNTS. Prove the row's statement (the work); the ties are given (YtlhkgfpimgmdfaaDoorTie.lean); close each card by the builder's one call (the guide's Derived/Test/ToyasCard.lean, 'card_holds'). Laid BY PROGRAM, IN A SANDBOX (cutbox-door.mjs). By AI agents, Wed Nov 11 2026. No macro, syntax, notation, axiom, sorry.
-/
import Derived.Test.YtlhkgfpimgmdfaaDoorRows
import GoSem.ClaimSeven
namespace Go.Proofs.YtlhkgfpimgmdfaaDoor
namespace Rows

/-- THE TIED CARD OF 'laws.FnExactHorizontalVector'. -/
def fnExactHorizontalVectorCard : Claim7 := { stood := { row := fnExactHorizontalVectorRow, standIns := [], harness := (true, "d500e82da75338eb191ff4d532b16d93f1684435e251f0fa625b5ffad1038cd3"), looks := false }, kinds := [], alts := [], laidByText := true, laidKinds := [.data], laidTests := true, laidLooks := .later }
def FnExactHorizontalVectorCardSaid : Prop := Claim7.holds Tryd.pinned (.plain (OpenSpec.ofChange fnExactHorizontalVectorSpec)) fnExactHorizontalVectorCard

/-- THE TIED CARD OF 'laws.FnExactHorizontal'. -/
def fnExactHorizontalCard : Claim7 := { stood := { row := fnExactHorizontalRow, standIns := [], harness := (true, "d500e82da75338eb191ff4d532b16d93f1684435e251f0fa625b5ffad1038cd3"), looks := false }, kinds := [], alts := [], laidByText := true, laidKinds := [.data], laidTests := true, laidLooks := .later }
def FnExactHorizontalCardSaid : Prop := Claim7.holds Tryd.pinned (.plain (OpenSpec.ofChange fnExactHorizontalSpec)) fnExactHorizontalCard

/-- THE TIED CARD OF 'laws.FnExactEquatorialOf'. -/
def fnExactEquatorialOfCard : Claim7 := { stood := { row := fnExactEquatorialOfRow, standIns := [], harness := (true, "d500e82da75338eb191ff4d532b16d93f1684435e251f0fa625b5ffad1038cd3"), looks := false }, kinds := [], alts := [], laidByText := true, laidKinds := [.data], laidTests := true, laidLooks := .later }
def FnExactEquatorialOfCardSaid : Prop := Claim7.holds Tryd.pinned (.plain (OpenSpec.ofChange fnExactEquatorialOfSpec)) fnExactEquatorialOfCard

/-- THE TIED CARD OF 'laws.FnExactSettingHour'. -/
def fnExactSettingHourCard : Claim7 := { stood := { row := fnExactSettingHourRow, standIns := [], harness := (true, "d500e82da75338eb191ff4d532b16d93f1684435e251f0fa625b5ffad1038cd3"), looks := false }, kinds := [], alts := [], laidByText := true, laidKinds := [.data], laidTests := true, laidLooks := .later }
def FnExactSettingHourCardSaid : Prop := Claim7.holds Tryd.pinned (.plain (OpenSpec.ofChange fnExactSettingHourSpec)) fnExactSettingHourCard

/-- THE TIED CARD OF 'laws.FnExactRisingOf'. -/
def fnExactRisingOfCard : Claim7 := { stood := { row := fnExactRisingOfRow, standIns := [], harness := (true, "d500e82da75338eb191ff4d532b16d93f1684435e251f0fa625b5ffad1038cd3"), looks := false }, kinds := [], alts := [], laidByText := true, laidKinds := [.data], laidTests := true, laidLooks := .later }
def FnExactRisingOfCardSaid : Prop := Claim7.holds Tryd.pinned (.plain (OpenSpec.ofChange fnExactRisingOfSpec)) fnExactRisingOfCard

/-- THE TIED CARD OF 'laws.FnExactSettingOf'. -/
def fnExactSettingOfCard : Claim7 := { stood := { row := fnExactSettingOfRow, standIns := [], harness := (true, "d500e82da75338eb191ff4d532b16d93f1684435e251f0fa625b5ffad1038cd3"), looks := false }, kinds := [], alts := [], laidByText := true, laidKinds := [.data], laidTests := true, laidLooks := .later }
def FnExactSettingOfCardSaid : Prop := Claim7.holds Tryd.pinned (.plain (OpenSpec.ofChange fnExactSettingOfSpec)) fnExactSettingOfCard

/-- THE SECOND FORM's CARD OF 'laws.FnExactHorizontalVector'. -/
def fnExactHorizontalVectorUptoCard : Claim7 := { stood := { row := fnExactHorizontalVectorUptoRow, standIns := [], harness := (true, "d500e82da75338eb191ff4d532b16d93f1684435e251f0fa625b5ffad1038cd3"), looks := false }, kinds := [], alts := [], laidByText := true, laidKinds := [.data], laidTests := true, laidLooks := .later }
def FnExactHorizontalVectorUptoCardSaid : Prop := Claim7.holds Tryd.pinned (.plain (OpenSpec.upto fnExactHorizontalVectorSpec)) fnExactHorizontalVectorUptoCard

/-- THE SECOND FORM's CARD OF 'laws.FnExactHorizontal'. -/
def fnExactHorizontalUptoCard : Claim7 := { stood := { row := fnExactHorizontalUptoRow, standIns := [], harness := (true, "d500e82da75338eb191ff4d532b16d93f1684435e251f0fa625b5ffad1038cd3"), looks := false }, kinds := [], alts := [], laidByText := true, laidKinds := [.data], laidTests := true, laidLooks := .later }
def FnExactHorizontalUptoCardSaid : Prop := Claim7.holds Tryd.pinned (.plain (OpenSpec.upto fnExactHorizontalSpec)) fnExactHorizontalUptoCard

/-- THE SECOND FORM's CARD OF 'laws.FnExactEquatorialOf'. -/
def fnExactEquatorialOfUptoCard : Claim7 := { stood := { row := fnExactEquatorialOfUptoRow, standIns := [], harness := (true, "d500e82da75338eb191ff4d532b16d93f1684435e251f0fa625b5ffad1038cd3"), looks := false }, kinds := [], alts := [], laidByText := true, laidKinds := [.data], laidTests := true, laidLooks := .later }
def FnExactEquatorialOfUptoCardSaid : Prop := Claim7.holds Tryd.pinned (.plain (OpenSpec.upto fnExactEquatorialOfSpec)) fnExactEquatorialOfUptoCard

/-- THE SECOND FORM's CARD OF 'laws.FnExactSettingHour'. -/
def fnExactSettingHourUptoCard : Claim7 := { stood := { row := fnExactSettingHourUptoRow, standIns := [], harness := (true, "d500e82da75338eb191ff4d532b16d93f1684435e251f0fa625b5ffad1038cd3"), looks := false }, kinds := [], alts := [], laidByText := true, laidKinds := [.data], laidTests := true, laidLooks := .later }
def FnExactSettingHourUptoCardSaid : Prop := Claim7.holds Tryd.pinned (.plain (OpenSpec.upto fnExactSettingHourSpec)) fnExactSettingHourUptoCard

/-- THE SECOND FORM's CARD OF 'laws.FnExactRisingOf'. -/
def fnExactRisingOfUptoCard : Claim7 := { stood := { row := fnExactRisingOfUptoRow, standIns := [], harness := (true, "d500e82da75338eb191ff4d532b16d93f1684435e251f0fa625b5ffad1038cd3"), looks := false }, kinds := [], alts := [], laidByText := true, laidKinds := [.data], laidTests := true, laidLooks := .later }
def FnExactRisingOfUptoCardSaid : Prop := Claim7.holds Tryd.pinned (.plain (OpenSpec.upto fnExactRisingOfSpec)) fnExactRisingOfUptoCard

/-- THE SECOND FORM's CARD OF 'laws.FnExactSettingOf'. -/
def fnExactSettingOfUptoCard : Claim7 := { stood := { row := fnExactSettingOfUptoRow, standIns := [], harness := (true, "d500e82da75338eb191ff4d532b16d93f1684435e251f0fa625b5ffad1038cd3"), looks := false }, kinds := [], alts := [], laidByText := true, laidKinds := [.data], laidTests := true, laidLooks := .later }
def FnExactSettingOfUptoCardSaid : Prop := Claim7.holds Tryd.pinned (.plain (OpenSpec.upto fnExactSettingOfSpec)) fnExactSettingOfUptoCard
end Rows
end Go.Proofs.YtlhkgfpimgmdfaaDoor
