/-
  DERIVED. GIVEN WITH THE SEED: THE CARDS: each row of YtikfcadookimeaaDoorRows.lean that lists a variable, with what it lists TIED to the program's text (the seventh form; the later family's looks); each row that meets fmt, with fmt's text TOLD by the authors' own Lean function (tested against real Go, not proved from fmt's source: count such statements apart). THE CARD IS WHAT COUNTS. Prove the row's statement (the work); the ties are given (YtikfcadookimeaaDoorTie.lean); close each card by the builder's one call (the guide's Derived/Test/ToyasCard.lean, 'card_holds'). Laid BY PROGRAM, IN A SANDBOX (cutbox-door.mjs). By AI agents, Wed Nov 11 2026. No macro, syntax, notation, axiom, sorry.
-/
import Derived.Test.YtikfcadookimeaaDoorRows
import GoSem.ClaimSeven
namespace Go.Proofs.YtikfcadookimeaaDoor
namespace Rows

/-- THE TIED CARD OF 'laws.FnExactFigureText'. -/
def fnExactFigureTextCard : Claim7 := { stood := { row := fnExactFigureTextRow, standIns := [], harness := (true, "a1cc5239245c46265459553467fdc27e6605ece227d493d5d6b94fc7f51f0c0c"), looks := true }, kinds := [], alts := [], laidByText := true, laidKinds := [.data, .data, .data], laidTests := true, laidLooks := .later }
def FnExactFigureTextCardSaid : Prop := Claim7.holds Tryd.pinned (.plain (OpenSpec.ofChange fnExactFigureTextSpec)) fnExactFigureTextCard

/-- THE TIED CARD OF 'laws.FnExactReadFigure'. -/
def fnExactReadFigureCard : Claim7 := { stood := { row := fnExactReadFigureRow, standIns := [], harness := (true, "a1cc5239245c46265459553467fdc27e6605ece227d493d5d6b94fc7f51f0c0c"), looks := true }, kinds := [], alts := [], laidByText := true, laidKinds := [.data, .data, .data, .data, .sentinel, .sentinel, .pinned], laidTests := true, laidLooks := .later }
def FnExactReadFigureCardSaid : Prop := Claim7.holds Tryd.pinned (.plain (OpenSpec.ofChange fnExactReadFigureSpec)) fnExactReadFigureCard

/-- THE TIED CARD OF 'laws.FnExactMomentText'. -/
def fnExactMomentTextCard : Claim7 := { stood := { row := fnExactMomentTextRow, standIns := [], harness := (true, "a1cc5239245c46265459553467fdc27e6605ece227d493d5d6b94fc7f51f0c0c"), looks := true }, kinds := [], alts := [], laidByText := true, laidKinds := [.data, .data, .data, .data, .data], laidTests := true, laidLooks := .later }
def FnExactMomentTextCardSaid : Prop := Claim7.holds Tryd.pinned (.plain (OpenSpec.ofChange fnExactMomentTextSpec)) fnExactMomentTextCard

/-- THE TIED CARD OF 'laws.FnExactReadMoment'. -/
def fnExactReadMomentCard : Claim7 := { stood := { row := fnExactReadMomentRow, standIns := [], harness := (true, "a1cc5239245c46265459553467fdc27e6605ece227d493d5d6b94fc7f51f0c0c"), looks := true }, kinds := [], alts := [], laidByText := true, laidKinds := [.data, .data, .data, .sentinel, .sentinel, .data, .data], laidTests := true, laidLooks := .later }
def FnExactReadMomentCardSaid : Prop := Claim7.holds Tryd.pinned (.plain (OpenSpec.ofChange fnExactReadMomentSpec)) fnExactReadMomentCard

/-- THE TIED CARD OF 'laws.FnExactTotalMagnitude'. -/
def fnExactTotalMagnitudeCard : Claim7 := { stood := { row := fnExactTotalMagnitudeRow, standIns := [], harness := (true, "a1cc5239245c46265459553467fdc27e6605ece227d493d5d6b94fc7f51f0c0c"), looks := true }, kinds := [], alts := [], laidByText := true, laidKinds := [.data], laidTests := true, laidLooks := .later }
def FnExactTotalMagnitudeCardSaid : Prop := Claim7.holds Tryd.pinned (.plain (OpenSpec.ofChange fnExactTotalMagnitudeSpec)) fnExactTotalMagnitudeCard

/-- THE TIED CARD OF 'laws.FnExactNearestStar'. -/
def fnExactNearestStarCard : Claim7 := { stood := { row := fnExactNearestStarRow, standIns := [], harness := (true, "a1cc5239245c46265459553467fdc27e6605ece227d493d5d6b94fc7f51f0c0c"), looks := true }, kinds := [], alts := [], laidByText := true, laidKinds := [.data], laidTests := true, laidLooks := .later }
def FnExactNearestStarCardSaid : Prop := Claim7.holds Tryd.pinned (.plain (OpenSpec.ofChange fnExactNearestStarSpec)) fnExactNearestStarCard

/-- THE SECOND FORM's CARD OF 'laws.FnExactFigureText'. -/
def fnExactFigureTextUptoCard : Claim7 := { stood := { row := fnExactFigureTextUptoRow, standIns := [], harness := (true, "a1cc5239245c46265459553467fdc27e6605ece227d493d5d6b94fc7f51f0c0c"), looks := true }, kinds := [], alts := [], laidByText := true, laidKinds := [.data, .data, .data], laidTests := true, laidLooks := .later }
def FnExactFigureTextUptoCardSaid : Prop := Claim7.holds Tryd.pinned (.plain (OpenSpec.upto fnExactFigureTextSpec)) fnExactFigureTextUptoCard

/-- THE SECOND FORM's CARD OF 'laws.FnExactReadFigure'. -/
def fnExactReadFigureUptoCard : Claim7 := { stood := { row := fnExactReadFigureUptoRow, standIns := [], harness := (true, "a1cc5239245c46265459553467fdc27e6605ece227d493d5d6b94fc7f51f0c0c"), looks := true }, kinds := [], alts := [], laidByText := true, laidKinds := [.data, .data, .data, .data, .sentinel, .sentinel, .pinned], laidTests := true, laidLooks := .later }
def FnExactReadFigureUptoCardSaid : Prop := Claim7.holds Tryd.pinned (.plain (OpenSpec.upto fnExactReadFigureSpec)) fnExactReadFigureUptoCard

/-- THE SECOND FORM's CARD OF 'laws.FnExactMomentText'. -/
def fnExactMomentTextUptoCard : Claim7 := { stood := { row := fnExactMomentTextUptoRow, standIns := [], harness := (true, "a1cc5239245c46265459553467fdc27e6605ece227d493d5d6b94fc7f51f0c0c"), looks := true }, kinds := [], alts := [], laidByText := true, laidKinds := [.data, .data, .data, .data, .data], laidTests := true, laidLooks := .later }
def FnExactMomentTextUptoCardSaid : Prop := Claim7.holds Tryd.pinned (.plain (OpenSpec.upto fnExactMomentTextSpec)) fnExactMomentTextUptoCard

/-- THE SECOND FORM's CARD OF 'laws.FnExactReadMoment'. -/
def fnExactReadMomentUptoCard : Claim7 := { stood := { row := fnExactReadMomentUptoRow, standIns := [], harness := (true, "a1cc5239245c46265459553467fdc27e6605ece227d493d5d6b94fc7f51f0c0c"), looks := true }, kinds := [], alts := [], laidByText := true, laidKinds := [.data, .data, .data, .sentinel, .sentinel, .data, .data], laidTests := true, laidLooks := .later }
def FnExactReadMomentUptoCardSaid : Prop := Claim7.holds Tryd.pinned (.plain (OpenSpec.upto fnExactReadMomentSpec)) fnExactReadMomentUptoCard

/-- THE SECOND FORM's CARD OF 'laws.FnExactTotalMagnitude'. -/
def fnExactTotalMagnitudeUptoCard : Claim7 := { stood := { row := fnExactTotalMagnitudeUptoRow, standIns := [], harness := (true, "a1cc5239245c46265459553467fdc27e6605ece227d493d5d6b94fc7f51f0c0c"), looks := true }, kinds := [], alts := [], laidByText := true, laidKinds := [.data], laidTests := true, laidLooks := .later }
def FnExactTotalMagnitudeUptoCardSaid : Prop := Claim7.holds Tryd.pinned (.plain (OpenSpec.upto fnExactTotalMagnitudeSpec)) fnExactTotalMagnitudeUptoCard

/-- THE SECOND FORM's CARD OF 'laws.FnExactNearestStar'. -/
def fnExactNearestStarUptoCard : Claim7 := { stood := { row := fnExactNearestStarUptoRow, standIns := [], harness := (true, "a1cc5239245c46265459553467fdc27e6605ece227d493d5d6b94fc7f51f0c0c"), looks := true }, kinds := [], alts := [], laidByText := true, laidKinds := [.data], laidTests := true, laidLooks := .later }
def FnExactNearestStarUptoCardSaid : Prop := Claim7.holds Tryd.pinned (.plain (OpenSpec.upto fnExactNearestStarSpec)) fnExactNearestStarUptoCard
end Rows
end Go.Proofs.YtikfcadookimeaaDoor
