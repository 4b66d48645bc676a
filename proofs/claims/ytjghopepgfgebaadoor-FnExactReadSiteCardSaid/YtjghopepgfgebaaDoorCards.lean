/-
  DERIVED. GIVEN WITH THE SEED: THE CARDS: each row of YtjghopepgfgebaaDoorRows.lean that lists a variable, with what it lists TIED to the program's text (the seventh form; the later family's looks); each row that meets fmt, with fmt's text TOLD by the authors' own Lean function (tested against real Go, not proved from fmt's source: count such statements apart). THE CARD IS WHAT COUNTS. Prove the row's statement (the work); the ties are given (YtjghopepgfgebaaDoorTie.lean); close each card by the builder's one call (the guide's Derived/Test/ToyasCard.lean, 'card_holds'). Laid BY PROGRAM, IN A SANDBOX (cutbox-door.mjs). By AI agents, Wed Nov 11 2026. No macro, syntax, notation, axiom, sorry.
-/
import Derived.Test.YtjghopepgfgebaaDoorRows
import GoSem.ClaimSeven
namespace Go.Proofs.YtjghopepgfgebaaDoor
namespace Rows

/-- THE TIED CARD OF 'laws.FnExactFigureText'. -/
def fnExactFigureTextCard : Claim7 := { stood := { row := fnExactFigureTextRow, standIns := [], harness := (true, "c62c4f0f80faa466d310f38b748c827ff54fb793da65fc2cfe48a423712f4f85"), looks := true }, kinds := [], alts := [], laidByText := true, laidKinds := [.data, .data, .data], laidTests := true, laidLooks := .later }
def FnExactFigureTextCardSaid : Prop := Claim7.holds Tryd.pinned (.plain (OpenSpec.ofChange fnExactFigureTextSpec)) fnExactFigureTextCard

/-- THE TIED CARD OF 'laws.FnExactReadStar'. -/
def fnExactReadStarCard : Claim7 := { stood := { row := fnExactReadStarRow, standIns := [], harness := (true, "c62c4f0f80faa466d310f38b748c827ff54fb793da65fc2cfe48a423712f4f85"), looks := true }, kinds := [], alts := [], laidByText := true, laidKinds := [.data, .data, .data, .data, .sentinel, .sentinel, .pinned], laidTests := true, laidLooks := .later }
def FnExactReadStarCardSaid : Prop := Claim7.holds Tryd.pinned (.plain (OpenSpec.ofChange fnExactReadStarSpec)) fnExactReadStarCard

/-- THE TIED CARD OF 'laws.FnExactReadSite'. -/
def fnExactReadSiteCard : Claim7 := { stood := { row := fnExactReadSiteRow, standIns := [], harness := (true, "c62c4f0f80faa466d310f38b748c827ff54fb793da65fc2cfe48a423712f4f85"), looks := true }, kinds := [], alts := [], laidByText := true, laidKinds := [.data, .data, .data, .data, .sentinel, .sentinel, .pinned], laidTests := true, laidLooks := .later }
def FnExactReadSiteCardSaid : Prop := Claim7.holds Tryd.pinned (.plain (OpenSpec.ofChange fnExactReadSiteSpec)) fnExactReadSiteCard

/-- THE TIED CARD OF 'laws.FnExactStarText'. -/
def fnExactStarTextCard : Claim7 := { stood := { row := fnExactStarTextRow, standIns := [], harness := (true, "c62c4f0f80faa466d310f38b748c827ff54fb793da65fc2cfe48a423712f4f85"), looks := true }, kinds := [], alts := [], laidByText := true, laidKinds := [.data, .data, .data], laidTests := true, laidLooks := .later }
def FnExactStarTextCardSaid : Prop := Claim7.holds Tryd.pinned (.plain (OpenSpec.ofChange fnExactStarTextSpec)) fnExactStarTextCard

/-- THE TIED CARD OF 'laws.FnBasics'. -/
def fnBasicsCard : Claim7 := { stood := { row := fnBasicsRow, standIns := [], harness := (true, "c62c4f0f80faa466d310f38b748c827ff54fb793da65fc2cfe48a423712f4f85"), looks := true }, kinds := [], alts := [], laidByText := true, laidKinds := [.data, .data, .data, .data, .sentinel, .sentinel, .pinned], laidTests := true, laidLooks := .later }
def FnBasicsCardSaid : Prop := Claim7.holds Tryd.pinned (.plain (OpenSpec.ofChange fnBasicsSpec)) fnBasicsCard

/-- THE SECOND FORM's CARD OF 'laws.FnExactFigureText'. -/
def fnExactFigureTextUptoCard : Claim7 := { stood := { row := fnExactFigureTextUptoRow, standIns := [], harness := (true, "c62c4f0f80faa466d310f38b748c827ff54fb793da65fc2cfe48a423712f4f85"), looks := true }, kinds := [], alts := [], laidByText := true, laidKinds := [.data, .data, .data], laidTests := true, laidLooks := .later }
def FnExactFigureTextUptoCardSaid : Prop := Claim7.holds Tryd.pinned (.plain (OpenSpec.upto fnExactFigureTextSpec)) fnExactFigureTextUptoCard

/-- THE SECOND FORM's CARD OF 'laws.FnExactReadStar'. -/
def fnExactReadStarUptoCard : Claim7 := { stood := { row := fnExactReadStarUptoRow, standIns := [], harness := (true, "c62c4f0f80faa466d310f38b748c827ff54fb793da65fc2cfe48a423712f4f85"), looks := true }, kinds := [], alts := [], laidByText := true, laidKinds := [.data, .data, .data, .data, .sentinel, .sentinel, .pinned], laidTests := true, laidLooks := .later }
def FnExactReadStarUptoCardSaid : Prop := Claim7.holds Tryd.pinned (.plain (OpenSpec.upto fnExactReadStarSpec)) fnExactReadStarUptoCard

/-- THE SECOND FORM's CARD OF 'laws.FnExactReadSite'. -/
def fnExactReadSiteUptoCard : Claim7 := { stood := { row := fnExactReadSiteUptoRow, standIns := [], harness := (true, "c62c4f0f80faa466d310f38b748c827ff54fb793da65fc2cfe48a423712f4f85"), looks := true }, kinds := [], alts := [], laidByText := true, laidKinds := [.data, .data, .data, .data, .sentinel, .sentinel, .pinned], laidTests := true, laidLooks := .later }
def FnExactReadSiteUptoCardSaid : Prop := Claim7.holds Tryd.pinned (.plain (OpenSpec.upto fnExactReadSiteSpec)) fnExactReadSiteUptoCard

/-- THE SECOND FORM's CARD OF 'laws.FnExactStarText'. -/
def fnExactStarTextUptoCard : Claim7 := { stood := { row := fnExactStarTextUptoRow, standIns := [], harness := (true, "c62c4f0f80faa466d310f38b748c827ff54fb793da65fc2cfe48a423712f4f85"), looks := true }, kinds := [], alts := [], laidByText := true, laidKinds := [.data, .data, .data], laidTests := true, laidLooks := .later }
def FnExactStarTextUptoCardSaid : Prop := Claim7.holds Tryd.pinned (.plain (OpenSpec.upto fnExactStarTextSpec)) fnExactStarTextUptoCard

/-- THE SECOND FORM's CARD OF 'laws.FnBasics'. -/
def fnBasicsUptoCard : Claim7 := { stood := { row := fnBasicsUptoRow, standIns := [], harness := (true, "c62c4f0f80faa466d310f38b748c827ff54fb793da65fc2cfe48a423712f4f85"), looks := true }, kinds := [], alts := [], laidByText := true, laidKinds := [.data, .data, .data, .data, .sentinel, .sentinel, .pinned], laidTests := true, laidLooks := .later }
def FnBasicsUptoCardSaid : Prop := Claim7.holds Tryd.pinned (.plain (OpenSpec.upto fnBasicsSpec)) fnBasicsUptoCard
end Rows
end Go.Proofs.YtjghopepgfgebaaDoor
