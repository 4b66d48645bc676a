/-
  DERIVED. GIVEN WITH THE SEED: THE CARDS: each row of YtbdikmfbdibcgaaDoorRows.lean that lists a variable, with what it lists TIED to the program's text (the seventh form; the later family's looks); each row that meets fmt, with fmt's text TOLD by the authors' own Lean function (tested against real Go, not proved from fmt's source: count such statements apart). THE CARD IS WHAT COUNTS. Prove the row's statement (the work); the ties are given (YtbdikmfbdibcgaaDoorTie.lean); close each card by the builder's one call (the guide's Derived/Test/ToyasCard.lean, 'card_holds'). Laid BY PROGRAM, IN A SANDBOX (cutbox-door.mjs). By AI agents, Wed Nov 11 2026. No macro, syntax, notation, axiom, sorry.
-/
import Derived.Test.YtbdikmfbdibcgaaDoorRows
import GoSem.ClaimSeven
namespace Go.Proofs.YtbdikmfbdibcgaaDoor
namespace Rows

/-- THE TIED CARD OF 'laws.FnSines'. -/
def fnSinesCard : Claim7 := { stood := { row := fnSinesRow, standIns := [], harness := (true, "829263ed7248d9749d6d279ab988c3d257f3adcfae3eaa61e22e4cb5fd1c15dd"), looks := true }, kinds := [], alts := [], laidByText := true, laidKinds := [.data], laidTests := true, laidLooks := .later }
def FnSinesCardSaid : Prop := Claim7.holds Tryd.pinned (.plain (OpenSpec.ofChange fnSinesSpec)) fnSinesCard

/-- THE TIED CARD OF 'laws.FnAngles'. -/
def fnAnglesCard : Claim7 := { stood := { row := fnAnglesRow, standIns := [], harness := (true, "829263ed7248d9749d6d279ab988c3d257f3adcfae3eaa61e22e4cb5fd1c15dd"), looks := true }, kinds := [], alts := [], laidByText := true, laidKinds := [.data, .data, .data, .sentinel, .sentinel], laidTests := true, laidLooks := .later }
def FnAnglesCardSaid : Prop := Claim7.holds Tryd.pinned (.plain (OpenSpec.ofChange fnAnglesSpec)) fnAnglesCard

/-- THE SECOND FORM's CARD OF 'laws.FnSines'. -/
def fnSinesUptoCard : Claim7 := { stood := { row := fnSinesUptoRow, standIns := [], harness := (true, "829263ed7248d9749d6d279ab988c3d257f3adcfae3eaa61e22e4cb5fd1c15dd"), looks := true }, kinds := [], alts := [], laidByText := true, laidKinds := [.data], laidTests := true, laidLooks := .later }
def FnSinesUptoCardSaid : Prop := Claim7.holds Tryd.pinned (.plain (OpenSpec.upto fnSinesSpec)) fnSinesUptoCard

/-- THE SECOND FORM's CARD OF 'laws.FnAngles'. -/
def fnAnglesUptoCard : Claim7 := { stood := { row := fnAnglesUptoRow, standIns := [], harness := (true, "829263ed7248d9749d6d279ab988c3d257f3adcfae3eaa61e22e4cb5fd1c15dd"), looks := true }, kinds := [], alts := [], laidByText := true, laidKinds := [.data, .data, .data, .sentinel, .sentinel], laidTests := true, laidLooks := .later }
def FnAnglesUptoCardSaid : Prop := Claim7.holds Tryd.pinned (.plain (OpenSpec.upto fnAnglesSpec)) fnAnglesUptoCard
end Rows
end Go.Proofs.YtbdikmfbdibcgaaDoor
