/-
  DERIVED. GIVEN WITH THE SEED: THE CARDS: each row of YtcdmgkjaionjpaaDoorRows.lean that lists a variable, with what it lists TIED to the program's text (the seventh form; the later family's looks); each row that meets fmt, with fmt's text TOLD by the authors' own Lean function (tested against real Go, not proved from fmt's source: count such statements apart). THE CARD IS WHAT COUNTS. Prove the row's statement (the work); the ties are given (YtcdmgkjaionjpaaDoorTie.lean); close each card by the builder's one call (the guide's Derived/Test/ToyasCard.lean, 'card_holds'). Laid BY PROGRAM, IN A SANDBOX (cutbox-door.mjs). By AI agents, Wed Nov 11 2026. No macro, syntax, notation, axiom, sorry.
-/
import Derived.Test.YtcdmgkjaionjpaaDoorRows
import GoSem.ClaimSeven
namespace Go.Proofs.YtcdmgkjaionjpaaDoor
namespace Rows

/-- THE TIED CARD OF 'laws.FnExactSpotOf'. -/
def fnExactSpotOfCard : Claim7 := { stood := { row := fnExactSpotOfRow, standIns := [], harness := (true, "613bca031c807b93dec36973330a875c11e059a0b28f778259655bc9356122f9"), looks := true }, kinds := [], alts := [], laidByText := true, laidKinds := [.data], laidTests := true, laidLooks := .later }
def FnExactSpotOfCardSaid : Prop := Claim7.holds Tryd.pinned (.plain (OpenSpec.ofChange fnExactSpotOfSpec)) fnExactSpotOfCard

/-- THE TIED CARD OF 'laws.FnExactDirectionAt'. -/
def fnExactDirectionAtCard : Claim7 := { stood := { row := fnExactDirectionAtRow, standIns := [], harness := (true, "613bca031c807b93dec36973330a875c11e059a0b28f778259655bc9356122f9"), looks := true }, kinds := [], alts := [], laidByText := true, laidKinds := [.data], laidTests := true, laidLooks := .later }
def FnExactDirectionAtCardSaid : Prop := Claim7.holds Tryd.pinned (.plain (OpenSpec.ofChange fnExactDirectionAtSpec)) fnExactDirectionAtCard

/-- THE TIED CARD OF 'laws.FnExactTiltedDirection'. -/
def fnExactTiltedDirectionCard : Claim7 := { stood := { row := fnExactTiltedDirectionRow, standIns := [], harness := (true, "613bca031c807b93dec36973330a875c11e059a0b28f778259655bc9356122f9"), looks := true }, kinds := [], alts := [], laidByText := true, laidKinds := [.data], laidTests := true, laidLooks := .later }
def FnExactTiltedDirectionCardSaid : Prop := Claim7.holds Tryd.pinned (.plain (OpenSpec.ofChange fnExactTiltedDirectionSpec)) fnExactTiltedDirectionCard

/-- THE TIED CARD OF 'laws.FnExactLevelDirection'. -/
def fnExactLevelDirectionCard : Claim7 := { stood := { row := fnExactLevelDirectionRow, standIns := [], harness := (true, "613bca031c807b93dec36973330a875c11e059a0b28f778259655bc9356122f9"), looks := true }, kinds := [], alts := [], laidByText := true, laidKinds := [.data], laidTests := true, laidLooks := .later }
def FnExactLevelDirectionCardSaid : Prop := Claim7.holds Tryd.pinned (.plain (OpenSpec.ofChange fnExactLevelDirectionSpec)) fnExactLevelDirectionCard

/-- THE TIED CARD OF 'laws.FnExactDomePoint'. -/
def fnExactDomePointCard : Claim7 := { stood := { row := fnExactDomePointRow, standIns := [], harness := (true, "613bca031c807b93dec36973330a875c11e059a0b28f778259655bc9356122f9"), looks := true }, kinds := [], alts := [], laidByText := true, laidKinds := [.data], laidTests := true, laidLooks := .later }
def FnExactDomePointCardSaid : Prop := Claim7.holds Tryd.pinned (.plain (OpenSpec.ofChange fnExactDomePointSpec)) fnExactDomePointCard

/-- THE TIED CARD OF 'laws.FnExactArcOnDome'. -/
def fnExactArcOnDomeCard : Claim7 := { stood := { row := fnExactArcOnDomeRow, standIns := [], harness := (true, "613bca031c807b93dec36973330a875c11e059a0b28f778259655bc9356122f9"), looks := true }, kinds := [], alts := [], laidByText := true, laidKinds := [.data], laidTests := true, laidLooks := .later }
def FnExactArcOnDomeCardSaid : Prop := Claim7.holds Tryd.pinned (.plain (OpenSpec.ofChange fnExactArcOnDomeSpec)) fnExactArcOnDomeCard

/-- THE TIED CARD OF 'laws.FnExactZoneShare'. -/
def fnExactZoneShareCard : Claim7 := { stood := { row := fnExactZoneShareRow, standIns := [], harness := (true, "613bca031c807b93dec36973330a875c11e059a0b28f778259655bc9356122f9"), looks := true }, kinds := [], alts := [], laidByText := true, laidKinds := [.data], laidTests := true, laidLooks := .later }
def FnExactZoneShareCardSaid : Prop := Claim7.holds Tryd.pinned (.plain (OpenSpec.ofChange fnExactZoneShareSpec)) fnExactZoneShareCard

/-- THE TIED CARD OF 'laws.FnExactDomeText'. -/
def fnExactDomeTextCard : Claim7 := { stood := { row := fnExactDomeTextRow, standIns := [], harness := (true, "613bca031c807b93dec36973330a875c11e059a0b28f778259655bc9356122f9"), looks := true }, kinds := [], alts := [], laidByText := true, laidKinds := [.data, .data, .data], laidTests := true, laidLooks := .later }
def FnExactDomeTextCardSaid : Prop := Claim7.holds Tryd.pinned (.plain (OpenSpec.ofChange fnExactDomeTextSpec)) fnExactDomeTextCard

/-- THE TIED CARD OF 'laws.FnExactReadDome'. -/
def fnExactReadDomeCard : Claim7 := { stood := { row := fnExactReadDomeRow, standIns := [], harness := (true, "613bca031c807b93dec36973330a875c11e059a0b28f778259655bc9356122f9"), looks := true }, kinds := [], alts := [], laidByText := true, laidKinds := [.data, .data, .data, .data, .sentinel, .sentinel, .pinned], laidTests := true, laidLooks := .later }
def FnExactReadDomeCardSaid : Prop := Claim7.holds Tryd.pinned (.plain (OpenSpec.ofChange fnExactReadDomeSpec)) fnExactReadDomeCard

/-- THE SECOND FORM's CARD OF 'laws.FnExactSpotOf'. -/
def fnExactSpotOfUptoCard : Claim7 := { stood := { row := fnExactSpotOfUptoRow, standIns := [], harness := (true, "613bca031c807b93dec36973330a875c11e059a0b28f778259655bc9356122f9"), looks := true }, kinds := [], alts := [], laidByText := true, laidKinds := [.data], laidTests := true, laidLooks := .later }
def FnExactSpotOfUptoCardSaid : Prop := Claim7.holds Tryd.pinned (.plain (OpenSpec.upto fnExactSpotOfSpec)) fnExactSpotOfUptoCard

/-- THE SECOND FORM's CARD OF 'laws.FnExactDirectionAt'. -/
def fnExactDirectionAtUptoCard : Claim7 := { stood := { row := fnExactDirectionAtUptoRow, standIns := [], harness := (true, "613bca031c807b93dec36973330a875c11e059a0b28f778259655bc9356122f9"), looks := true }, kinds := [], alts := [], laidByText := true, laidKinds := [.data], laidTests := true, laidLooks := .later }
def FnExactDirectionAtUptoCardSaid : Prop := Claim7.holds Tryd.pinned (.plain (OpenSpec.upto fnExactDirectionAtSpec)) fnExactDirectionAtUptoCard

/-- THE SECOND FORM's CARD OF 'laws.FnExactTiltedDirection'. -/
def fnExactTiltedDirectionUptoCard : Claim7 := { stood := { row := fnExactTiltedDirectionUptoRow, standIns := [], harness := (true, "613bca031c807b93dec36973330a875c11e059a0b28f778259655bc9356122f9"), looks := true }, kinds := [], alts := [], laidByText := true, laidKinds := [.data], laidTests := true, laidLooks := .later }
def FnExactTiltedDirectionUptoCardSaid : Prop := Claim7.holds Tryd.pinned (.plain (OpenSpec.upto fnExactTiltedDirectionSpec)) fnExactTiltedDirectionUptoCard

/-- THE SECOND FORM's CARD OF 'laws.FnExactLevelDirection'. -/
def fnExactLevelDirectionUptoCard : Claim7 := { stood := { row := fnExactLevelDirectionUptoRow, standIns := [], harness := (true, "613bca031c807b93dec36973330a875c11e059a0b28f778259655bc9356122f9"), looks := true }, kinds := [], alts := [], laidByText := true, laidKinds := [.data], laidTests := true, laidLooks := .later }
def FnExactLevelDirectionUptoCardSaid : Prop := Claim7.holds Tryd.pinned (.plain (OpenSpec.upto fnExactLevelDirectionSpec)) fnExactLevelDirectionUptoCard

/-- THE SECOND FORM's CARD OF 'laws.FnExactDomePoint'. -/
def fnExactDomePointUptoCard : Claim7 := { stood := { row := fnExactDomePointUptoRow, standIns := [], harness := (true, "613bca031c807b93dec36973330a875c11e059a0b28f778259655bc9356122f9"), looks := true }, kinds := [], alts := [], laidByText := true, laidKinds := [.data], laidTests := true, laidLooks := .later }
def FnExactDomePointUptoCardSaid : Prop := Claim7.holds Tryd.pinned (.plain (OpenSpec.upto fnExactDomePointSpec)) fnExactDomePointUptoCard

/-- THE SECOND FORM's CARD OF 'laws.FnExactArcOnDome'. -/
def fnExactArcOnDomeUptoCard : Claim7 := { stood := { row := fnExactArcOnDomeUptoRow, standIns := [], harness := (true, "613bca031c807b93dec36973330a875c11e059a0b28f778259655bc9356122f9"), looks := true }, kinds := [], alts := [], laidByText := true, laidKinds := [.data], laidTests := true, laidLooks := .later }
def FnExactArcOnDomeUptoCardSaid : Prop := Claim7.holds Tryd.pinned (.plain (OpenSpec.upto fnExactArcOnDomeSpec)) fnExactArcOnDomeUptoCard

/-- THE SECOND FORM's CARD OF 'laws.FnExactZoneShare'. -/
def fnExactZoneShareUptoCard : Claim7 := { stood := { row := fnExactZoneShareUptoRow, standIns := [], harness := (true, "613bca031c807b93dec36973330a875c11e059a0b28f778259655bc9356122f9"), looks := true }, kinds := [], alts := [], laidByText := true, laidKinds := [.data], laidTests := true, laidLooks := .later }
def FnExactZoneShareUptoCardSaid : Prop := Claim7.holds Tryd.pinned (.plain (OpenSpec.upto fnExactZoneShareSpec)) fnExactZoneShareUptoCard

/-- THE SECOND FORM's CARD OF 'laws.FnExactDomeText'. -/
def fnExactDomeTextUptoCard : Claim7 := { stood := { row := fnExactDomeTextUptoRow, standIns := [], harness := (true, "613bca031c807b93dec36973330a875c11e059a0b28f778259655bc9356122f9"), looks := true }, kinds := [], alts := [], laidByText := true, laidKinds := [.data, .data, .data], laidTests := true, laidLooks := .later }
def FnExactDomeTextUptoCardSaid : Prop := Claim7.holds Tryd.pinned (.plain (OpenSpec.upto fnExactDomeTextSpec)) fnExactDomeTextUptoCard

/-- THE SECOND FORM's CARD OF 'laws.FnExactReadDome'. -/
def fnExactReadDomeUptoCard : Claim7 := { stood := { row := fnExactReadDomeUptoRow, standIns := [], harness := (true, "613bca031c807b93dec36973330a875c11e059a0b28f778259655bc9356122f9"), looks := true }, kinds := [], alts := [], laidByText := true, laidKinds := [.data, .data, .data, .data, .sentinel, .sentinel, .pinned], laidTests := true, laidLooks := .later }
def FnExactReadDomeUptoCardSaid : Prop := Claim7.holds Tryd.pinned (.plain (OpenSpec.upto fnExactReadDomeSpec)) fnExactReadDomeUptoCard
end Rows
end Go.Proofs.YtcdmgkjaionjpaaDoor
