/-
  No cell of these rows narrows 'for every input' (looked for: loops, veiled, ifaces, maps, wideKeys, modest, calm, conditions, laid).
  DERIVED. THE GIVEN ROWS OF THIS SEAT. 11 by the template 'for every input the law returns true; each argument reads behind the call as it read before'; 0 by the template 'total and deterministic' (their statements: YtfloppjkfcbgiaaTotals.lean).
  GIVEN WITH THE SEED: the statements are not yours to turn. If you find one false, say at which input.
  Laid BY PROGRAM, IN A SANDBOX (cutbox-rows.mjs): the forced cells as the released guide's own fill.sh prints them over the translation 009c7dc9228403b3… (all of the seat's roots in one cut). By AI agents, Wed Nov 11 2026. No macro, syntax, notation, axiom, sorry.
-/
import Derived.Test.YtfloppjkfcbgiaaChecked
import GoSem.Claim
import GoSem.ClaimJoined
import GoSem.ClaimMapViews
import Derived.JoinedTies
import Derived.KernelRfl
namespace Go.Proofs.Ytfloppjkfcbgiaa
/- THE CELL 'sum', in the pinned program and in every row, IS THE sha256 OF THE DUMP (.gsa) THAT YtfloppjkfcbgiaaProg.lean LOADS. Nothing in Lean hashes anything: it is a label: what it is worth is what the hold of that sum in a sandbox is worth. -/
noncomputable def Try.pinned : Pinned := { name := "ytfloppjkfcbgiaa", sum := "009c7dc9228403b32e93fb3b2b3f502c1d4fb175843d761da9463296966a226a", checked := Try.checked }
namespace Rows
def none {H : Type} : Left H := { results := [], args := [] }

/-- 'laws.FnExactValidCue': WHATEVER THE INPUT: true; the input reads as it did. -/
def fnExactValidCueSpec : ChangeSpec := { name := "fnExactValidCue", fn := fun _ => fun
  | [d] => { results := [.lit (.bool true)], args := [d] }
  | _ => none }
def fnExactValidCueRow : OpenClaim := { program := "ytfloppjkfcbgiaa", sum := "009c7dc9228403b32e93fb3b2b3f502c1d4fb175843d761da9463296966a226a", func := "loop.example/g00955/laws.FnExactValidCue", spec := "fnExactValidCue", apart := false }
def FnExactValidCueSaid : Prop := fnExactValidCueRow.holds Try.pinned (OpenSpec.ofChange fnExactValidCueSpec)

/-- ITS FALSE NEIGHBOUR: 'it returns false'. Refute it at one input. -/
def fnExactValidCueWrong : ChangeSpec := { name := "fnExactValidCue", fn := fun _ => fun
  | [d] => { results := [.lit (.bool false)], args := [d] }
  | _ => none }
def FnExactValidCueWrongFalsely : Prop := fnExactValidCueRow.holds Try.pinned (OpenSpec.ofChange fnExactValidCueWrong)

/-- 'laws.FnExactValidCues': WHATEVER THE INPUT: true; the input reads as it did. -/
def fnExactValidCuesSpec : ChangeSpec := { name := "fnExactValidCues", fn := fun _ => fun
  | [d] => { results := [.lit (.bool true)], args := [d] }
  | _ => none }
def fnExactValidCuesRow : OpenClaim := { program := "ytfloppjkfcbgiaa", sum := "009c7dc9228403b32e93fb3b2b3f502c1d4fb175843d761da9463296966a226a", func := "loop.example/g00955/laws.FnExactValidCues", spec := "fnExactValidCues", unfollowed := true, recurses := true, apart := false }
def FnExactValidCuesSaid : Prop := fnExactValidCuesRow.holds Try.pinned (OpenSpec.ofChange fnExactValidCuesSpec)

/-- ITS FALSE NEIGHBOUR: 'it returns false'. Refute it at one input. -/
def fnExactValidCuesWrong : ChangeSpec := { name := "fnExactValidCues", fn := fun _ => fun
  | [d] => { results := [.lit (.bool false)], args := [d] }
  | _ => none }
def FnExactValidCuesWrongFalsely : Prop := fnExactValidCuesRow.holds Try.pinned (OpenSpec.ofChange fnExactValidCuesWrong)

/-- 'laws.FnExactSameCues': WHATEVER THE INPUT: true; the input reads as it did. -/
def fnExactSameCuesSpec : ChangeSpec := { name := "fnExactSameCues", fn := fun _ => fun
  | [d1, d2] => { results := [.lit (.bool true)], args := [d1, d2] }
  | _ => none }
def fnExactSameCuesRow : OpenClaim := { program := "ytfloppjkfcbgiaa", sum := "009c7dc9228403b32e93fb3b2b3f502c1d4fb175843d761da9463296966a226a", func := "loop.example/g00955/laws.FnExactSameCues", spec := "fnExactSameCues", apart := false }
def FnExactSameCuesSaid : Prop := fnExactSameCuesRow.holds Try.pinned (OpenSpec.ofChange fnExactSameCuesSpec)

/-- ITS FALSE NEIGHBOUR: 'it returns false'. Refute it at one input. -/
def fnExactSameCuesWrong : ChangeSpec := { name := "fnExactSameCues", fn := fun _ => fun
  | [d1, d2] => { results := [.lit (.bool false)], args := [d1, d2] }
  | _ => none }
def FnExactSameCuesWrongFalsely : Prop := fnExactSameCuesRow.holds Try.pinned (OpenSpec.ofChange fnExactSameCuesWrong)

/-- 'laws.FnExactCueNamed': WHATEVER THE INPUT: true; the input reads as it did. -/
def fnExactCueNamedSpec : ChangeSpec := { name := "fnExactCueNamed", fn := fun _ => fun
  | [d1, d2] => { results := [.lit (.bool true)], args := [d1, d2] }
  | _ => none }
def fnExactCueNamedRow : OpenClaim := { program := "ytfloppjkfcbgiaa", sum := "009c7dc9228403b32e93fb3b2b3f502c1d4fb175843d761da9463296966a226a", func := "loop.example/g00955/laws.FnExactCueNamed", spec := "fnExactCueNamed", unfollowed := true, recurses := true, apart := false }
def FnExactCueNamedSaid : Prop := fnExactCueNamedRow.holds Try.pinned (OpenSpec.ofChange fnExactCueNamedSpec)

/-- ITS FALSE NEIGHBOUR: 'it returns false'. Refute it at one input. -/
def fnExactCueNamedWrong : ChangeSpec := { name := "fnExactCueNamed", fn := fun _ => fun
  | [d1, d2] => { results := [.lit (.bool false)], args := [d1, d2] }
  | _ => none }
def FnExactCueNamedWrongFalsely : Prop := fnExactCueNamedRow.holds Try.pinned (OpenSpec.ofChange fnExactCueNamedWrong)

/-- 'laws.FnExactDropCue': WHATEVER THE INPUT: true; the input reads as it did. -/
def fnExactDropCueSpec : ChangeSpec := { name := "fnExactDropCue", fn := fun _ => fun
  | [d1, d2] => { results := [.lit (.bool true)], args := [d1, d2] }
  | _ => none }
def fnExactDropCueRow : OpenClaim := { program := "ytfloppjkfcbgiaa", sum := "009c7dc9228403b32e93fb3b2b3f502c1d4fb175843d761da9463296966a226a", func := "loop.example/g00955/laws.FnExactDropCue", spec := "fnExactDropCue", unfollowed := true, recurses := true, apart := false }
def FnExactDropCueSaid : Prop := fnExactDropCueRow.holds Try.pinned (OpenSpec.ofChange fnExactDropCueSpec)

/-- ITS FALSE NEIGHBOUR: 'it returns false'. Refute it at one input. -/
def fnExactDropCueWrong : ChangeSpec := { name := "fnExactDropCue", fn := fun _ => fun
  | [d1, d2] => { results := [.lit (.bool false)], args := [d1, d2] }
  | _ => none }
def FnExactDropCueWrongFalsely : Prop := fnExactDropCueRow.holds Try.pinned (OpenSpec.ofChange fnExactDropCueWrong)

/-- 'laws.FnExactInsertTime': WHATEVER THE INPUT: true; the input reads as it did. -/
def fnExactInsertTimeSpec : ChangeSpec := { name := "fnExactInsertTime", fn := fun _ => fun
  | [d1, d2, d3] => { results := [.lit (.bool true)], args := [d1, d2, d3] }
  | _ => none }
def fnExactInsertTimeRow : OpenClaim := { program := "ytfloppjkfcbgiaa", sum := "009c7dc9228403b32e93fb3b2b3f502c1d4fb175843d761da9463296966a226a", func := "loop.example/g00955/laws.FnExactInsertTime", spec := "fnExactInsertTime", unfollowed := true, recurses := true, apart := false }
def FnExactInsertTimeSaid : Prop := fnExactInsertTimeRow.holds Try.pinned (OpenSpec.ofChange fnExactInsertTimeSpec)

/-- ITS FALSE NEIGHBOUR: 'it returns false'. Refute it at one input. -/
def fnExactInsertTimeWrong : ChangeSpec := { name := "fnExactInsertTime", fn := fun _ => fun
  | [d1, d2, d3] => { results := [.lit (.bool false)], args := [d1, d2, d3] }
  | _ => none }
def FnExactInsertTimeWrongFalsely : Prop := fnExactInsertTimeRow.holds Try.pinned (OpenSpec.ofChange fnExactInsertTimeWrong)

/-- 'laws.FnExactClashesOf': WHATEVER THE INPUT: true; the input reads as it did. -/
def fnExactClashesOfSpec : ChangeSpec := { name := "fnExactClashesOf", fn := fun _ => fun
  | [d] => { results := [.lit (.bool true)], args := [d] }
  | _ => none }
def fnExactClashesOfRow : OpenClaim := { program := "ytfloppjkfcbgiaa", sum := "009c7dc9228403b32e93fb3b2b3f502c1d4fb175843d761da9463296966a226a", func := "loop.example/g00955/laws.FnExactClashesOf", spec := "fnExactClashesOf", unfollowed := true, recurses := true, apart := false }
def FnExactClashesOfSaid : Prop := fnExactClashesOfRow.holds Try.pinned (OpenSpec.ofChange fnExactClashesOfSpec)

/-- ITS FALSE NEIGHBOUR: 'it returns false'. Refute it at one input. -/
def fnExactClashesOfWrong : ChangeSpec := { name := "fnExactClashesOf", fn := fun _ => fun
  | [d] => { results := [.lit (.bool false)], args := [d] }
  | _ => none }
def FnExactClashesOfWrongFalsely : Prop := fnExactClashesOfRow.holds Try.pinned (OpenSpec.ofChange fnExactClashesOfWrong)

/-- 'laws.FnExactLevelAt': WHATEVER THE INPUT: true; the input reads as it did. -/
def fnExactLevelAtSpec : ChangeSpec := { name := "fnExactLevelAt", fn := fun _ => fun
  | [d1, d2, d3] => { results := [.lit (.bool true)], args := [d1, d2, d3] }
  | _ => none }
def fnExactLevelAtRow : OpenClaim := { program := "ytfloppjkfcbgiaa", sum := "009c7dc9228403b32e93fb3b2b3f502c1d4fb175843d761da9463296966a226a", func := "loop.example/g00955/laws.FnExactLevelAt", spec := "fnExactLevelAt", unfollowed := true, recurses := true, apart := false }
def FnExactLevelAtSaid : Prop := fnExactLevelAtRow.holds Try.pinned (OpenSpec.ofChange fnExactLevelAtSpec)

/-- ITS FALSE NEIGHBOUR: 'it returns false'. Refute it at one input. -/
def fnExactLevelAtWrong : ChangeSpec := { name := "fnExactLevelAt", fn := fun _ => fun
  | [d1, d2, d3] => { results := [.lit (.bool false)], args := [d1, d2, d3] }
  | _ => none }
def FnExactLevelAtWrongFalsely : Prop := fnExactLevelAtRow.holds Try.pinned (OpenSpec.ofChange fnExactLevelAtWrong)

/-- 'laws.FnExactCuesBetween': WHATEVER THE INPUT: true; the input reads as it did. -/
def fnExactCuesBetweenSpec : ChangeSpec := { name := "fnExactCuesBetween", fn := fun _ => fun
  | [d1, d2, d3] => { results := [.lit (.bool true)], args := [d1, d2, d3] }
  | _ => none }
def fnExactCuesBetweenRow : OpenClaim := { program := "ytfloppjkfcbgiaa", sum := "009c7dc9228403b32e93fb3b2b3f502c1d4fb175843d761da9463296966a226a", func := "loop.example/g00955/laws.FnExactCuesBetween", spec := "fnExactCuesBetween", unfollowed := true, recurses := true, apart := false }
def FnExactCuesBetweenSaid : Prop := fnExactCuesBetweenRow.holds Try.pinned (OpenSpec.ofChange fnExactCuesBetweenSpec)

/-- ITS FALSE NEIGHBOUR: 'it returns false'. Refute it at one input. -/
def fnExactCuesBetweenWrong : ChangeSpec := { name := "fnExactCuesBetween", fn := fun _ => fun
  | [d1, d2, d3] => { results := [.lit (.bool false)], args := [d1, d2, d3] }
  | _ => none }
def FnExactCuesBetweenWrongFalsely : Prop := fnExactCuesBetweenRow.holds Try.pinned (OpenSpec.ofChange fnExactCuesBetweenWrong)

/-- 'laws.FnExactShowEnd': WHATEVER THE INPUT: true; the input reads as it did. -/
def fnExactShowEndSpec : ChangeSpec := { name := "fnExactShowEnd", fn := fun _ => fun
  | [d] => { results := [.lit (.bool true)], args := [d] }
  | _ => none }
def fnExactShowEndRow : OpenClaim := { program := "ytfloppjkfcbgiaa", sum := "009c7dc9228403b32e93fb3b2b3f502c1d4fb175843d761da9463296966a226a", func := "loop.example/g00955/laws.FnExactShowEnd", spec := "fnExactShowEnd", unfollowed := true, recurses := true, apart := false }
def FnExactShowEndSaid : Prop := fnExactShowEndRow.holds Try.pinned (OpenSpec.ofChange fnExactShowEndSpec)

/-- ITS FALSE NEIGHBOUR: 'it returns false'. Refute it at one input. -/
def fnExactShowEndWrong : ChangeSpec := { name := "fnExactShowEnd", fn := fun _ => fun
  | [d] => { results := [.lit (.bool false)], args := [d] }
  | _ => none }
def FnExactShowEndWrongFalsely : Prop := fnExactShowEndRow.holds Try.pinned (OpenSpec.ofChange fnExactShowEndWrong)

/-- 'laws.FnExactTargetsOf': WHATEVER THE INPUT: true; the input reads as it did. -/
def fnExactTargetsOfSpec : ChangeSpec := { name := "fnExactTargetsOf", fn := fun _ => fun
  | [d] => { results := [.lit (.bool true)], args := [d] }
  | _ => none }
def fnExactTargetsOfRow : OpenClaim := { program := "ytfloppjkfcbgiaa", sum := "009c7dc9228403b32e93fb3b2b3f502c1d4fb175843d761da9463296966a226a", func := "loop.example/g00955/laws.FnExactTargetsOf", spec := "fnExactTargetsOf", unfollowed := true, recurses := true, apart := false }
def FnExactTargetsOfSaid : Prop := fnExactTargetsOfRow.holds Try.pinned (OpenSpec.ofChange fnExactTargetsOfSpec)

/-- ITS FALSE NEIGHBOUR: 'it returns false'. Refute it at one input. -/
def fnExactTargetsOfWrong : ChangeSpec := { name := "fnExactTargetsOf", fn := fun _ => fun
  | [d] => { results := [.lit (.bool false)], args := [d] }
  | _ => none }
def FnExactTargetsOfWrongFalsely : Prop := fnExactTargetsOfRow.holds Try.pinned (OpenSpec.ofChange fnExactTargetsOfWrong)

/- THE SECOND FORM. 'bulk': how many values and letters a reading holds, each counted each time it is reached (what is shared counts as often as it is met; a slice's spare places count too). A statement '..UptoSaid' is the law's where the arguments, and the package variables that the reading takes, are together of bulk at most 1048576: NARROWER than '..Said'. Prove '..Said' where nothing that the law and all that it calls make is longer than what came in: it says more and counts as full. Else prove '..UptoSaid'. A law counts once. -/
mutual
def uptoBulk {H : Type} : DataW H → Nat
  | .lit (.string bytes) => bytes.length + 1
  | .lit _ => 1
  | .nil => 1
  | .ptr d => uptoBulk d + 1
  | .slice elems spare => uptoBulkAll elems + uptoBulkAll spare + 1
  | .agg parts => uptoBulkAll parts + 1
  | .iface _ d => uptoBulk d + 1
  | .map entries => uptoBulkEntries entries + 1
  | .held _ => 1
def uptoBulkAll {H : Type} : List (DataW H) → Nat
  | [] => 0
  | d :: r => uptoBulk d + uptoBulkAll r
def uptoBulkEntries {H : Type} : List (Lit × DataW H) → Nat
  | [] => 0
  | x :: r => uptoBulkEntry x + uptoBulkEntries r
def uptoBulkEntry {H : Type} : Lit × DataW H → Nat
  | (.string bytes, d) => bytes.length + uptoBulk d + 1
  | (_, d) => uptoBulk d + 1
 end
def uptoSmall : (H : Type) → List (DataW H) → Bool := fun _ ds => decide (uptoBulkAll ds ≤ 1048576)
def OpenSpec.upto (s : _root_.Go.ChangeSpec) : _root_.Go.OpenSpec := { _root_.Go.OpenSpec.ofChange s with cond := some uptoSmall }

/-- 'laws.FnExactValidCue', WHERE WHAT IT READS IS OF BULK AT MOST 1048576: true; the input reads as it did. -/
def fnExactValidCueUptoRow : OpenClaim := { program := "ytfloppjkfcbgiaa", sum := "009c7dc9228403b32e93fb3b2b3f502c1d4fb175843d761da9463296966a226a", func := "loop.example/g00955/laws.FnExactValidCue", spec := "fnExactValidCue", apart := false, narrowed := true }
def FnExactValidCueUptoSaid : Prop := fnExactValidCueUptoRow.holds Try.pinned (OpenSpec.upto fnExactValidCueSpec)

/-- 'laws.FnExactValidCues', WHERE WHAT IT READS IS OF BULK AT MOST 1048576: true; the input reads as it did. -/
def fnExactValidCuesUptoRow : OpenClaim := { program := "ytfloppjkfcbgiaa", sum := "009c7dc9228403b32e93fb3b2b3f502c1d4fb175843d761da9463296966a226a", func := "loop.example/g00955/laws.FnExactValidCues", spec := "fnExactValidCues", unfollowed := true, recurses := true, apart := false, narrowed := true }
def FnExactValidCuesUptoSaid : Prop := fnExactValidCuesUptoRow.holds Try.pinned (OpenSpec.upto fnExactValidCuesSpec)

/-- 'laws.FnExactSameCues', WHERE WHAT IT READS IS OF BULK AT MOST 1048576: true; the input reads as it did. -/
def fnExactSameCuesUptoRow : OpenClaim := { program := "ytfloppjkfcbgiaa", sum := "009c7dc9228403b32e93fb3b2b3f502c1d4fb175843d761da9463296966a226a", func := "loop.example/g00955/laws.FnExactSameCues", spec := "fnExactSameCues", apart := false, narrowed := true }
def FnExactSameCuesUptoSaid : Prop := fnExactSameCuesUptoRow.holds Try.pinned (OpenSpec.upto fnExactSameCuesSpec)

/-- 'laws.FnExactCueNamed', WHERE WHAT IT READS IS OF BULK AT MOST 1048576: true; the input reads as it did. -/
def fnExactCueNamedUptoRow : OpenClaim := { program := "ytfloppjkfcbgiaa", sum := "009c7dc9228403b32e93fb3b2b3f502c1d4fb175843d761da9463296966a226a", func := "loop.example/g00955/laws.FnExactCueNamed", spec := "fnExactCueNamed", unfollowed := true, recurses := true, apart := false, narrowed := true }
def FnExactCueNamedUptoSaid : Prop := fnExactCueNamedUptoRow.holds Try.pinned (OpenSpec.upto fnExactCueNamedSpec)

/-- 'laws.FnExactDropCue', WHERE WHAT IT READS IS OF BULK AT MOST 1048576: true; the input reads as it did. -/
def fnExactDropCueUptoRow : OpenClaim := { program := "ytfloppjkfcbgiaa", sum := "009c7dc9228403b32e93fb3b2b3f502c1d4fb175843d761da9463296966a226a", func := "loop.example/g00955/laws.FnExactDropCue", spec := "fnExactDropCue", unfollowed := true, recurses := true, apart := false, narrowed := true }
def FnExactDropCueUptoSaid : Prop := fnExactDropCueUptoRow.holds Try.pinned (OpenSpec.upto fnExactDropCueSpec)

/-- 'laws.FnExactInsertTime', WHERE WHAT IT READS IS OF BULK AT MOST 1048576: true; the input reads as it did. -/
def fnExactInsertTimeUptoRow : OpenClaim := { program := "ytfloppjkfcbgiaa", sum := "009c7dc9228403b32e93fb3b2b3f502c1d4fb175843d761da9463296966a226a", func := "loop.example/g00955/laws.FnExactInsertTime", spec := "fnExactInsertTime", unfollowed := true, recurses := true, apart := false, narrowed := true }
def FnExactInsertTimeUptoSaid : Prop := fnExactInsertTimeUptoRow.holds Try.pinned (OpenSpec.upto fnExactInsertTimeSpec)

/-- 'laws.FnExactClashesOf', WHERE WHAT IT READS IS OF BULK AT MOST 1048576: true; the input reads as it did. -/
def fnExactClashesOfUptoRow : OpenClaim := { program := "ytfloppjkfcbgiaa", sum := "009c7dc9228403b32e93fb3b2b3f502c1d4fb175843d761da9463296966a226a", func := "loop.example/g00955/laws.FnExactClashesOf", spec := "fnExactClashesOf", unfollowed := true, recurses := true, apart := false, narrowed := true }
def FnExactClashesOfUptoSaid : Prop := fnExactClashesOfUptoRow.holds Try.pinned (OpenSpec.upto fnExactClashesOfSpec)

/-- 'laws.FnExactLevelAt', WHERE WHAT IT READS IS OF BULK AT MOST 1048576: true; the input reads as it did. -/
def fnExactLevelAtUptoRow : OpenClaim := { program := "ytfloppjkfcbgiaa", sum := "009c7dc9228403b32e93fb3b2b3f502c1d4fb175843d761da9463296966a226a", func := "loop.example/g00955/laws.FnExactLevelAt", spec := "fnExactLevelAt", unfollowed := true, recurses := true, apart := false, narrowed := true }
def FnExactLevelAtUptoSaid : Prop := fnExactLevelAtUptoRow.holds Try.pinned (OpenSpec.upto fnExactLevelAtSpec)

/-- 'laws.FnExactCuesBetween', WHERE WHAT IT READS IS OF BULK AT MOST 1048576: true; the input reads as it did. -/
def fnExactCuesBetweenUptoRow : OpenClaim := { program := "ytfloppjkfcbgiaa", sum := "009c7dc9228403b32e93fb3b2b3f502c1d4fb175843d761da9463296966a226a", func := "loop.example/g00955/laws.FnExactCuesBetween", spec := "fnExactCuesBetween", unfollowed := true, recurses := true, apart := false, narrowed := true }
def FnExactCuesBetweenUptoSaid : Prop := fnExactCuesBetweenUptoRow.holds Try.pinned (OpenSpec.upto fnExactCuesBetweenSpec)

/-- 'laws.FnExactShowEnd', WHERE WHAT IT READS IS OF BULK AT MOST 1048576: true; the input reads as it did. -/
def fnExactShowEndUptoRow : OpenClaim := { program := "ytfloppjkfcbgiaa", sum := "009c7dc9228403b32e93fb3b2b3f502c1d4fb175843d761da9463296966a226a", func := "loop.example/g00955/laws.FnExactShowEnd", spec := "fnExactShowEnd", unfollowed := true, recurses := true, apart := false, narrowed := true }
def FnExactShowEndUptoSaid : Prop := fnExactShowEndUptoRow.holds Try.pinned (OpenSpec.upto fnExactShowEndSpec)

/-- 'laws.FnExactTargetsOf', WHERE WHAT IT READS IS OF BULK AT MOST 1048576: true; the input reads as it did. -/
def fnExactTargetsOfUptoRow : OpenClaim := { program := "ytfloppjkfcbgiaa", sum := "009c7dc9228403b32e93fb3b2b3f502c1d4fb175843d761da9463296966a226a", func := "loop.example/g00955/laws.FnExactTargetsOf", spec := "fnExactTargetsOf", unfollowed := true, recurses := true, apart := false, narrowed := true }
def FnExactTargetsOfUptoSaid : Prop := fnExactTargetsOfUptoRow.holds Try.pinned (OpenSpec.upto fnExactTargetsOfSpec)

end Rows
end Go.Proofs.Ytfloppjkfcbgiaa
