/-
  No cell of these rows narrows 'for every input' (looked for: loops, veiled, ifaces, maps, wideKeys, modest, calm, conditions, laid).
  DERIVED. THE GIVEN ROWS OF THIS SEAT. 11 by the template 'for every input the law returns true; each argument reads behind the call as it read before'; 0 by the template 'total and deterministic' (their statements: YtfjhlapcopjfiaaTotals.lean).
  GIVEN WITH THE SEED: the statements are not yours to turn. If you find one false, say at which input.
  Laid BY PROGRAM, IN A SANDBOX (cutbox-rows.mjs): the forced cells as the released guide's own fill.sh prints them over the translation 6e1b3da10188587e… (all of the seat's roots in one cut). By AI agents, Wed Nov 11 2026. No macro, syntax, notation, axiom, sorry.
-/
import Derived.Test.YtfjhlapcopjfiaaChecked
import GoSem.Claim
import GoSem.ClaimJoined
import GoSem.ClaimMapViews
import Derived.JoinedTies
import Derived.KernelRfl
namespace Go.Proofs.Ytfjhlapcopjfiaa
/- THE CELL 'sum', in the pinned program and in every row, IS THE sha256 OF THE DUMP (.gsa) THAT YtfjhlapcopjfiaaProg.lean LOADS. Nothing in Lean hashes anything: it is a label: what it is worth is what the hold of that sum in a sandbox is worth. -/
noncomputable def Try.pinned : Pinned := { name := "ytfjhlapcopjfiaa", sum := "6e1b3da10188587e88172b5ac6be6ac3210398e62003ca4e0a8eba430e270b89", checked := Try.checked }
namespace Rows
def none {H : Type} : Left H := { results := [], args := [] }

/-- 'laws.FnExactValidStar': WHATEVER THE INPUT: true; the input reads as it did. -/
def fnExactValidStarSpec : ChangeSpec := { name := "fnExactValidStar", fn := fun _ => fun
  | [d] => { results := [.lit (.bool true)], args := [d] }
  | _ => none }
def fnExactValidStarRow : OpenClaim := { program := "ytfjhlapcopjfiaa", sum := "6e1b3da10188587e88172b5ac6be6ac3210398e62003ca4e0a8eba430e270b89", func := "loop.example/g00955/laws.FnExactValidStar", spec := "fnExactValidStar", apart := false }
def FnExactValidStarSaid : Prop := fnExactValidStarRow.holds Try.pinned (OpenSpec.ofChange fnExactValidStarSpec)

/-- ITS FALSE NEIGHBOUR: 'it returns false'. Refute it at one input. -/
def fnExactValidStarWrong : ChangeSpec := { name := "fnExactValidStar", fn := fun _ => fun
  | [d] => { results := [.lit (.bool false)], args := [d] }
  | _ => none }
def FnExactValidStarWrongFalsely : Prop := fnExactValidStarRow.holds Try.pinned (OpenSpec.ofChange fnExactValidStarWrong)

/-- 'laws.FnExactValidStars': WHATEVER THE INPUT: true; the input reads as it did. -/
def fnExactValidStarsSpec : ChangeSpec := { name := "fnExactValidStars", fn := fun _ => fun
  | [d] => { results := [.lit (.bool true)], args := [d] }
  | _ => none }
def fnExactValidStarsRow : OpenClaim := { program := "ytfjhlapcopjfiaa", sum := "6e1b3da10188587e88172b5ac6be6ac3210398e62003ca4e0a8eba430e270b89", func := "loop.example/g00955/laws.FnExactValidStars", spec := "fnExactValidStars", unfollowed := true, recurses := true, apart := false }
def FnExactValidStarsSaid : Prop := fnExactValidStarsRow.holds Try.pinned (OpenSpec.ofChange fnExactValidStarsSpec)

/-- ITS FALSE NEIGHBOUR: 'it returns false'. Refute it at one input. -/
def fnExactValidStarsWrong : ChangeSpec := { name := "fnExactValidStars", fn := fun _ => fun
  | [d] => { results := [.lit (.bool false)], args := [d] }
  | _ => none }
def FnExactValidStarsWrongFalsely : Prop := fnExactValidStarsRow.holds Try.pinned (OpenSpec.ofChange fnExactValidStarsWrong)

/-- 'laws.FnExactDropStar': WHATEVER THE INPUT: true; the input reads as it did. -/
def fnExactDropStarSpec : ChangeSpec := { name := "fnExactDropStar", fn := fun _ => fun
  | [d1, d2] => { results := [.lit (.bool true)], args := [d1, d2] }
  | _ => none }
def fnExactDropStarRow : OpenClaim := { program := "ytfjhlapcopjfiaa", sum := "6e1b3da10188587e88172b5ac6be6ac3210398e62003ca4e0a8eba430e270b89", func := "loop.example/g00955/laws.FnExactDropStar", spec := "fnExactDropStar", unfollowed := true, recurses := true, apart := false }
def FnExactDropStarSaid : Prop := fnExactDropStarRow.holds Try.pinned (OpenSpec.ofChange fnExactDropStarSpec)

/-- ITS FALSE NEIGHBOUR: 'it returns false'. Refute it at one input. -/
def fnExactDropStarWrong : ChangeSpec := { name := "fnExactDropStar", fn := fun _ => fun
  | [d1, d2] => { results := [.lit (.bool false)], args := [d1, d2] }
  | _ => none }
def FnExactDropStarWrongFalsely : Prop := fnExactDropStarRow.holds Try.pinned (OpenSpec.ofChange fnExactDropStarWrong)

/-- 'laws.FnExactTurnTowards': WHATEVER THE INPUT: true; the input reads as it did. -/
def fnExactTurnTowardsSpec : ChangeSpec := { name := "fnExactTurnTowards", fn := fun _ => fun
  | [d1, d2, d3] => { results := [.lit (.bool true)], args := [d1, d2, d3] }
  | _ => none }
def fnExactTurnTowardsRow : OpenClaim := { program := "ytfjhlapcopjfiaa", sum := "6e1b3da10188587e88172b5ac6be6ac3210398e62003ca4e0a8eba430e270b89", func := "loop.example/g00955/laws.FnExactTurnTowards", spec := "fnExactTurnTowards", apart := false }
def FnExactTurnTowardsSaid : Prop := fnExactTurnTowardsRow.holds Try.pinned (OpenSpec.ofChange fnExactTurnTowardsSpec)

/-- ITS FALSE NEIGHBOUR: 'it returns false'. Refute it at one input. -/
def fnExactTurnTowardsWrong : ChangeSpec := { name := "fnExactTurnTowards", fn := fun _ => fun
  | [d1, d2, d3] => { results := [.lit (.bool false)], args := [d1, d2, d3] }
  | _ => none }
def FnExactTurnTowardsWrongFalsely : Prop := fnExactTurnTowardsRow.holds Try.pinned (OpenSpec.ofChange fnExactTurnTowardsWrong)

/-- 'laws.FnExactCulminationAltitude': WHATEVER THE INPUT: true; the input reads as it did. -/
def fnExactCulminationAltitudeSpec : ChangeSpec := { name := "fnExactCulminationAltitude", fn := fun _ => fun
  | [d1, d2] => { results := [.lit (.bool true)], args := [d1, d2] }
  | _ => none }
def fnExactCulminationAltitudeRow : OpenClaim := { program := "ytfjhlapcopjfiaa", sum := "6e1b3da10188587e88172b5ac6be6ac3210398e62003ca4e0a8eba430e270b89", func := "loop.example/g00955/laws.FnExactCulminationAltitude", spec := "fnExactCulminationAltitude", apart := false }
def FnExactCulminationAltitudeSaid : Prop := fnExactCulminationAltitudeRow.holds Try.pinned (OpenSpec.ofChange fnExactCulminationAltitudeSpec)

/-- ITS FALSE NEIGHBOUR: 'it returns false'. Refute it at one input. -/
def fnExactCulminationAltitudeWrong : ChangeSpec := { name := "fnExactCulminationAltitude", fn := fun _ => fun
  | [d1, d2] => { results := [.lit (.bool false)], args := [d1, d2] }
  | _ => none }
def FnExactCulminationAltitudeWrongFalsely : Prop := fnExactCulminationAltitudeRow.holds Try.pinned (OpenSpec.ofChange fnExactCulminationAltitudeWrong)

/-- 'laws.FnExactLowestAltitude': WHATEVER THE INPUT: true; the input reads as it did. -/
def fnExactLowestAltitudeSpec : ChangeSpec := { name := "fnExactLowestAltitude", fn := fun _ => fun
  | [d1, d2] => { results := [.lit (.bool true)], args := [d1, d2] }
  | _ => none }
def fnExactLowestAltitudeRow : OpenClaim := { program := "ytfjhlapcopjfiaa", sum := "6e1b3da10188587e88172b5ac6be6ac3210398e62003ca4e0a8eba430e270b89", func := "loop.example/g00955/laws.FnExactLowestAltitude", spec := "fnExactLowestAltitude", apart := false }
def FnExactLowestAltitudeSaid : Prop := fnExactLowestAltitudeRow.holds Try.pinned (OpenSpec.ofChange fnExactLowestAltitudeSpec)

/-- ITS FALSE NEIGHBOUR: 'it returns false'. Refute it at one input. -/
def fnExactLowestAltitudeWrong : ChangeSpec := { name := "fnExactLowestAltitude", fn := fun _ => fun
  | [d1, d2] => { results := [.lit (.bool false)], args := [d1, d2] }
  | _ => none }
def FnExactLowestAltitudeWrongFalsely : Prop := fnExactLowestAltitudeRow.holds Try.pinned (OpenSpec.ofChange fnExactLowestAltitudeWrong)

/-- 'laws.FnExactValidFigure': WHATEVER THE INPUT: true; the input reads as it did. -/
def fnExactValidFigureSpec : ChangeSpec := { name := "fnExactValidFigure", fn := fun _ => fun
  | [d1, d2] => { results := [.lit (.bool true)], args := [d1, d2] }
  | _ => none }
def fnExactValidFigureRow : OpenClaim := { program := "ytfjhlapcopjfiaa", sum := "6e1b3da10188587e88172b5ac6be6ac3210398e62003ca4e0a8eba430e270b89", func := "loop.example/g00955/laws.FnExactValidFigure", spec := "fnExactValidFigure", unfollowed := true, recurses := true, apart := false }
def FnExactValidFigureSaid : Prop := fnExactValidFigureRow.holds Try.pinned (OpenSpec.ofChange fnExactValidFigureSpec)

/-- ITS FALSE NEIGHBOUR: 'it returns false'. Refute it at one input. -/
def fnExactValidFigureWrong : ChangeSpec := { name := "fnExactValidFigure", fn := fun _ => fun
  | [d1, d2] => { results := [.lit (.bool false)], args := [d1, d2] }
  | _ => none }
def FnExactValidFigureWrongFalsely : Prop := fnExactValidFigureRow.holds Try.pinned (OpenSpec.ofChange fnExactValidFigureWrong)

/-- 'laws.FnExactFigureStars': WHATEVER THE INPUT: true; the input reads as it did. -/
def fnExactFigureStarsSpec : ChangeSpec := { name := "fnExactFigureStars", fn := fun _ => fun
  | [d1, d2] => { results := [.lit (.bool true)], args := [d1, d2] }
  | _ => none }
def fnExactFigureStarsRow : OpenClaim := { program := "ytfjhlapcopjfiaa", sum := "6e1b3da10188587e88172b5ac6be6ac3210398e62003ca4e0a8eba430e270b89", func := "loop.example/g00955/laws.FnExactFigureStars", spec := "fnExactFigureStars", unfollowed := true, recurses := true, apart := false }
def FnExactFigureStarsSaid : Prop := fnExactFigureStarsRow.holds Try.pinned (OpenSpec.ofChange fnExactFigureStarsSpec)

/-- ITS FALSE NEIGHBOUR: 'it returns false'. Refute it at one input. -/
def fnExactFigureStarsWrong : ChangeSpec := { name := "fnExactFigureStars", fn := fun _ => fun
  | [d1, d2] => { results := [.lit (.bool false)], args := [d1, d2] }
  | _ => none }
def FnExactFigureStarsWrongFalsely : Prop := fnExactFigureStarsRow.holds Try.pinned (OpenSpec.ofChange fnExactFigureStarsWrong)

/-- 'laws.FnExactFigureParts': WHATEVER THE INPUT: true; the input reads as it did. -/
def fnExactFigurePartsSpec : ChangeSpec := { name := "fnExactFigureParts", fn := fun _ => fun
  | [d1, d2] => { results := [.lit (.bool true)], args := [d1, d2] }
  | _ => none }
def fnExactFigurePartsRow : OpenClaim := { program := "ytfjhlapcopjfiaa", sum := "6e1b3da10188587e88172b5ac6be6ac3210398e62003ca4e0a8eba430e270b89", func := "loop.example/g00955/laws.FnExactFigureParts", spec := "fnExactFigureParts", unfollowed := true, recurses := true, apart := false }
def FnExactFigurePartsSaid : Prop := fnExactFigurePartsRow.holds Try.pinned (OpenSpec.ofChange fnExactFigurePartsSpec)

/-- ITS FALSE NEIGHBOUR: 'it returns false'. Refute it at one input. -/
def fnExactFigurePartsWrong : ChangeSpec := { name := "fnExactFigureParts", fn := fun _ => fun
  | [d1, d2] => { results := [.lit (.bool false)], args := [d1, d2] }
  | _ => none }
def FnExactFigurePartsWrongFalsely : Prop := fnExactFigurePartsRow.holds Try.pinned (OpenSpec.ofChange fnExactFigurePartsWrong)

/-- 'laws.FnExactBlendVectors': WHATEVER THE INPUT: true; the input reads as it did. -/
def fnExactBlendVectorsSpec : ChangeSpec := { name := "fnExactBlendVectors", fn := fun _ => fun
  | [d1, d2, d3] => { results := [.lit (.bool true)], args := [d1, d2, d3] }
  | _ => none }
def fnExactBlendVectorsRow : OpenClaim := { program := "ytfjhlapcopjfiaa", sum := "6e1b3da10188587e88172b5ac6be6ac3210398e62003ca4e0a8eba430e270b89", func := "loop.example/g00955/laws.FnExactBlendVectors", spec := "fnExactBlendVectors", apart := false }
def FnExactBlendVectorsSaid : Prop := fnExactBlendVectorsRow.holds Try.pinned (OpenSpec.ofChange fnExactBlendVectorsSpec)

/-- ITS FALSE NEIGHBOUR: 'it returns false'. Refute it at one input. -/
def fnExactBlendVectorsWrong : ChangeSpec := { name := "fnExactBlendVectors", fn := fun _ => fun
  | [d1, d2, d3] => { results := [.lit (.bool false)], args := [d1, d2, d3] }
  | _ => none }
def FnExactBlendVectorsWrongFalsely : Prop := fnExactBlendVectorsRow.holds Try.pinned (OpenSpec.ofChange fnExactBlendVectorsWrong)

/-- 'laws.FnExactAddStar': WHATEVER THE INPUT: true; the input reads as it did. -/
def fnExactAddStarSpec : ChangeSpec := { name := "fnExactAddStar", fn := fun _ => fun
  | [d1, d2] => { results := [.lit (.bool true)], args := [d1, d2] }
  | _ => none }
def fnExactAddStarRow : OpenClaim := { program := "ytfjhlapcopjfiaa", sum := "6e1b3da10188587e88172b5ac6be6ac3210398e62003ca4e0a8eba430e270b89", func := "loop.example/g00955/laws.FnExactAddStar", spec := "fnExactAddStar", unfollowed := true, recurses := true, apart := false }
def FnExactAddStarSaid : Prop := fnExactAddStarRow.holds Try.pinned (OpenSpec.ofChange fnExactAddStarSpec)

/-- ITS FALSE NEIGHBOUR: 'it returns false'. Refute it at one input. -/
def fnExactAddStarWrong : ChangeSpec := { name := "fnExactAddStar", fn := fun _ => fun
  | [d1, d2] => { results := [.lit (.bool false)], args := [d1, d2] }
  | _ => none }
def FnExactAddStarWrongFalsely : Prop := fnExactAddStarRow.holds Try.pinned (OpenSpec.ofChange fnExactAddStarWrong)

/- THE SECOND FORM. 'bulk': how many values and letters a reading holds, each counted each time it is reached (what is shared counts as often as it is met; a slice's spare places count too). A statement '..UptoSaid' is the law's where the arguments, and the package variables that the reading takes, are together of bulk at most 1048576: NARROWER than '..Said'. Prove '..Said' where nothing that the law and all that it calls make is longer than what came in: it says more and counts as full. Else prove '..UptoSaid'. A law counts once. -/
mutual
def uptoBulk {H : Type} : DataW H → Nat
  | .lit (.string bytes) => bytes.length + 1
  | .lit _ => 1
  | .nil => 1
  | .ptr d => uptoBulk d + 1
  | .slice elems spare => uptoBulkAll elems + uptoBulkAll spare + 1
  | .agg parts => uptoBulkAll parts + 1
  | .iface _ d => uptoBulk d + 1
  | .map entries => uptoBulkEntries entries + 1
  | .held _ => 1
def uptoBulkAll {H : Type} : List (DataW H) → Nat
  | [] => 0
  | d :: r => uptoBulk d + uptoBulkAll r
def uptoBulkEntries {H : Type} : List (Lit × DataW H) → Nat
  | [] => 0
  | x :: r => uptoBulkEntry x + uptoBulkEntries r
def uptoBulkEntry {H : Type} : Lit × DataW H → Nat
  | (.string bytes, d) => bytes.length + uptoBulk d + 1
  | (_, d) => uptoBulk d + 1
 end
def uptoSmall : (H : Type) → List (DataW H) → Bool := fun _ ds => decide (uptoBulkAll ds ≤ 1048576)
def OpenSpec.upto (s : _root_.Go.ChangeSpec) : _root_.Go.OpenSpec := { _root_.Go.OpenSpec.ofChange s with cond := some uptoSmall }

/-- 'laws.FnExactValidStar', WHERE WHAT IT READS IS OF BULK AT MOST 1048576: true; the input reads as it did. -/
def fnExactValidStarUptoRow : OpenClaim := { program := "ytfjhlapcopjfiaa", sum := "6e1b3da10188587e88172b5ac6be6ac3210398e62003ca4e0a8eba430e270b89", func := "loop.example/g00955/laws.FnExactValidStar", spec := "fnExactValidStar", apart := false, narrowed := true }
def FnExactValidStarUptoSaid : Prop := fnExactValidStarUptoRow.holds Try.pinned (OpenSpec.upto fnExactValidStarSpec)

/-- 'laws.FnExactValidStars', WHERE WHAT IT READS IS OF BULK AT MOST 1048576: true; the input reads as it did. -/
def fnExactValidStarsUptoRow : OpenClaim := { program := "ytfjhlapcopjfiaa", sum := "6e1b3da10188587e88172b5ac6be6ac3210398e62003ca4e0a8eba430e270b89", func := "loop.example/g00955/laws.FnExactValidStars", spec := "fnExactValidStars", unfollowed := true, recurses := true, apart := false, narrowed := true }
def FnExactValidStarsUptoSaid : Prop := fnExactValidStarsUptoRow.holds Try.pinned (OpenSpec.upto fnExactValidStarsSpec)

/-- 'laws.FnExactDropStar', WHERE WHAT IT READS IS OF BULK AT MOST 1048576: true; the input reads as it did. -/
def fnExactDropStarUptoRow : OpenClaim := { program := "ytfjhlapcopjfiaa", sum := "6e1b3da10188587e88172b5ac6be6ac3210398e62003ca4e0a8eba430e270b89", func := "loop.example/g00955/laws.FnExactDropStar", spec := "fnExactDropStar", unfollowed := true, recurses := true, apart := false, narrowed := true }
def FnExactDropStarUptoSaid : Prop := fnExactDropStarUptoRow.holds Try.pinned (OpenSpec.upto fnExactDropStarSpec)

/-- 'laws.FnExactTurnTowards', WHERE WHAT IT READS IS OF BULK AT MOST 1048576: true; the input reads as it did. -/
def fnExactTurnTowardsUptoRow : OpenClaim := { program := "ytfjhlapcopjfiaa", sum := "6e1b3da10188587e88172b5ac6be6ac3210398e62003ca4e0a8eba430e270b89", func := "loop.example/g00955/laws.FnExactTurnTowards", spec := "fnExactTurnTowards", apart := false, narrowed := true }
def FnExactTurnTowardsUptoSaid : Prop := fnExactTurnTowardsUptoRow.holds Try.pinned (OpenSpec.upto fnExactTurnTowardsSpec)

/-- 'laws.FnExactCulminationAltitude', WHERE WHAT IT READS IS OF BULK AT MOST 1048576: true; the input reads as it did. -/
def fnExactCulminationAltitudeUptoRow : OpenClaim := { program := "ytfjhlapcopjfiaa", sum := "6e1b3da10188587e88172b5ac6be6ac3210398e62003ca4e0a8eba430e270b89", func := "loop.example/g00955/laws.FnExactCulminationAltitude", spec := "fnExactCulminationAltitude", apart := false, narrowed := true }
def FnExactCulminationAltitudeUptoSaid : Prop := fnExactCulminationAltitudeUptoRow.holds Try.pinned (OpenSpec.upto fnExactCulminationAltitudeSpec)

/-- 'laws.FnExactLowestAltitude', WHERE WHAT IT READS IS OF BULK AT MOST 1048576: true; the input reads as it did. -/
def fnExactLowestAltitudeUptoRow : OpenClaim := { program := "ytfjhlapcopjfiaa", sum := "6e1b3da10188587e88172b5ac6be6ac3210398e62003ca4e0a8eba430e270b89", func := "loop.example/g00955/laws.FnExactLowestAltitude", spec := "fnExactLowestAltitude", apart := false, narrowed := true }
def FnExactLowestAltitudeUptoSaid : Prop := fnExactLowestAltitudeUptoRow.holds Try.pinned (OpenSpec.upto fnExactLowestAltitudeSpec)

/-- 'laws.FnExactValidFigure', WHERE WHAT IT READS IS OF BULK AT MOST 1048576: true; the input reads as it did. -/
def fnExactValidFigureUptoRow : OpenClaim := { program := "ytfjhlapcopjfiaa", sum := "6e1b3da10188587e88172b5ac6be6ac3210398e62003ca4e0a8eba430e270b89", func := "loop.example/g00955/laws.FnExactValidFigure", spec := "fnExactValidFigure", unfollowed := true, recurses := true, apart := false, narrowed := true }
def FnExactValidFigureUptoSaid : Prop := fnExactValidFigureUptoRow.holds Try.pinned (OpenSpec.upto fnExactValidFigureSpec)

/-- 'laws.FnExactFigureStars', WHERE WHAT IT READS IS OF BULK AT MOST 1048576: true; the input reads as it did. -/
def fnExactFigureStarsUptoRow : OpenClaim := { program := "ytfjhlapcopjfiaa", sum := "6e1b3da10188587e88172b5ac6be6ac3210398e62003ca4e0a8eba430e270b89", func := "loop.example/g00955/laws.FnExactFigureStars", spec := "fnExactFigureStars", unfollowed := true, recurses := true, apart := false, narrowed := true }
def FnExactFigureStarsUptoSaid : Prop := fnExactFigureStarsUptoRow.holds Try.pinned (OpenSpec.upto fnExactFigureStarsSpec)

/-- 'laws.FnExactFigureParts', WHERE WHAT IT READS IS OF BULK AT MOST 1048576: true; the input reads as it did. -/
def fnExactFigurePartsUptoRow : OpenClaim := { program := "ytfjhlapcopjfiaa", sum := "6e1b3da10188587e88172b5ac6be6ac3210398e62003ca4e0a8eba430e270b89", func := "loop.example/g00955/laws.FnExactFigureParts", spec := "fnExactFigureParts", unfollowed := true, recurses := true, apart := false, narrowed := true }
def FnExactFigurePartsUptoSaid : Prop := fnExactFigurePartsUptoRow.holds Try.pinned (OpenSpec.upto fnExactFigurePartsSpec)

/-- 'laws.FnExactBlendVectors', WHERE WHAT IT READS IS OF BULK AT MOST 1048576: true; the input reads as it did. -/
def fnExactBlendVectorsUptoRow : OpenClaim := { program := "ytfjhlapcopjfiaa", sum := "6e1b3da10188587e88172b5ac6be6ac3210398e62003ca4e0a8eba430e270b89", func := "loop.example/g00955/laws.FnExactBlendVectors", spec := "fnExactBlendVectors", apart := false, narrowed := true }
def FnExactBlendVectorsUptoSaid : Prop := fnExactBlendVectorsUptoRow.holds Try.pinned (OpenSpec.upto fnExactBlendVectorsSpec)

/-- 'laws.FnExactAddStar', WHERE WHAT IT READS IS OF BULK AT MOST 1048576: true; the input reads as it did. -/
def fnExactAddStarUptoRow : OpenClaim := { program := "ytfjhlapcopjfiaa", sum := "6e1b3da10188587e88172b5ac6be6ac3210398e62003ca4e0a8eba430e270b89", func := "loop.example/g00955/laws.FnExactAddStar", spec := "fnExactAddStar", unfollowed := true, recurses := true, apart := false, narrowed := true }
def FnExactAddStarUptoSaid : Prop := fnExactAddStarUptoRow.holds Try.pinned (OpenSpec.upto fnExactAddStarSpec)

end Rows
end Go.Proofs.Ytfjhlapcopjfiaa
