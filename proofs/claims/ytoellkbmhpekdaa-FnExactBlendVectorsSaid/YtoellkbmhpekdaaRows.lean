/-
  No cell of these rows narrows 'for every input' (looked for: loops, veiled, ifaces, maps, wideKeys, modest, calm, conditions, laid).
  DERIVED. THE GIVEN ROWS OF THIS SEAT. 4 by the template 'for every input the law returns true; each argument reads behind the call as it read before'; 0 by the template 'total and deterministic' (their statements: YtoellkbmhpekdaaTotals.lean).
  GIVEN WITH THE SEED: the statements are not yours to turn. If you find one false, say at which input.
  Laid BY PROGRAM, IN A SANDBOX (cutbox-rows.mjs): the forced cells as the released guide's own fill.sh prints them over the translation 2926fc93a6df8652… (all of the seat's roots in one cut). By AI agents, Wed Nov 11 2026. No macro, syntax, notation, axiom, sorry.
-/
import Derived.Test.YtoellkbmhpekdaaChecked
import GoSem.Claim
import GoSem.ClaimJoined
import GoSem.ClaimMapViews
import Derived.JoinedTies
import Derived.KernelRfl
namespace Go.Proofs.Ytoellkbmhpekdaa
/- THE CELL 'sum', in the pinned program and in every row, IS THE sha256 OF THE DUMP (.gsa) THAT YtoellkbmhpekdaaProg.lean LOADS. Nothing in Lean hashes anything: it is a label: what it is worth is what the hold of that sum in a sandbox is worth. -/
noncomputable def Try.pinned : Pinned := { name := "ytoellkbmhpekdaa", sum := "2926fc93a6df865296d829c957779b2fb47b03e275df5fd7a153d8aa02daf285", checked := Try.checked }
namespace Rows
def none {H : Type} : Left H := { results := [], args := [] }

/-- 'laws.FnExactValidStar': WHATEVER THE INPUT: true; the input reads as it did. -/
def fnExactValidStarSpec : ChangeSpec := { name := "fnExactValidStar", fn := fun _ => fun
  | [d] => { results := [.lit (.bool true)], args := [d] }
  | _ => none }
def fnExactValidStarRow : OpenClaim := { program := "ytoellkbmhpekdaa", sum := "2926fc93a6df865296d829c957779b2fb47b03e275df5fd7a153d8aa02daf285", func := "loop.example/g00955/laws.FnExactValidStar", spec := "fnExactValidStar", apart := false }
def FnExactValidStarSaid : Prop := fnExactValidStarRow.holds Try.pinned (OpenSpec.ofChange fnExactValidStarSpec)

/-- ITS FALSE NEIGHBOUR: 'it returns false'. Refute it at one input. -/
def fnExactValidStarWrong : ChangeSpec := { name := "fnExactValidStar", fn := fun _ => fun
  | [d] => { results := [.lit (.bool false)], args := [d] }
  | _ => none }
def FnExactValidStarWrongFalsely : Prop := fnExactValidStarRow.holds Try.pinned (OpenSpec.ofChange fnExactValidStarWrong)

/-- 'laws.FnExactValidStars': WHATEVER THE INPUT: true; the input reads as it did. -/
def fnExactValidStarsSpec : ChangeSpec := { name := "fnExactValidStars", fn := fun _ => fun
  | [d] => { results := [.lit (.bool true)], args := [d] }
  | _ => none }
def fnExactValidStarsRow : OpenClaim := { program := "ytoellkbmhpekdaa", sum := "2926fc93a6df865296d829c957779b2fb47b03e275df5fd7a153d8aa02daf285", func := "loop.example/g00955/laws.FnExactValidStars", spec := "fnExactValidStars", unfollowed := true, recurses := true, apart := false }
def FnExactValidStarsSaid : Prop := fnExactValidStarsRow.holds Try.pinned (OpenSpec.ofChange fnExactValidStarsSpec)

/-- ITS FALSE NEIGHBOUR: 'it returns false'. Refute it at one input. -/
def fnExactValidStarsWrong : ChangeSpec := { name := "fnExactValidStars", fn := fun _ => fun
  | [d] => { results := [.lit (.bool false)], args := [d] }
  | _ => none }
def FnExactValidStarsWrongFalsely : Prop := fnExactValidStarsRow.holds Try.pinned (OpenSpec.ofChange fnExactValidStarsWrong)

/-- 'laws.FnExactValidFigure': WHATEVER THE INPUT: true; the input reads as it did. -/
def fnExactValidFigureSpec : ChangeSpec := { name := "fnExactValidFigure", fn := fun _ => fun
  | [d1, d2] => { results := [.lit (.bool true)], args := [d1, d2] }
  | _ => none }
def fnExactValidFigureRow : OpenClaim := { program := "ytoellkbmhpekdaa", sum := "2926fc93a6df865296d829c957779b2fb47b03e275df5fd7a153d8aa02daf285", func := "loop.example/g00955/laws.FnExactValidFigure", spec := "fnExactValidFigure", unfollowed := true, recurses := true, apart := false }
def FnExactValidFigureSaid : Prop := fnExactValidFigureRow.holds Try.pinned (OpenSpec.ofChange fnExactValidFigureSpec)

/-- ITS FALSE NEIGHBOUR: 'it returns false'. Refute it at one input. -/
def fnExactValidFigureWrong : ChangeSpec := { name := "fnExactValidFigure", fn := fun _ => fun
  | [d1, d2] => { results := [.lit (.bool false)], args := [d1, d2] }
  | _ => none }
def FnExactValidFigureWrongFalsely : Prop := fnExactValidFigureRow.holds Try.pinned (OpenSpec.ofChange fnExactValidFigureWrong)

/-- 'laws.FnExactBlendVectors': WHATEVER THE INPUT: true; the input reads as it did. -/
def fnExactBlendVectorsSpec : ChangeSpec := { name := "fnExactBlendVectors", fn := fun _ => fun
  | [d1, d2, d3] => { results := [.lit (.bool true)], args := [d1, d2, d3] }
  | _ => none }
def fnExactBlendVectorsRow : OpenClaim := { program := "ytoellkbmhpekdaa", sum := "2926fc93a6df865296d829c957779b2fb47b03e275df5fd7a153d8aa02daf285", func := "loop.example/g00955/laws.FnExactBlendVectors", spec := "fnExactBlendVectors", apart := false }
def FnExactBlendVectorsSaid : Prop := fnExactBlendVectorsRow.holds Try.pinned (OpenSpec.ofChange fnExactBlendVectorsSpec)

/-- ITS FALSE NEIGHBOUR: 'it returns false'. Refute it at one input. -/
def fnExactBlendVectorsWrong : ChangeSpec := { name := "fnExactBlendVectors", fn := fun _ => fun
  | [d1, d2, d3] => { results := [.lit (.bool false)], args := [d1, d2, d3] }
  | _ => none }
def FnExactBlendVectorsWrongFalsely : Prop := fnExactBlendVectorsRow.holds Try.pinned (OpenSpec.ofChange fnExactBlendVectorsWrong)

/- THE SECOND FORM. 'bulk': how many values and letters a reading holds, each counted each time it is reached (what is shared counts as often as it is met; a slice's spare places count too). A statement '..UptoSaid' is the law's where the arguments, and the package variables that the reading takes, are together of bulk at most 1048576: NARROWER than '..Said'. Prove '..Said' where nothing that the law and all that it calls make is longer than what came in: it says more and counts as full. Else prove '..UptoSaid'. A law counts once. -/
mutual
def uptoBulk {H : Type} : DataW H → Nat
  | .lit (.string bytes) => bytes.length + 1
  | .lit _ => 1
  | .nil => 1
  | .ptr d => uptoBulk d + 1
  | .slice elems spare => uptoBulkAll elems + uptoBulkAll spare + 1
  | .agg parts => uptoBulkAll parts + 1
  | .iface _ d => uptoBulk d + 1
  | .map entries => uptoBulkEntries entries + 1
  | .held _ => 1
def uptoBulkAll {H : Type} : List (DataW H) → Nat
  | [] => 0
  | d :: r => uptoBulk d + uptoBulkAll r
def uptoBulkEntries {H : Type} : List (Lit × DataW H) → Nat
  | [] => 0
  | x :: r => uptoBulkEntry x + uptoBulkEntries r
def uptoBulkEntry {H : Type} : Lit × DataW H → Nat
  | (.string bytes, d) => bytes.length + uptoBulk d + 1
  | (_, d) => uptoBulk d + 1
 end
def uptoSmall : (H : Type) → List (DataW H) → Bool := fun _ ds => decide (uptoBulkAll ds ≤ 1048576)
def OpenSpec.upto (s : _root_.Go.ChangeSpec) : _root_.Go.OpenSpec := { _root_.Go.OpenSpec.ofChange s with cond := some uptoSmall }

/-- 'laws.FnExactValidStar', WHERE WHAT IT READS IS OF BULK AT MOST 1048576: true; the input reads as it did. -/
def fnExactValidStarUptoRow : OpenClaim := { program := "ytoellkbmhpekdaa", sum := "2926fc93a6df865296d829c957779b2fb47b03e275df5fd7a153d8aa02daf285", func := "loop.example/g00955/laws.FnExactValidStar", spec := "fnExactValidStar", apart := false, narrowed := true }
def FnExactValidStarUptoSaid : Prop := fnExactValidStarUptoRow.holds Try.pinned (OpenSpec.upto fnExactValidStarSpec)

/-- 'laws.FnExactValidStars', WHERE WHAT IT READS IS OF BULK AT MOST 1048576: true; the input reads as it did. -/
def fnExactValidStarsUptoRow : OpenClaim := { program := "ytoellkbmhpekdaa", sum := "2926fc93a6df865296d829c957779b2fb47b03e275df5fd7a153d8aa02daf285", func := "loop.example/g00955/laws.FnExactValidStars", spec := "fnExactValidStars", unfollowed := true, recurses := true, apart := false, narrowed := true }
def FnExactValidStarsUptoSaid : Prop := fnExactValidStarsUptoRow.holds Try.pinned (OpenSpec.upto fnExactValidStarsSpec)

/-- 'laws.FnExactValidFigure', WHERE WHAT IT READS IS OF BULK AT MOST 1048576: true; the input reads as it did. -/
def fnExactValidFigureUptoRow : OpenClaim := { program := "ytoellkbmhpekdaa", sum := "2926fc93a6df865296d829c957779b2fb47b03e275df5fd7a153d8aa02daf285", func := "loop.example/g00955/laws.FnExactValidFigure", spec := "fnExactValidFigure", unfollowed := true, recurses := true, apart := false, narrowed := true }
def FnExactValidFigureUptoSaid : Prop := fnExactValidFigureUptoRow.holds Try.pinned (OpenSpec.upto fnExactValidFigureSpec)

/-- 'laws.FnExactBlendVectors', WHERE WHAT IT READS IS OF BULK AT MOST 1048576: true; the input reads as it did. -/
def fnExactBlendVectorsUptoRow : OpenClaim := { program := "ytoellkbmhpekdaa", sum := "2926fc93a6df865296d829c957779b2fb47b03e275df5fd7a153d8aa02daf285", func := "loop.example/g00955/laws.FnExactBlendVectors", spec := "fnExactBlendVectors", apart := false, narrowed := true }
def FnExactBlendVectorsUptoSaid : Prop := fnExactBlendVectorsUptoRow.holds Try.pinned (OpenSpec.upto fnExactBlendVectorsSpec)

end Rows
end Go.Proofs.Ytoellkbmhpekdaa
