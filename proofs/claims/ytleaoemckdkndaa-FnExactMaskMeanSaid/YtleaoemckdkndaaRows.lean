/-
  No cell of these rows narrows 'for every input' (looked for: loops, veiled, ifaces, maps, wideKeys, modest, calm, conditions, laid).
  DERIVED. THE GIVEN ROWS OF THIS SEAT. 12 by the template 'for every input the law returns true; each argument reads behind the call as it read before'; 0 by the template 'total and deterministic' (their statements: YtleaoemckdkndaaTotals.lean).
  GIVEN WITH THE SEED: the statements are not yours to turn. If you find one false, say at which input.
  Laid BY PROGRAM, IN A SANDBOX (cutbox-rows.mjs): the forced cells as the released guide's own fill.sh prints them over the translation 3327258dc5152cf1… (all of the seat's roots in one cut). By AI agents, Wed Nov 11 2026. No macro, syntax, notation, axiom, sorry.
-/
import Derived.Test.YtleaoemckdkndaaChecked
import GoSem.Claim
import GoSem.ClaimJoined
import GoSem.ClaimMapViews
import Derived.JoinedTies
import Derived.KernelRfl
namespace Go.Proofs.Ytleaoemckdkndaa
/- THE CELL 'sum', in the pinned program and in every row, IS THE sha256 OF THE DUMP (.gsa) THAT YtleaoemckdkndaaProg.lean LOADS. Nothing in Lean hashes anything: it is a label: what it is worth is what the hold of that sum in a sandbox is worth. -/
noncomputable def Try.pinned : Pinned := { name := "ytleaoemckdkndaa", sum := "3327258dc5152cf18a50d686e21f8c55841ff4b25def8d0e5ae04c9f979c422d", checked := Try.checked }
namespace Rows
def none {H : Type} : Left H := { results := [], args := [] }

/-- 'laws.FnExactSameMesh': WHATEVER THE INPUT: true; the input reads as it did. -/
def fnExactSameMeshSpec : ChangeSpec := { name := "fnExactSameMesh", fn := fun _ => fun
  | [d1, d2] => { results := [.lit (.bool true)], args := [d1, d2] }
  | _ => none }
def fnExactSameMeshRow : OpenClaim := { program := "ytleaoemckdkndaa", sum := "3327258dc5152cf18a50d686e21f8c55841ff4b25def8d0e5ae04c9f979c422d", func := "loop.example/g00955/laws.FnExactSameMesh", spec := "fnExactSameMesh", apart := false }
def FnExactSameMeshSaid : Prop := fnExactSameMeshRow.holds Try.pinned (OpenSpec.ofChange fnExactSameMeshSpec)

/-- ITS FALSE NEIGHBOUR: 'it returns false'. Refute it at one input. -/
def fnExactSameMeshWrong : ChangeSpec := { name := "fnExactSameMesh", fn := fun _ => fun
  | [d1, d2] => { results := [.lit (.bool false)], args := [d1, d2] }
  | _ => none }
def FnExactSameMeshWrongFalsely : Prop := fnExactSameMeshRow.holds Try.pinned (OpenSpec.ofChange fnExactSameMeshWrong)

/-- 'laws.FnExactGreatestMove': WHATEVER THE INPUT: true; the input reads as it did. -/
def fnExactGreatestMoveSpec : ChangeSpec := { name := "fnExactGreatestMove", fn := fun _ => fun
  | [d1, d2] => { results := [.lit (.bool true)], args := [d1, d2] }
  | _ => none }
def fnExactGreatestMoveRow : OpenClaim := { program := "ytleaoemckdkndaa", sum := "3327258dc5152cf18a50d686e21f8c55841ff4b25def8d0e5ae04c9f979c422d", func := "loop.example/g00955/laws.FnExactGreatestMove", spec := "fnExactGreatestMove", unfollowed := true, recurses := true, apart := false }
def FnExactGreatestMoveSaid : Prop := fnExactGreatestMoveRow.holds Try.pinned (OpenSpec.ofChange fnExactGreatestMoveSpec)

/-- ITS FALSE NEIGHBOUR: 'it returns false'. Refute it at one input. -/
def fnExactGreatestMoveWrong : ChangeSpec := { name := "fnExactGreatestMove", fn := fun _ => fun
  | [d1, d2] => { results := [.lit (.bool false)], args := [d1, d2] }
  | _ => none }
def FnExactGreatestMoveWrongFalsely : Prop := fnExactGreatestMoveRow.holds Try.pinned (OpenSpec.ofChange fnExactGreatestMoveWrong)

/-- 'laws.FnExactBlendMeshes': WHATEVER THE INPUT: true; the input reads as it did. -/
def fnExactBlendMeshesSpec : ChangeSpec := { name := "fnExactBlendMeshes", fn := fun _ => fun
  | [d1, d2, d3] => { results := [.lit (.bool true)], args := [d1, d2, d3] }
  | _ => none }
def fnExactBlendMeshesRow : OpenClaim := { program := "ytleaoemckdkndaa", sum := "3327258dc5152cf18a50d686e21f8c55841ff4b25def8d0e5ae04c9f979c422d", func := "loop.example/g00955/laws.FnExactBlendMeshes", spec := "fnExactBlendMeshes", unfollowed := true, recurses := true, apart := false }
def FnExactBlendMeshesSaid : Prop := fnExactBlendMeshesRow.holds Try.pinned (OpenSpec.ofChange fnExactBlendMeshesSpec)

/-- ITS FALSE NEIGHBOUR: 'it returns false'. Refute it at one input. -/
def fnExactBlendMeshesWrong : ChangeSpec := { name := "fnExactBlendMeshes", fn := fun _ => fun
  | [d1, d2, d3] => { results := [.lit (.bool false)], args := [d1, d2, d3] }
  | _ => none }
def FnExactBlendMeshesWrongFalsely : Prop := fnExactBlendMeshesRow.holds Try.pinned (OpenSpec.ofChange fnExactBlendMeshesWrong)

/-- 'laws.FnExactValidCurve': WHATEVER THE INPUT: true; the input reads as it did. -/
def fnExactValidCurveSpec : ChangeSpec := { name := "fnExactValidCurve", fn := fun _ => fun
  | [d] => { results := [.lit (.bool true)], args := [d] }
  | _ => none }
def fnExactValidCurveRow : OpenClaim := { program := "ytleaoemckdkndaa", sum := "3327258dc5152cf18a50d686e21f8c55841ff4b25def8d0e5ae04c9f979c422d", func := "loop.example/g00955/laws.FnExactValidCurve", spec := "fnExactValidCurve", apart := false }
def FnExactValidCurveSaid : Prop := fnExactValidCurveRow.holds Try.pinned (OpenSpec.ofChange fnExactValidCurveSpec)

/-- ITS FALSE NEIGHBOUR: 'it returns false'. Refute it at one input. -/
def fnExactValidCurveWrong : ChangeSpec := { name := "fnExactValidCurve", fn := fun _ => fun
  | [d] => { results := [.lit (.bool false)], args := [d] }
  | _ => none }
def FnExactValidCurveWrongFalsely : Prop := fnExactValidCurveRow.holds Try.pinned (OpenSpec.ofChange fnExactValidCurveWrong)

/-- 'laws.FnExactCurveAt': WHATEVER THE INPUT: true; the input reads as it did. -/
def fnExactCurveAtSpec : ChangeSpec := { name := "fnExactCurveAt", fn := fun _ => fun
  | [d1, d2] => { results := [.lit (.bool true)], args := [d1, d2] }
  | _ => none }
def fnExactCurveAtRow : OpenClaim := { program := "ytleaoemckdkndaa", sum := "3327258dc5152cf18a50d686e21f8c55841ff4b25def8d0e5ae04c9f979c422d", func := "loop.example/g00955/laws.FnExactCurveAt", spec := "fnExactCurveAt", unfollowed := true, recurses := true, apart := false }
def FnExactCurveAtSaid : Prop := fnExactCurveAtRow.holds Try.pinned (OpenSpec.ofChange fnExactCurveAtSpec)

/-- ITS FALSE NEIGHBOUR: 'it returns false'. Refute it at one input. -/
def fnExactCurveAtWrong : ChangeSpec := { name := "fnExactCurveAt", fn := fun _ => fun
  | [d1, d2] => { results := [.lit (.bool false)], args := [d1, d2] }
  | _ => none }
def FnExactCurveAtWrongFalsely : Prop := fnExactCurveAtRow.holds Try.pinned (OpenSpec.ofChange fnExactCurveAtWrong)

/-- 'laws.FnExactCurveBack': WHATEVER THE INPUT: true; the input reads as it did. -/
def fnExactCurveBackSpec : ChangeSpec := { name := "fnExactCurveBack", fn := fun _ => fun
  | [d1, d2] => { results := [.lit (.bool true)], args := [d1, d2] }
  | _ => none }
def fnExactCurveBackRow : OpenClaim := { program := "ytleaoemckdkndaa", sum := "3327258dc5152cf18a50d686e21f8c55841ff4b25def8d0e5ae04c9f979c422d", func := "loop.example/g00955/laws.FnExactCurveBack", spec := "fnExactCurveBack", unfollowed := true, recurses := true, apart := false }
def FnExactCurveBackSaid : Prop := fnExactCurveBackRow.holds Try.pinned (OpenSpec.ofChange fnExactCurveBackSpec)

/-- ITS FALSE NEIGHBOUR: 'it returns false'. Refute it at one input. -/
def fnExactCurveBackWrong : ChangeSpec := { name := "fnExactCurveBack", fn := fun _ => fun
  | [d1, d2] => { results := [.lit (.bool false)], args := [d1, d2] }
  | _ => none }
def FnExactCurveBackWrongFalsely : Prop := fnExactCurveBackRow.holds Try.pinned (OpenSpec.ofChange fnExactCurveBackWrong)

/-- 'laws.FnExactComposeCurves': WHATEVER THE INPUT: true; the input reads as it did. -/
def fnExactComposeCurvesSpec : ChangeSpec := { name := "fnExactComposeCurves", fn := fun _ => fun
  | [d1, d2] => { results := [.lit (.bool true)], args := [d1, d2] }
  | _ => none }
def fnExactComposeCurvesRow : OpenClaim := { program := "ytleaoemckdkndaa", sum := "3327258dc5152cf18a50d686e21f8c55841ff4b25def8d0e5ae04c9f979c422d", func := "loop.example/g00955/laws.FnExactComposeCurves", spec := "fnExactComposeCurves", unfollowed := true, recurses := true, apart := false }
def FnExactComposeCurvesSaid : Prop := fnExactComposeCurvesRow.holds Try.pinned (OpenSpec.ofChange fnExactComposeCurvesSpec)

/-- ITS FALSE NEIGHBOUR: 'it returns false'. Refute it at one input. -/
def fnExactComposeCurvesWrong : ChangeSpec := { name := "fnExactComposeCurves", fn := fun _ => fun
  | [d1, d2] => { results := [.lit (.bool false)], args := [d1, d2] }
  | _ => none }
def FnExactComposeCurvesWrongFalsely : Prop := fnExactComposeCurvesRow.holds Try.pinned (OpenSpec.ofChange fnExactComposeCurvesWrong)

/-- 'laws.FnExactRaiseBlack': WHATEVER THE INPUT: true; the input reads as it did. -/
def fnExactRaiseBlackSpec : ChangeSpec := { name := "fnExactRaiseBlack", fn := fun _ => fun
  | [d1, d2] => { results := [.lit (.bool true)], args := [d1, d2] }
  | _ => none }
def fnExactRaiseBlackRow : OpenClaim := { program := "ytleaoemckdkndaa", sum := "3327258dc5152cf18a50d686e21f8c55841ff4b25def8d0e5ae04c9f979c422d", func := "loop.example/g00955/laws.FnExactRaiseBlack", spec := "fnExactRaiseBlack", apart := false }
def FnExactRaiseBlackSaid : Prop := fnExactRaiseBlackRow.holds Try.pinned (OpenSpec.ofChange fnExactRaiseBlackSpec)

/-- ITS FALSE NEIGHBOUR: 'it returns false'. Refute it at one input. -/
def fnExactRaiseBlackWrong : ChangeSpec := { name := "fnExactRaiseBlack", fn := fun _ => fun
  | [d1, d2] => { results := [.lit (.bool false)], args := [d1, d2] }
  | _ => none }
def FnExactRaiseBlackWrongFalsely : Prop := fnExactRaiseBlackRow.holds Try.pinned (OpenSpec.ofChange fnExactRaiseBlackWrong)

/-- 'laws.FnExactWarpPoint': WHATEVER THE INPUT: true; the input reads as it did. -/
def fnExactWarpPointSpec : ChangeSpec := { name := "fnExactWarpPoint", fn := fun _ => fun
  | [d1, d2, d3] => { results := [.lit (.bool true)], args := [d1, d2, d3] }
  | _ => none }
def fnExactWarpPointRow : OpenClaim := { program := "ytleaoemckdkndaa", sum := "3327258dc5152cf18a50d686e21f8c55841ff4b25def8d0e5ae04c9f979c422d", func := "loop.example/g00955/laws.FnExactWarpPoint", spec := "fnExactWarpPoint", unfollowed := true, recurses := true, apart := false }
def FnExactWarpPointSaid : Prop := fnExactWarpPointRow.holds Try.pinned (OpenSpec.ofChange fnExactWarpPointSpec)

/-- ITS FALSE NEIGHBOUR: 'it returns false'. Refute it at one input. -/
def fnExactWarpPointWrong : ChangeSpec := { name := "fnExactWarpPoint", fn := fun _ => fun
  | [d1, d2, d3] => { results := [.lit (.bool false)], args := [d1, d2, d3] }
  | _ => none }
def FnExactWarpPointWrongFalsely : Prop := fnExactWarpPointRow.holds Try.pinned (OpenSpec.ofChange fnExactWarpPointWrong)

/-- 'laws.FnExactFoldedCells': WHATEVER THE INPUT: true; the input reads as it did. -/
def fnExactFoldedCellsSpec : ChangeSpec := { name := "fnExactFoldedCells", fn := fun _ => fun
  | [d] => { results := [.lit (.bool true)], args := [d] }
  | _ => none }
def fnExactFoldedCellsRow : OpenClaim := { program := "ytleaoemckdkndaa", sum := "3327258dc5152cf18a50d686e21f8c55841ff4b25def8d0e5ae04c9f979c422d", func := "loop.example/g00955/laws.FnExactFoldedCells", spec := "fnExactFoldedCells", unfollowed := true, recurses := true, apart := false }
def FnExactFoldedCellsSaid : Prop := fnExactFoldedCellsRow.holds Try.pinned (OpenSpec.ofChange fnExactFoldedCellsSpec)

/-- ITS FALSE NEIGHBOUR: 'it returns false'. Refute it at one input. -/
def fnExactFoldedCellsWrong : ChangeSpec := { name := "fnExactFoldedCells", fn := fun _ => fun
  | [d] => { results := [.lit (.bool false)], args := [d] }
  | _ => none }
def FnExactFoldedCellsWrongFalsely : Prop := fnExactFoldedCellsRow.holds Try.pinned (OpenSpec.ofChange fnExactFoldedCellsWrong)

/-- 'laws.FnExactMaskMean': WHATEVER THE INPUT: true; the input reads as it did. -/
def fnExactMaskMeanSpec : ChangeSpec := { name := "fnExactMaskMean", fn := fun _ => fun
  | [d1, d2] => { results := [.lit (.bool true)], args := [d1, d2] }
  | _ => none }
def fnExactMaskMeanRow : OpenClaim := { program := "ytleaoemckdkndaa", sum := "3327258dc5152cf18a50d686e21f8c55841ff4b25def8d0e5ae04c9f979c422d", func := "loop.example/g00955/laws.FnExactMaskMean", spec := "fnExactMaskMean", unfollowed := true, recurses := true, apart := false }
def FnExactMaskMeanSaid : Prop := fnExactMaskMeanRow.holds Try.pinned (OpenSpec.ofChange fnExactMaskMeanSpec)

/-- ITS FALSE NEIGHBOUR: 'it returns false'. Refute it at one input. -/
def fnExactMaskMeanWrong : ChangeSpec := { name := "fnExactMaskMean", fn := fun _ => fun
  | [d1, d2] => { results := [.lit (.bool false)], args := [d1, d2] }
  | _ => none }
def FnExactMaskMeanWrongFalsely : Prop := fnExactMaskMeanRow.holds Try.pinned (OpenSpec.ofChange fnExactMaskMeanWrong)

/-- 'laws.FnExactRefineMesh': WHATEVER THE INPUT: true; the input reads as it did. -/
def fnExactRefineMeshSpec : ChangeSpec := { name := "fnExactRefineMesh", fn := fun _ => fun
  | [d] => { results := [.lit (.bool true)], args := [d] }
  | _ => none }
def fnExactRefineMeshRow : OpenClaim := { program := "ytleaoemckdkndaa", sum := "3327258dc5152cf18a50d686e21f8c55841ff4b25def8d0e5ae04c9f979c422d", func := "loop.example/g00955/laws.FnExactRefineMesh", spec := "fnExactRefineMesh", unfollowed := true, recurses := true, apart := false }
def FnExactRefineMeshSaid : Prop := fnExactRefineMeshRow.holds Try.pinned (OpenSpec.ofChange fnExactRefineMeshSpec)

/-- ITS FALSE NEIGHBOUR: 'it returns false'. Refute it at one input. -/
def fnExactRefineMeshWrong : ChangeSpec := { name := "fnExactRefineMesh", fn := fun _ => fun
  | [d] => { results := [.lit (.bool false)], args := [d] }
  | _ => none }
def FnExactRefineMeshWrongFalsely : Prop := fnExactRefineMeshRow.holds Try.pinned (OpenSpec.ofChange fnExactRefineMeshWrong)

/- THE SECOND FORM. 'bulk': how many values and letters a reading holds, each counted each time it is reached (what is shared counts as often as it is met; a slice's spare places count too). A statement '..UptoSaid' is the law's where the arguments, and the package variables that the reading takes, are together of bulk at most 1048576: NARROWER than '..Said'. Prove '..Said' where nothing that the law and all that it calls make is longer than what came in: it says more and counts as full. Else prove '..UptoSaid'. A law counts once. -/
mutual
def uptoBulk {H : Type} : DataW H → Nat
  | .lit (.string bytes) => bytes.length + 1
  | .lit _ => 1
  | .nil => 1
  | .ptr d => uptoBulk d + 1
  | .slice elems spare => uptoBulkAll elems + uptoBulkAll spare + 1
  | .agg parts => uptoBulkAll parts + 1
  | .iface _ d => uptoBulk d + 1
  | .map entries => uptoBulkEntries entries + 1
  | .held _ => 1
def uptoBulkAll {H : Type} : List (DataW H) → Nat
  | [] => 0
  | d :: r => uptoBulk d + uptoBulkAll r
def uptoBulkEntries {H : Type} : List (Lit × DataW H) → Nat
  | [] => 0
  | x :: r => uptoBulkEntry x + uptoBulkEntries r
def uptoBulkEntry {H : Type} : Lit × DataW H → Nat
  | (.string bytes, d) => bytes.length + uptoBulk d + 1
  | (_, d) => uptoBulk d + 1
 end
def uptoSmall : (H : Type) → List (DataW H) → Bool := fun _ ds => decide (uptoBulkAll ds ≤ 1048576)
def OpenSpec.upto (s : _root_.Go.ChangeSpec) : _root_.Go.OpenSpec := { _root_.Go.OpenSpec.ofChange s with cond := some uptoSmall }

/-- 'laws.FnExactSameMesh', WHERE WHAT IT READS IS OF BULK AT MOST 1048576: true; the input reads as it did. -/
def fnExactSameMeshUptoRow : OpenClaim := { program := "ytleaoemckdkndaa", sum := "3327258dc5152cf18a50d686e21f8c55841ff4b25def8d0e5ae04c9f979c422d", func := "loop.example/g00955/laws.FnExactSameMesh", spec := "fnExactSameMesh", apart := false, narrowed := true }
def FnExactSameMeshUptoSaid : Prop := fnExactSameMeshUptoRow.holds Try.pinned (OpenSpec.upto fnExactSameMeshSpec)

/-- 'laws.FnExactGreatestMove', WHERE WHAT IT READS IS OF BULK AT MOST 1048576: true; the input reads as it did. -/
def fnExactGreatestMoveUptoRow : OpenClaim := { program := "ytleaoemckdkndaa", sum := "3327258dc5152cf18a50d686e21f8c55841ff4b25def8d0e5ae04c9f979c422d", func := "loop.example/g00955/laws.FnExactGreatestMove", spec := "fnExactGreatestMove", unfollowed := true, recurses := true, apart := false, narrowed := true }
def FnExactGreatestMoveUptoSaid : Prop := fnExactGreatestMoveUptoRow.holds Try.pinned (OpenSpec.upto fnExactGreatestMoveSpec)

/-- 'laws.FnExactBlendMeshes', WHERE WHAT IT READS IS OF BULK AT MOST 1048576: true; the input reads as it did. -/
def fnExactBlendMeshesUptoRow : OpenClaim := { program := "ytleaoemckdkndaa", sum := "3327258dc5152cf18a50d686e21f8c55841ff4b25def8d0e5ae04c9f979c422d", func := "loop.example/g00955/laws.FnExactBlendMeshes", spec := "fnExactBlendMeshes", unfollowed := true, recurses := true, apart := false, narrowed := true }
def FnExactBlendMeshesUptoSaid : Prop := fnExactBlendMeshesUptoRow.holds Try.pinned (OpenSpec.upto fnExactBlendMeshesSpec)

/-- 'laws.FnExactValidCurve', WHERE WHAT IT READS IS OF BULK AT MOST 1048576: true; the input reads as it did. -/
def fnExactValidCurveUptoRow : OpenClaim := { program := "ytleaoemckdkndaa", sum := "3327258dc5152cf18a50d686e21f8c55841ff4b25def8d0e5ae04c9f979c422d", func := "loop.example/g00955/laws.FnExactValidCurve", spec := "fnExactValidCurve", apart := false, narrowed := true }
def FnExactValidCurveUptoSaid : Prop := fnExactValidCurveUptoRow.holds Try.pinned (OpenSpec.upto fnExactValidCurveSpec)

/-- 'laws.FnExactCurveAt', WHERE WHAT IT READS IS OF BULK AT MOST 1048576: true; the input reads as it did. -/
def fnExactCurveAtUptoRow : OpenClaim := { program := "ytleaoemckdkndaa", sum := "3327258dc5152cf18a50d686e21f8c55841ff4b25def8d0e5ae04c9f979c422d", func := "loop.example/g00955/laws.FnExactCurveAt", spec := "fnExactCurveAt", unfollowed := true, recurses := true, apart := false, narrowed := true }
def FnExactCurveAtUptoSaid : Prop := fnExactCurveAtUptoRow.holds Try.pinned (OpenSpec.upto fnExactCurveAtSpec)

/-- 'laws.FnExactCurveBack', WHERE WHAT IT READS IS OF BULK AT MOST 1048576: true; the input reads as it did. -/
def fnExactCurveBackUptoRow : OpenClaim := { program := "ytleaoemckdkndaa", sum := "3327258dc5152cf18a50d686e21f8c55841ff4b25def8d0e5ae04c9f979c422d", func := "loop.example/g00955/laws.FnExactCurveBack", spec := "fnExactCurveBack", unfollowed := true, recurses := true, apart := false, narrowed := true }
def FnExactCurveBackUptoSaid : Prop := fnExactCurveBackUptoRow.holds Try.pinned (OpenSpec.upto fnExactCurveBackSpec)

/-- 'laws.FnExactComposeCurves', WHERE WHAT IT READS IS OF BULK AT MOST 1048576: true; the input reads as it did. -/
def fnExactComposeCurvesUptoRow : OpenClaim := { program := "ytleaoemckdkndaa", sum := "3327258dc5152cf18a50d686e21f8c55841ff4b25def8d0e5ae04c9f979c422d", func := "loop.example/g00955/laws.FnExactComposeCurves", spec := "fnExactComposeCurves", unfollowed := true, recurses := true, apart := false, narrowed := true }
def FnExactComposeCurvesUptoSaid : Prop := fnExactComposeCurvesUptoRow.holds Try.pinned (OpenSpec.upto fnExactComposeCurvesSpec)

/-- 'laws.FnExactRaiseBlack', WHERE WHAT IT READS IS OF BULK AT MOST 1048576: true; the input reads as it did. -/
def fnExactRaiseBlackUptoRow : OpenClaim := { program := "ytleaoemckdkndaa", sum := "3327258dc5152cf18a50d686e21f8c55841ff4b25def8d0e5ae04c9f979c422d", func := "loop.example/g00955/laws.FnExactRaiseBlack", spec := "fnExactRaiseBlack", apart := false, narrowed := true }
def FnExactRaiseBlackUptoSaid : Prop := fnExactRaiseBlackUptoRow.holds Try.pinned (OpenSpec.upto fnExactRaiseBlackSpec)

/-- 'laws.FnExactWarpPoint', WHERE WHAT IT READS IS OF BULK AT MOST 1048576: true; the input reads as it did. -/
def fnExactWarpPointUptoRow : OpenClaim := { program := "ytleaoemckdkndaa", sum := "3327258dc5152cf18a50d686e21f8c55841ff4b25def8d0e5ae04c9f979c422d", func := "loop.example/g00955/laws.FnExactWarpPoint", spec := "fnExactWarpPoint", unfollowed := true, recurses := true, apart := false, narrowed := true }
def FnExactWarpPointUptoSaid : Prop := fnExactWarpPointUptoRow.holds Try.pinned (OpenSpec.upto fnExactWarpPointSpec)

/-- 'laws.FnExactFoldedCells', WHERE WHAT IT READS IS OF BULK AT MOST 1048576: true; the input reads as it did. -/
def fnExactFoldedCellsUptoRow : OpenClaim := { program := "ytleaoemckdkndaa", sum := "3327258dc5152cf18a50d686e21f8c55841ff4b25def8d0e5ae04c9f979c422d", func := "loop.example/g00955/laws.FnExactFoldedCells", spec := "fnExactFoldedCells", unfollowed := true, recurses := true, apart := false, narrowed := true }
def FnExactFoldedCellsUptoSaid : Prop := fnExactFoldedCellsUptoRow.holds Try.pinned (OpenSpec.upto fnExactFoldedCellsSpec)

/-- 'laws.FnExactMaskMean', WHERE WHAT IT READS IS OF BULK AT MOST 1048576: true; the input reads as it did. -/
def fnExactMaskMeanUptoRow : OpenClaim := { program := "ytleaoemckdkndaa", sum := "3327258dc5152cf18a50d686e21f8c55841ff4b25def8d0e5ae04c9f979c422d", func := "loop.example/g00955/laws.FnExactMaskMean", spec := "fnExactMaskMean", unfollowed := true, recurses := true, apart := false, narrowed := true }
def FnExactMaskMeanUptoSaid : Prop := fnExactMaskMeanUptoRow.holds Try.pinned (OpenSpec.upto fnExactMaskMeanSpec)

/-- 'laws.FnExactRefineMesh', WHERE WHAT IT READS IS OF BULK AT MOST 1048576: true; the input reads as it did. -/
def fnExactRefineMeshUptoRow : OpenClaim := { program := "ytleaoemckdkndaa", sum := "3327258dc5152cf18a50d686e21f8c55841ff4b25def8d0e5ae04c9f979c422d", func := "loop.example/g00955/laws.FnExactRefineMesh", spec := "fnExactRefineMesh", unfollowed := true, recurses := true, apart := false, narrowed := true }
def FnExactRefineMeshUptoSaid : Prop := fnExactRefineMeshUptoRow.holds Try.pinned (OpenSpec.upto fnExactRefineMeshSpec)

end Rows
end Go.Proofs.Ytleaoemckdkndaa
