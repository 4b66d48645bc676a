/-
  No cell of these rows narrows 'for every input' (looked for: loops, veiled, ifaces, maps, wideKeys, modest, calm, conditions, laid).
  DERIVED. THE GIVEN ROWS OF THIS SEAT. 12 by the template 'for every input the law returns true; each argument reads behind the call as it read before'; 0 by the template 'total and deterministic' (their statements: YtbbkohpmncfilaaTotals.lean).
  GIVEN WITH THE SEED: the statements are not yours to turn. If you find one false, say at which input.
  Laid BY PROGRAM, IN A SANDBOX (cutbox-rows.mjs): the forced cells as the released guide's own fill.sh prints them over the translation 56f65a60e11e082c… (all of the seat's roots in one cut). By AI agents, Wed Nov 11 2026. No macro, syntax, notation, axiom, sorry.
-/
import Derived.Test.YtbbkohpmncfilaaChecked
import GoSem.Claim
import GoSem.ClaimJoined
import GoSem.ClaimMapViews
import Derived.JoinedTies
import Derived.KernelRfl
namespace Go.Proofs.Ytbbkohpmncfilaa
/- THE CELL 'sum', in the pinned program and in every row, IS THE sha256 OF THE DUMP (.gsa) THAT YtbbkohpmncfilaaProg.lean LOADS. Nothing in Lean hashes anything: it is a label: what it is worth is what the hold of that sum in a sandbox is worth. -/
noncomputable def Try.pinned : Pinned := { name := "ytbbkohpmncfilaa", sum := "56f65a60e11e082cd191533c76ad035124416b12effc1df4f8255c43f6e1171b", checked := Try.checked }
namespace Rows
def none {H : Type} : Left H := { results := [], args := [] }

/-- 'laws.FnExactValidMesh': WHATEVER THE INPUT: true; the input reads as it did. -/
def fnExactValidMeshSpec : ChangeSpec := { name := "fnExactValidMesh", fn := fun _ => fun
  | [d] => { results := [.lit (.bool true)], args := [d] }
  | _ => none }
def fnExactValidMeshRow : OpenClaim := { program := "ytbbkohpmncfilaa", sum := "56f65a60e11e082cd191533c76ad035124416b12effc1df4f8255c43f6e1171b", func := "loop.example/g00955/laws.FnExactValidMesh", spec := "fnExactValidMesh", unfollowed := true, recurses := true, apart := false }
def FnExactValidMeshSaid : Prop := fnExactValidMeshRow.holds Try.pinned (OpenSpec.ofChange fnExactValidMeshSpec)

/-- ITS FALSE NEIGHBOUR: 'it returns false'. Refute it at one input. -/
def fnExactValidMeshWrong : ChangeSpec := { name := "fnExactValidMesh", fn := fun _ => fun
  | [d] => { results := [.lit (.bool false)], args := [d] }
  | _ => none }
def FnExactValidMeshWrongFalsely : Prop := fnExactValidMeshRow.holds Try.pinned (OpenSpec.ofChange fnExactValidMeshWrong)

/-- 'laws.FnExactSameMesh': WHATEVER THE INPUT: true; the input reads as it did. -/
def fnExactSameMeshSpec : ChangeSpec := { name := "fnExactSameMesh", fn := fun _ => fun
  | [d1, d2] => { results := [.lit (.bool true)], args := [d1, d2] }
  | _ => none }
def fnExactSameMeshRow : OpenClaim := { program := "ytbbkohpmncfilaa", sum := "56f65a60e11e082cd191533c76ad035124416b12effc1df4f8255c43f6e1171b", func := "loop.example/g00955/laws.FnExactSameMesh", spec := "fnExactSameMesh", apart := false }
def FnExactSameMeshSaid : Prop := fnExactSameMeshRow.holds Try.pinned (OpenSpec.ofChange fnExactSameMeshSpec)

/-- ITS FALSE NEIGHBOUR: 'it returns false'. Refute it at one input. -/
def fnExactSameMeshWrong : ChangeSpec := { name := "fnExactSameMesh", fn := fun _ => fun
  | [d1, d2] => { results := [.lit (.bool false)], args := [d1, d2] }
  | _ => none }
def FnExactSameMeshWrongFalsely : Prop := fnExactSameMeshRow.holds Try.pinned (OpenSpec.ofChange fnExactSameMeshWrong)

/-- 'laws.FnExactPlainMesh': WHATEVER THE INPUT: true; the input reads as it did. -/
def fnExactPlainMeshSpec : ChangeSpec := { name := "fnExactPlainMesh", fn := fun _ => fun
  | [d1, d2] => { results := [.lit (.bool true)], args := [d1, d2] }
  | _ => none }
def fnExactPlainMeshRow : OpenClaim := { program := "ytbbkohpmncfilaa", sum := "56f65a60e11e082cd191533c76ad035124416b12effc1df4f8255c43f6e1171b", func := "loop.example/g00955/laws.FnExactPlainMesh", spec := "fnExactPlainMesh", unfollowed := true, recurses := true, apart := false }
def FnExactPlainMeshSaid : Prop := fnExactPlainMeshRow.holds Try.pinned (OpenSpec.ofChange fnExactPlainMeshSpec)

/-- ITS FALSE NEIGHBOUR: 'it returns false'. Refute it at one input. -/
def fnExactPlainMeshWrong : ChangeSpec := { name := "fnExactPlainMesh", fn := fun _ => fun
  | [d1, d2] => { results := [.lit (.bool false)], args := [d1, d2] }
  | _ => none }
def FnExactPlainMeshWrongFalsely : Prop := fnExactPlainMeshRow.holds Try.pinned (OpenSpec.ofChange fnExactPlainMeshWrong)

/-- 'laws.FnExactWarpPoint': WHATEVER THE INPUT: true; the input reads as it did. -/
def fnExactWarpPointSpec : ChangeSpec := { name := "fnExactWarpPoint", fn := fun _ => fun
  | [d1, d2, d3] => { results := [.lit (.bool true)], args := [d1, d2, d3] }
  | _ => none }
def fnExactWarpPointRow : OpenClaim := { program := "ytbbkohpmncfilaa", sum := "56f65a60e11e082cd191533c76ad035124416b12effc1df4f8255c43f6e1171b", func := "loop.example/g00955/laws.FnExactWarpPoint", spec := "fnExactWarpPoint", unfollowed := true, recurses := true, apart := false }
def FnExactWarpPointSaid : Prop := fnExactWarpPointRow.holds Try.pinned (OpenSpec.ofChange fnExactWarpPointSpec)

/-- ITS FALSE NEIGHBOUR: 'it returns false'. Refute it at one input. -/
def fnExactWarpPointWrong : ChangeSpec := { name := "fnExactWarpPoint", fn := fun _ => fun
  | [d1, d2, d3] => { results := [.lit (.bool false)], args := [d1, d2, d3] }
  | _ => none }
def FnExactWarpPointWrongFalsely : Prop := fnExactWarpPointRow.holds Try.pinned (OpenSpec.ofChange fnExactWarpPointWrong)

/-- 'laws.FnExactFoldedCells': WHATEVER THE INPUT: true; the input reads as it did. -/
def fnExactFoldedCellsSpec : ChangeSpec := { name := "fnExactFoldedCells", fn := fun _ => fun
  | [d] => { results := [.lit (.bool true)], args := [d] }
  | _ => none }
def fnExactFoldedCellsRow : OpenClaim := { program := "ytbbkohpmncfilaa", sum := "56f65a60e11e082cd191533c76ad035124416b12effc1df4f8255c43f6e1171b", func := "loop.example/g00955/laws.FnExactFoldedCells", spec := "fnExactFoldedCells", unfollowed := true, recurses := true, apart := false }
def FnExactFoldedCellsSaid : Prop := fnExactFoldedCellsRow.holds Try.pinned (OpenSpec.ofChange fnExactFoldedCellsSpec)

/-- ITS FALSE NEIGHBOUR: 'it returns false'. Refute it at one input. -/
def fnExactFoldedCellsWrong : ChangeSpec := { name := "fnExactFoldedCells", fn := fun _ => fun
  | [d] => { results := [.lit (.bool false)], args := [d] }
  | _ => none }
def FnExactFoldedCellsWrongFalsely : Prop := fnExactFoldedCellsRow.holds Try.pinned (OpenSpec.ofChange fnExactFoldedCellsWrong)

/-- 'laws.FnExactBlendMeshes': WHATEVER THE INPUT: true; the input reads as it did. -/
def fnExactBlendMeshesSpec : ChangeSpec := { name := "fnExactBlendMeshes", fn := fun _ => fun
  | [d1, d2, d3] => { results := [.lit (.bool true)], args := [d1, d2, d3] }
  | _ => none }
def fnExactBlendMeshesRow : OpenClaim := { program := "ytbbkohpmncfilaa", sum := "56f65a60e11e082cd191533c76ad035124416b12effc1df4f8255c43f6e1171b", func := "loop.example/g00955/laws.FnExactBlendMeshes", spec := "fnExactBlendMeshes", unfollowed := true, recurses := true, apart := false }
def FnExactBlendMeshesSaid : Prop := fnExactBlendMeshesRow.holds Try.pinned (OpenSpec.ofChange fnExactBlendMeshesSpec)

/-- ITS FALSE NEIGHBOUR: 'it returns false'. Refute it at one input. -/
def fnExactBlendMeshesWrong : ChangeSpec := { name := "fnExactBlendMeshes", fn := fun _ => fun
  | [d1, d2, d3] => { results := [.lit (.bool false)], args := [d1, d2, d3] }
  | _ => none }
def FnExactBlendMeshesWrongFalsely : Prop := fnExactBlendMeshesRow.holds Try.pinned (OpenSpec.ofChange fnExactBlendMeshesWrong)

/-- 'laws.FnExactMirrorMesh': WHATEVER THE INPUT: true; the input reads as it did. -/
def fnExactMirrorMeshSpec : ChangeSpec := { name := "fnExactMirrorMesh", fn := fun _ => fun
  | [d] => { results := [.lit (.bool true)], args := [d] }
  | _ => none }
def fnExactMirrorMeshRow : OpenClaim := { program := "ytbbkohpmncfilaa", sum := "56f65a60e11e082cd191533c76ad035124416b12effc1df4f8255c43f6e1171b", func := "loop.example/g00955/laws.FnExactMirrorMesh", spec := "fnExactMirrorMesh", unfollowed := true, recurses := true, apart := false }
def FnExactMirrorMeshSaid : Prop := fnExactMirrorMeshRow.holds Try.pinned (OpenSpec.ofChange fnExactMirrorMeshSpec)

/-- ITS FALSE NEIGHBOUR: 'it returns false'. Refute it at one input. -/
def fnExactMirrorMeshWrong : ChangeSpec := { name := "fnExactMirrorMesh", fn := fun _ => fun
  | [d] => { results := [.lit (.bool false)], args := [d] }
  | _ => none }
def FnExactMirrorMeshWrongFalsely : Prop := fnExactMirrorMeshRow.holds Try.pinned (OpenSpec.ofChange fnExactMirrorMeshWrong)

/-- 'laws.FnExactRefineMesh': WHATEVER THE INPUT: true; the input reads as it did. -/
def fnExactRefineMeshSpec : ChangeSpec := { name := "fnExactRefineMesh", fn := fun _ => fun
  | [d] => { results := [.lit (.bool true)], args := [d] }
  | _ => none }
def fnExactRefineMeshRow : OpenClaim := { program := "ytbbkohpmncfilaa", sum := "56f65a60e11e082cd191533c76ad035124416b12effc1df4f8255c43f6e1171b", func := "loop.example/g00955/laws.FnExactRefineMesh", spec := "fnExactRefineMesh", unfollowed := true, recurses := true, apart := false }
def FnExactRefineMeshSaid : Prop := fnExactRefineMeshRow.holds Try.pinned (OpenSpec.ofChange fnExactRefineMeshSpec)

/-- ITS FALSE NEIGHBOUR: 'it returns false'. Refute it at one input. -/
def fnExactRefineMeshWrong : ChangeSpec := { name := "fnExactRefineMesh", fn := fun _ => fun
  | [d] => { results := [.lit (.bool false)], args := [d] }
  | _ => none }
def FnExactRefineMeshWrongFalsely : Prop := fnExactRefineMeshRow.holds Try.pinned (OpenSpec.ofChange fnExactRefineMeshWrong)

/-- 'laws.FnExactMoveMeshPoint': WHATEVER THE INPUT: true; the input reads as it did. -/
def fnExactMoveMeshPointSpec : ChangeSpec := { name := "fnExactMoveMeshPoint", fn := fun _ => fun
  | [d1, d2, d3, d4] => { results := [.lit (.bool true)], args := [d1, d2, d3, d4] }
  | _ => none }
def fnExactMoveMeshPointRow : OpenClaim := { program := "ytbbkohpmncfilaa", sum := "56f65a60e11e082cd191533c76ad035124416b12effc1df4f8255c43f6e1171b", func := "loop.example/g00955/laws.FnExactMoveMeshPoint", spec := "fnExactMoveMeshPoint", unfollowed := true, recurses := true, apart := false }
def FnExactMoveMeshPointSaid : Prop := fnExactMoveMeshPointRow.holds Try.pinned (OpenSpec.ofChange fnExactMoveMeshPointSpec)

/-- ITS FALSE NEIGHBOUR: 'it returns false'. Refute it at one input. -/
def fnExactMoveMeshPointWrong : ChangeSpec := { name := "fnExactMoveMeshPoint", fn := fun _ => fun
  | [d1, d2, d3, d4] => { results := [.lit (.bool false)], args := [d1, d2, d3, d4] }
  | _ => none }
def FnExactMoveMeshPointWrongFalsely : Prop := fnExactMoveMeshPointRow.holds Try.pinned (OpenSpec.ofChange fnExactMoveMeshPointWrong)

/-- 'laws.FnExactGreatestMove': WHATEVER THE INPUT: true; the input reads as it did. -/
def fnExactGreatestMoveSpec : ChangeSpec := { name := "fnExactGreatestMove", fn := fun _ => fun
  | [d1, d2] => { results := [.lit (.bool true)], args := [d1, d2] }
  | _ => none }
def fnExactGreatestMoveRow : OpenClaim := { program := "ytbbkohpmncfilaa", sum := "56f65a60e11e082cd191533c76ad035124416b12effc1df4f8255c43f6e1171b", func := "loop.example/g00955/laws.FnExactGreatestMove", spec := "fnExactGreatestMove", unfollowed := true, recurses := true, apart := false }
def FnExactGreatestMoveSaid : Prop := fnExactGreatestMoveRow.holds Try.pinned (OpenSpec.ofChange fnExactGreatestMoveSpec)

/-- ITS FALSE NEIGHBOUR: 'it returns false'. Refute it at one input. -/
def fnExactGreatestMoveWrong : ChangeSpec := { name := "fnExactGreatestMove", fn := fun _ => fun
  | [d1, d2] => { results := [.lit (.bool false)], args := [d1, d2] }
  | _ => none }
def FnExactGreatestMoveWrongFalsely : Prop := fnExactGreatestMoveRow.holds Try.pinned (OpenSpec.ofChange fnExactGreatestMoveWrong)

/-- 'laws.FnExactValidMasks': WHATEVER THE INPUT: true; the input reads as it did. -/
def fnExactValidMasksSpec : ChangeSpec := { name := "fnExactValidMasks", fn := fun _ => fun
  | [d] => { results := [.lit (.bool true)], args := [d] }
  | _ => none }
def fnExactValidMasksRow : OpenClaim := { program := "ytbbkohpmncfilaa", sum := "56f65a60e11e082cd191533c76ad035124416b12effc1df4f8255c43f6e1171b", func := "loop.example/g00955/laws.FnExactValidMasks", spec := "fnExactValidMasks", unfollowed := true, recurses := true, apart := false }
def FnExactValidMasksSaid : Prop := fnExactValidMasksRow.holds Try.pinned (OpenSpec.ofChange fnExactValidMasksSpec)

/-- ITS FALSE NEIGHBOUR: 'it returns false'. Refute it at one input. -/
def fnExactValidMasksWrong : ChangeSpec := { name := "fnExactValidMasks", fn := fun _ => fun
  | [d] => { results := [.lit (.bool false)], args := [d] }
  | _ => none }
def FnExactValidMasksWrongFalsely : Prop := fnExactValidMasksRow.holds Try.pinned (OpenSpec.ofChange fnExactValidMasksWrong)

/-- 'laws.FnExactMaskAt': WHATEVER THE INPUT: true; the input reads as it did. -/
def fnExactMaskAtSpec : ChangeSpec := { name := "fnExactMaskAt", fn := fun _ => fun
  | [d1, d2, d3] => { results := [.lit (.bool true)], args := [d1, d2, d3] }
  | _ => none }
def fnExactMaskAtRow : OpenClaim := { program := "ytbbkohpmncfilaa", sum := "56f65a60e11e082cd191533c76ad035124416b12effc1df4f8255c43f6e1171b", func := "loop.example/g00955/laws.FnExactMaskAt", spec := "fnExactMaskAt", unfollowed := true, recurses := true, apart := false }
def FnExactMaskAtSaid : Prop := fnExactMaskAtRow.holds Try.pinned (OpenSpec.ofChange fnExactMaskAtSpec)

/-- ITS FALSE NEIGHBOUR: 'it returns false'. Refute it at one input. -/
def fnExactMaskAtWrong : ChangeSpec := { name := "fnExactMaskAt", fn := fun _ => fun
  | [d1, d2, d3] => { results := [.lit (.bool false)], args := [d1, d2, d3] }
  | _ => none }
def FnExactMaskAtWrongFalsely : Prop := fnExactMaskAtRow.holds Try.pinned (OpenSpec.ofChange fnExactMaskAtWrong)

/- THE SECOND FORM. 'bulk': how many values and letters a reading holds, each counted each time it is reached (what is shared counts as often as it is met; a slice's spare places count too). A statement '..UptoSaid' is the law's where the arguments, and the package variables that the reading takes, are together of bulk at most 1048576: NARROWER than '..Said'. Prove '..Said' where nothing that the law and all that it calls make is longer than what came in: it says more and counts as full. Else prove '..UptoSaid'. A law counts once. -/
mutual
def uptoBulk {H : Type} : DataW H → Nat
  | .lit (.string bytes) => bytes.length + 1
  | .lit _ => 1
  | .nil => 1
  | .ptr d => uptoBulk d + 1
  | .slice elems spare => uptoBulkAll elems + uptoBulkAll spare + 1
  | .agg parts => uptoBulkAll parts + 1
  | .iface _ d => uptoBulk d + 1
  | .map entries => uptoBulkEntries entries + 1
  | .held _ => 1
def uptoBulkAll {H : Type} : List (DataW H) → Nat
  | [] => 0
  | d :: r => uptoBulk d + uptoBulkAll r
def uptoBulkEntries {H : Type} : List (Lit × DataW H) → Nat
  | [] => 0
  | x :: r => uptoBulkEntry x + uptoBulkEntries r
def uptoBulkEntry {H : Type} : Lit × DataW H → Nat
  | (.string bytes, d) => bytes.length + uptoBulk d + 1
  | (_, d) => uptoBulk d + 1
 end
def uptoSmall : (H : Type) → List (DataW H) → Bool := fun _ ds => decide (uptoBulkAll ds ≤ 1048576)
def OpenSpec.upto (s : _root_.Go.ChangeSpec) : _root_.Go.OpenSpec := { _root_.Go.OpenSpec.ofChange s with cond := some uptoSmall }

/-- 'laws.FnExactValidMesh', WHERE WHAT IT READS IS OF BULK AT MOST 1048576: true; the input reads as it did. -/
def fnExactValidMeshUptoRow : OpenClaim := { program := "ytbbkohpmncfilaa", sum := "56f65a60e11e082cd191533c76ad035124416b12effc1df4f8255c43f6e1171b", func := "loop.example/g00955/laws.FnExactValidMesh", spec := "fnExactValidMesh", unfollowed := true, recurses := true, apart := false, narrowed := true }
def FnExactValidMeshUptoSaid : Prop := fnExactValidMeshUptoRow.holds Try.pinned (OpenSpec.upto fnExactValidMeshSpec)

/-- 'laws.FnExactSameMesh', WHERE WHAT IT READS IS OF BULK AT MOST 1048576: true; the input reads as it did. -/
def fnExactSameMeshUptoRow : OpenClaim := { program := "ytbbkohpmncfilaa", sum := "56f65a60e11e082cd191533c76ad035124416b12effc1df4f8255c43f6e1171b", func := "loop.example/g00955/laws.FnExactSameMesh", spec := "fnExactSameMesh", apart := false, narrowed := true }
def FnExactSameMeshUptoSaid : Prop := fnExactSameMeshUptoRow.holds Try.pinned (OpenSpec.upto fnExactSameMeshSpec)

/-- 'laws.FnExactPlainMesh', WHERE WHAT IT READS IS OF BULK AT MOST 1048576: true; the input reads as it did. -/
def fnExactPlainMeshUptoRow : OpenClaim := { program := "ytbbkohpmncfilaa", sum := "56f65a60e11e082cd191533c76ad035124416b12effc1df4f8255c43f6e1171b", func := "loop.example/g00955/laws.FnExactPlainMesh", spec := "fnExactPlainMesh", unfollowed := true, recurses := true, apart := false, narrowed := true }
def FnExactPlainMeshUptoSaid : Prop := fnExactPlainMeshUptoRow.holds Try.pinned (OpenSpec.upto fnExactPlainMeshSpec)

/-- 'laws.FnExactWarpPoint', WHERE WHAT IT READS IS OF BULK AT MOST 1048576: true; the input reads as it did. -/
def fnExactWarpPointUptoRow : OpenClaim := { program := "ytbbkohpmncfilaa", sum := "56f65a60e11e082cd191533c76ad035124416b12effc1df4f8255c43f6e1171b", func := "loop.example/g00955/laws.FnExactWarpPoint", spec := "fnExactWarpPoint", unfollowed := true, recurses := true, apart := false, narrowed := true }
def FnExactWarpPointUptoSaid : Prop := fnExactWarpPointUptoRow.holds Try.pinned (OpenSpec.upto fnExactWarpPointSpec)

/-- 'laws.FnExactFoldedCells', WHERE WHAT IT READS IS OF BULK AT MOST 1048576: true; the input reads as it did. -/
def fnExactFoldedCellsUptoRow : OpenClaim := { program := "ytbbkohpmncfilaa", sum := "56f65a60e11e082cd191533c76ad035124416b12effc1df4f8255c43f6e1171b", func := "loop.example/g00955/laws.FnExactFoldedCells", spec := "fnExactFoldedCells", unfollowed := true, recurses := true, apart := false, narrowed := true }
def FnExactFoldedCellsUptoSaid : Prop := fnExactFoldedCellsUptoRow.holds Try.pinned (OpenSpec.upto fnExactFoldedCellsSpec)

/-- 'laws.FnExactBlendMeshes', WHERE WHAT IT READS IS OF BULK AT MOST 1048576: true; the input reads as it did. -/
def fnExactBlendMeshesUptoRow : OpenClaim := { program := "ytbbkohpmncfilaa", sum := "56f65a60e11e082cd191533c76ad035124416b12effc1df4f8255c43f6e1171b", func := "loop.example/g00955/laws.FnExactBlendMeshes", spec := "fnExactBlendMeshes", unfollowed := true, recurses := true, apart := false, narrowed := true }
def FnExactBlendMeshesUptoSaid : Prop := fnExactBlendMeshesUptoRow.holds Try.pinned (OpenSpec.upto fnExactBlendMeshesSpec)

/-- 'laws.FnExactMirrorMesh', WHERE WHAT IT READS IS OF BULK AT MOST 1048576: true; the input reads as it did. -/
def fnExactMirrorMeshUptoRow : OpenClaim := { program := "ytbbkohpmncfilaa", sum := "56f65a60e11e082cd191533c76ad035124416b12effc1df4f8255c43f6e1171b", func := "loop.example/g00955/laws.FnExactMirrorMesh", spec := "fnExactMirrorMesh", unfollowed := true, recurses := true, apart := false, narrowed := true }
def FnExactMirrorMeshUptoSaid : Prop := fnExactMirrorMeshUptoRow.holds Try.pinned (OpenSpec.upto fnExactMirrorMeshSpec)

/-- 'laws.FnExactRefineMesh', WHERE WHAT IT READS IS OF BULK AT MOST 1048576: true; the input reads as it did. -/
def fnExactRefineMeshUptoRow : OpenClaim := { program := "ytbbkohpmncfilaa", sum := "56f65a60e11e082cd191533c76ad035124416b12effc1df4f8255c43f6e1171b", func := "loop.example/g00955/laws.FnExactRefineMesh", spec := "fnExactRefineMesh", unfollowed := true, recurses := true, apart := false, narrowed := true }
def FnExactRefineMeshUptoSaid : Prop := fnExactRefineMeshUptoRow.holds Try.pinned (OpenSpec.upto fnExactRefineMeshSpec)

/-- 'laws.FnExactMoveMeshPoint', WHERE WHAT IT READS IS OF BULK AT MOST 1048576: true; the input reads as it did. -/
def fnExactMoveMeshPointUptoRow : OpenClaim := { program := "ytbbkohpmncfilaa", sum := "56f65a60e11e082cd191533c76ad035124416b12effc1df4f8255c43f6e1171b", func := "loop.example/g00955/laws.FnExactMoveMeshPoint", spec := "fnExactMoveMeshPoint", unfollowed := true, recurses := true, apart := false, narrowed := true }
def FnExactMoveMeshPointUptoSaid : Prop := fnExactMoveMeshPointUptoRow.holds Try.pinned (OpenSpec.upto fnExactMoveMeshPointSpec)

/-- 'laws.FnExactGreatestMove', WHERE WHAT IT READS IS OF BULK AT MOST 1048576: true; the input reads as it did. -/
def fnExactGreatestMoveUptoRow : OpenClaim := { program := "ytbbkohpmncfilaa", sum := "56f65a60e11e082cd191533c76ad035124416b12effc1df4f8255c43f6e1171b", func := "loop.example/g00955/laws.FnExactGreatestMove", spec := "fnExactGreatestMove", unfollowed := true, recurses := true, apart := false, narrowed := true }
def FnExactGreatestMoveUptoSaid : Prop := fnExactGreatestMoveUptoRow.holds Try.pinned (OpenSpec.upto fnExactGreatestMoveSpec)

/-- 'laws.FnExactValidMasks', WHERE WHAT IT READS IS OF BULK AT MOST 1048576: true; the input reads as it did. -/
def fnExactValidMasksUptoRow : OpenClaim := { program := "ytbbkohpmncfilaa", sum := "56f65a60e11e082cd191533c76ad035124416b12effc1df4f8255c43f6e1171b", func := "loop.example/g00955/laws.FnExactValidMasks", spec := "fnExactValidMasks", unfollowed := true, recurses := true, apart := false, narrowed := true }
def FnExactValidMasksUptoSaid : Prop := fnExactValidMasksUptoRow.holds Try.pinned (OpenSpec.upto fnExactValidMasksSpec)

/-- 'laws.FnExactMaskAt', WHERE WHAT IT READS IS OF BULK AT MOST 1048576: true; the input reads as it did. -/
def fnExactMaskAtUptoRow : OpenClaim := { program := "ytbbkohpmncfilaa", sum := "56f65a60e11e082cd191533c76ad035124416b12effc1df4f8255c43f6e1171b", func := "loop.example/g00955/laws.FnExactMaskAt", spec := "fnExactMaskAt", unfollowed := true, recurses := true, apart := false, narrowed := true }
def FnExactMaskAtUptoSaid : Prop := fnExactMaskAtUptoRow.holds Try.pinned (OpenSpec.upto fnExactMaskAtSpec)

end Rows
end Go.Proofs.Ytbbkohpmncfilaa
