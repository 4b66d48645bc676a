/-
  No cell of these rows narrows 'for every input' (looked for: loops, veiled, ifaces, maps, wideKeys, modest, calm, conditions, laid).
  DERIVED. THE GIVEN ROWS OF THIS SEAT. 13 by the template 'for every input the law returns true; each argument reads behind the call as it read before'; 0 by the template 'total and deterministic' (their statements: YtdbocpcijkngpaaTotals.lean).
  GIVEN WITH THE SEED: the statements are not yours to turn. If you find one false, say at which input.
  Laid BY PROGRAM, IN A SANDBOX (cutbox-rows.mjs): the forced cells as the released guide's own fill.sh prints them over the translation b488c5046a346723… (all of the seat's roots in one cut). By AI agents, Wed Nov 11 2026. No macro, syntax, notation, axiom, sorry.
-/
import Derived.Test.YtdbocpcijkngpaaChecked
import GoSem.Claim
import GoSem.ClaimJoined
import GoSem.ClaimMapViews
import Derived.JoinedTies
import Derived.KernelRfl
namespace Go.Proofs.Ytdbocpcijkngpaa
/- THE CELL 'sum', in the pinned program and in every row, IS THE sha256 OF THE DUMP (.gsa) THAT YtdbocpcijkngpaaProg.lean LOADS. Nothing in Lean hashes anything: it is a label: what it is worth is what the hold of that sum in a sandbox is worth. -/
noncomputable def Try.pinned : Pinned := { name := "ytdbocpcijkngpaa", sum := "b488c5046a34672391b0caa67f1d49d0e567f229caf07f0121165e12b92c10d1", checked := Try.checked }
namespace Rows
def none {H : Type} : Left H := { results := [], args := [] }

/-- 'laws.FnExactValidTrack': WHATEVER THE INPUT: true; the input reads as it did. -/
def fnExactValidTrackSpec : ChangeSpec := { name := "fnExactValidTrack", fn := fun _ => fun
  | [d] => { results := [.lit (.bool true)], args := [d] }
  | _ => none }
def fnExactValidTrackRow : OpenClaim := { program := "ytdbocpcijkngpaa", sum := "b488c5046a34672391b0caa67f1d49d0e567f229caf07f0121165e12b92c10d1", func := "loop.example/g00955/laws.FnExactValidTrack", spec := "fnExactValidTrack", unfollowed := true, recurses := true, apart := false }
def FnExactValidTrackSaid : Prop := fnExactValidTrackRow.holds Try.pinned (OpenSpec.ofChange fnExactValidTrackSpec)

/-- ITS FALSE NEIGHBOUR: 'it returns false'. Refute it at one input. -/
def fnExactValidTrackWrong : ChangeSpec := { name := "fnExactValidTrack", fn := fun _ => fun
  | [d] => { results := [.lit (.bool false)], args := [d] }
  | _ => none }
def FnExactValidTrackWrongFalsely : Prop := fnExactValidTrackRow.holds Try.pinned (OpenSpec.ofChange fnExactValidTrackWrong)

/-- 'laws.FnExactValidTracks': WHATEVER THE INPUT: true; the input reads as it did. -/
def fnExactValidTracksSpec : ChangeSpec := { name := "fnExactValidTracks", fn := fun _ => fun
  | [d] => { results := [.lit (.bool true)], args := [d] }
  | _ => none }
def fnExactValidTracksRow : OpenClaim := { program := "ytdbocpcijkngpaa", sum := "b488c5046a34672391b0caa67f1d49d0e567f229caf07f0121165e12b92c10d1", func := "loop.example/g00955/laws.FnExactValidTracks", spec := "fnExactValidTracks", unfollowed := true, recurses := true, apart := false }
def FnExactValidTracksSaid : Prop := fnExactValidTracksRow.holds Try.pinned (OpenSpec.ofChange fnExactValidTracksSpec)

/-- ITS FALSE NEIGHBOUR: 'it returns false'. Refute it at one input. -/
def fnExactValidTracksWrong : ChangeSpec := { name := "fnExactValidTracks", fn := fun _ => fun
  | [d] => { results := [.lit (.bool false)], args := [d] }
  | _ => none }
def FnExactValidTracksWrongFalsely : Prop := fnExactValidTracksRow.holds Try.pinned (OpenSpec.ofChange fnExactValidTracksWrong)

/-- 'laws.FnExactSameTrack': WHATEVER THE INPUT: true; the input reads as it did. -/
def fnExactSameTrackSpec : ChangeSpec := { name := "fnExactSameTrack", fn := fun _ => fun
  | [d1, d2] => { results := [.lit (.bool true)], args := [d1, d2] }
  | _ => none }
def fnExactSameTrackRow : OpenClaim := { program := "ytdbocpcijkngpaa", sum := "b488c5046a34672391b0caa67f1d49d0e567f229caf07f0121165e12b92c10d1", func := "loop.example/g00955/laws.FnExactSameTrack", spec := "fnExactSameTrack", apart := false }
def FnExactSameTrackSaid : Prop := fnExactSameTrackRow.holds Try.pinned (OpenSpec.ofChange fnExactSameTrackSpec)

/-- ITS FALSE NEIGHBOUR: 'it returns false'. Refute it at one input. -/
def fnExactSameTrackWrong : ChangeSpec := { name := "fnExactSameTrack", fn := fun _ => fun
  | [d1, d2] => { results := [.lit (.bool false)], args := [d1, d2] }
  | _ => none }
def FnExactSameTrackWrongFalsely : Prop := fnExactSameTrackRow.holds Try.pinned (OpenSpec.ofChange fnExactSameTrackWrong)

/-- 'laws.FnExactValueAt': WHATEVER THE INPUT: true; the input reads as it did. -/
def fnExactValueAtSpec : ChangeSpec := { name := "fnExactValueAt", fn := fun _ => fun
  | [d1, d2] => { results := [.lit (.bool true)], args := [d1, d2] }
  | _ => none }
def fnExactValueAtRow : OpenClaim := { program := "ytdbocpcijkngpaa", sum := "b488c5046a34672391b0caa67f1d49d0e567f229caf07f0121165e12b92c10d1", func := "loop.example/g00955/laws.FnExactValueAt", spec := "fnExactValueAt", unfollowed := true, recurses := true, apart := false }
def FnExactValueAtSaid : Prop := fnExactValueAtRow.holds Try.pinned (OpenSpec.ofChange fnExactValueAtSpec)

/-- ITS FALSE NEIGHBOUR: 'it returns false'. Refute it at one input. -/
def fnExactValueAtWrong : ChangeSpec := { name := "fnExactValueAt", fn := fun _ => fun
  | [d1, d2] => { results := [.lit (.bool false)], args := [d1, d2] }
  | _ => none }
def FnExactValueAtWrongFalsely : Prop := fnExactValueAtRow.holds Try.pinned (OpenSpec.ofChange fnExactValueAtWrong)

/-- 'laws.FnExactSetKey': WHATEVER THE INPUT: true; the input reads as it did. -/
def fnExactSetKeySpec : ChangeSpec := { name := "fnExactSetKey", fn := fun _ => fun
  | [d1, d2] => { results := [.lit (.bool true)], args := [d1, d2] }
  | _ => none }
def fnExactSetKeyRow : OpenClaim := { program := "ytdbocpcijkngpaa", sum := "b488c5046a34672391b0caa67f1d49d0e567f229caf07f0121165e12b92c10d1", func := "loop.example/g00955/laws.FnExactSetKey", spec := "fnExactSetKey", unfollowed := true, recurses := true, apart := false }
def FnExactSetKeySaid : Prop := fnExactSetKeyRow.holds Try.pinned (OpenSpec.ofChange fnExactSetKeySpec)

/-- ITS FALSE NEIGHBOUR: 'it returns false'. Refute it at one input. -/
def fnExactSetKeyWrong : ChangeSpec := { name := "fnExactSetKey", fn := fun _ => fun
  | [d1, d2] => { results := [.lit (.bool false)], args := [d1, d2] }
  | _ => none }
def FnExactSetKeyWrongFalsely : Prop := fnExactSetKeyRow.holds Try.pinned (OpenSpec.ofChange fnExactSetKeyWrong)

/-- 'laws.FnExactDropKey': WHATEVER THE INPUT: true; the input reads as it did. -/
def fnExactDropKeySpec : ChangeSpec := { name := "fnExactDropKey", fn := fun _ => fun
  | [d1, d2] => { results := [.lit (.bool true)], args := [d1, d2] }
  | _ => none }
def fnExactDropKeyRow : OpenClaim := { program := "ytdbocpcijkngpaa", sum := "b488c5046a34672391b0caa67f1d49d0e567f229caf07f0121165e12b92c10d1", func := "loop.example/g00955/laws.FnExactDropKey", spec := "fnExactDropKey", unfollowed := true, recurses := true, apart := false }
def FnExactDropKeySaid : Prop := fnExactDropKeyRow.holds Try.pinned (OpenSpec.ofChange fnExactDropKeySpec)

/-- ITS FALSE NEIGHBOUR: 'it returns false'. Refute it at one input. -/
def fnExactDropKeyWrong : ChangeSpec := { name := "fnExactDropKey", fn := fun _ => fun
  | [d1, d2] => { results := [.lit (.bool false)], args := [d1, d2] }
  | _ => none }
def FnExactDropKeyWrongFalsely : Prop := fnExactDropKeyRow.holds Try.pinned (OpenSpec.ofChange fnExactDropKeyWrong)

/-- 'laws.FnExactShiftTrack': WHATEVER THE INPUT: true; the input reads as it did. -/
def fnExactShiftTrackSpec : ChangeSpec := { name := "fnExactShiftTrack", fn := fun _ => fun
  | [d1, d2] => { results := [.lit (.bool true)], args := [d1, d2] }
  | _ => none }
def fnExactShiftTrackRow : OpenClaim := { program := "ytdbocpcijkngpaa", sum := "b488c5046a34672391b0caa67f1d49d0e567f229caf07f0121165e12b92c10d1", func := "loop.example/g00955/laws.FnExactShiftTrack", spec := "fnExactShiftTrack", unfollowed := true, recurses := true, apart := false }
def FnExactShiftTrackSaid : Prop := fnExactShiftTrackRow.holds Try.pinned (OpenSpec.ofChange fnExactShiftTrackSpec)

/-- ITS FALSE NEIGHBOUR: 'it returns false'. Refute it at one input. -/
def fnExactShiftTrackWrong : ChangeSpec := { name := "fnExactShiftTrack", fn := fun _ => fun
  | [d1, d2] => { results := [.lit (.bool false)], args := [d1, d2] }
  | _ => none }
def FnExactShiftTrackWrongFalsely : Prop := fnExactShiftTrackRow.holds Try.pinned (OpenSpec.ofChange fnExactShiftTrackWrong)

/-- 'laws.FnExactStretchTrack': WHATEVER THE INPUT: true; the input reads as it did. -/
def fnExactStretchTrackSpec : ChangeSpec := { name := "fnExactStretchTrack", fn := fun _ => fun
  | [d1, d2, d3] => { results := [.lit (.bool true)], args := [d1, d2, d3] }
  | _ => none }
def fnExactStretchTrackRow : OpenClaim := { program := "ytdbocpcijkngpaa", sum := "b488c5046a34672391b0caa67f1d49d0e567f229caf07f0121165e12b92c10d1", func := "loop.example/g00955/laws.FnExactStretchTrack", spec := "fnExactStretchTrack", unfollowed := true, recurses := true, apart := false }
def FnExactStretchTrackSaid : Prop := fnExactStretchTrackRow.holds Try.pinned (OpenSpec.ofChange fnExactStretchTrackSpec)

/-- ITS FALSE NEIGHBOUR: 'it returns false'. Refute it at one input. -/
def fnExactStretchTrackWrong : ChangeSpec := { name := "fnExactStretchTrack", fn := fun _ => fun
  | [d1, d2, d3] => { results := [.lit (.bool false)], args := [d1, d2, d3] }
  | _ => none }
def FnExactStretchTrackWrongFalsely : Prop := fnExactStretchTrackRow.holds Try.pinned (OpenSpec.ofChange fnExactStretchTrackWrong)

/-- 'laws.FnExactCutTrack': WHATEVER THE INPUT: true; the input reads as it did. -/
def fnExactCutTrackSpec : ChangeSpec := { name := "fnExactCutTrack", fn := fun _ => fun
  | [d1, d2, d3] => { results := [.lit (.bool true)], args := [d1, d2, d3] }
  | _ => none }
def fnExactCutTrackRow : OpenClaim := { program := "ytdbocpcijkngpaa", sum := "b488c5046a34672391b0caa67f1d49d0e567f229caf07f0121165e12b92c10d1", func := "loop.example/g00955/laws.FnExactCutTrack", spec := "fnExactCutTrack", unfollowed := true, recurses := true, apart := false }
def FnExactCutTrackSaid : Prop := fnExactCutTrackRow.holds Try.pinned (OpenSpec.ofChange fnExactCutTrackSpec)

/-- ITS FALSE NEIGHBOUR: 'it returns false'. Refute it at one input. -/
def fnExactCutTrackWrong : ChangeSpec := { name := "fnExactCutTrack", fn := fun _ => fun
  | [d1, d2, d3] => { results := [.lit (.bool false)], args := [d1, d2, d3] }
  | _ => none }
def FnExactCutTrackWrongFalsely : Prop := fnExactCutTrackRow.holds Try.pinned (OpenSpec.ofChange fnExactCutTrackWrong)

/-- 'laws.FnExactJoinTracks': WHATEVER THE INPUT: true; the input reads as it did. -/
def fnExactJoinTracksSpec : ChangeSpec := { name := "fnExactJoinTracks", fn := fun _ => fun
  | [d1, d2, d3] => { results := [.lit (.bool true)], args := [d1, d2, d3] }
  | _ => none }
def fnExactJoinTracksRow : OpenClaim := { program := "ytdbocpcijkngpaa", sum := "b488c5046a34672391b0caa67f1d49d0e567f229caf07f0121165e12b92c10d1", func := "loop.example/g00955/laws.FnExactJoinTracks", spec := "fnExactJoinTracks", unfollowed := true, recurses := true, apart := false }
def FnExactJoinTracksSaid : Prop := fnExactJoinTracksRow.holds Try.pinned (OpenSpec.ofChange fnExactJoinTracksSpec)

/-- ITS FALSE NEIGHBOUR: 'it returns false'. Refute it at one input. -/
def fnExactJoinTracksWrong : ChangeSpec := { name := "fnExactJoinTracks", fn := fun _ => fun
  | [d1, d2, d3] => { results := [.lit (.bool false)], args := [d1, d2, d3] }
  | _ => none }
def FnExactJoinTracksWrongFalsely : Prop := fnExactJoinTracksRow.holds Try.pinned (OpenSpec.ofChange fnExactJoinTracksWrong)

/-- 'laws.FnExactFastestOf': WHATEVER THE INPUT: true; the input reads as it did. -/
def fnExactFastestOfSpec : ChangeSpec := { name := "fnExactFastestOf", fn := fun _ => fun
  | [d] => { results := [.lit (.bool true)], args := [d] }
  | _ => none }
def fnExactFastestOfRow : OpenClaim := { program := "ytdbocpcijkngpaa", sum := "b488c5046a34672391b0caa67f1d49d0e567f229caf07f0121165e12b92c10d1", func := "loop.example/g00955/laws.FnExactFastestOf", spec := "fnExactFastestOf", unfollowed := true, recurses := true, apart := false }
def FnExactFastestOfSaid : Prop := fnExactFastestOfRow.holds Try.pinned (OpenSpec.ofChange fnExactFastestOfSpec)

/-- ITS FALSE NEIGHBOUR: 'it returns false'. Refute it at one input. -/
def fnExactFastestOfWrong : ChangeSpec := { name := "fnExactFastestOf", fn := fun _ => fun
  | [d] => { results := [.lit (.bool false)], args := [d] }
  | _ => none }
def FnExactFastestOfWrongFalsely : Prop := fnExactFastestOfRow.holds Try.pinned (OpenSpec.ofChange fnExactFastestOfWrong)

/-- 'laws.FnExactSlowTrack': WHATEVER THE INPUT: true; the input reads as it did. -/
def fnExactSlowTrackSpec : ChangeSpec := { name := "fnExactSlowTrack", fn := fun _ => fun
  | [d1, d2] => { results := [.lit (.bool true)], args := [d1, d2] }
  | _ => none }
def fnExactSlowTrackRow : OpenClaim := { program := "ytdbocpcijkngpaa", sum := "b488c5046a34672391b0caa67f1d49d0e567f229caf07f0121165e12b92c10d1", func := "loop.example/g00955/laws.FnExactSlowTrack", spec := "fnExactSlowTrack", unfollowed := true, recurses := true, apart := false }
def FnExactSlowTrackSaid : Prop := fnExactSlowTrackRow.holds Try.pinned (OpenSpec.ofChange fnExactSlowTrackSpec)

/-- ITS FALSE NEIGHBOUR: 'it returns false'. Refute it at one input. -/
def fnExactSlowTrackWrong : ChangeSpec := { name := "fnExactSlowTrack", fn := fun _ => fun
  | [d1, d2] => { results := [.lit (.bool false)], args := [d1, d2] }
  | _ => none }
def FnExactSlowTrackWrongFalsely : Prop := fnExactSlowTrackRow.holds Try.pinned (OpenSpec.ofChange fnExactSlowTrackWrong)

/-- 'laws.FnExactNeedlessKeys': WHATEVER THE INPUT: true; the input reads as it did. -/
def fnExactNeedlessKeysSpec : ChangeSpec := { name := "fnExactNeedlessKeys", fn := fun _ => fun
  | [d] => { results := [.lit (.bool true)], args := [d] }
  | _ => none }
def fnExactNeedlessKeysRow : OpenClaim := { program := "ytdbocpcijkngpaa", sum := "b488c5046a34672391b0caa67f1d49d0e567f229caf07f0121165e12b92c10d1", func := "loop.example/g00955/laws.FnExactNeedlessKeys", spec := "fnExactNeedlessKeys", unfollowed := true, recurses := true, apart := false }
def FnExactNeedlessKeysSaid : Prop := fnExactNeedlessKeysRow.holds Try.pinned (OpenSpec.ofChange fnExactNeedlessKeysSpec)

/-- ITS FALSE NEIGHBOUR: 'it returns false'. Refute it at one input. -/
def fnExactNeedlessKeysWrong : ChangeSpec := { name := "fnExactNeedlessKeys", fn := fun _ => fun
  | [d] => { results := [.lit (.bool false)], args := [d] }
  | _ => none }
def FnExactNeedlessKeysWrongFalsely : Prop := fnExactNeedlessKeysRow.holds Try.pinned (OpenSpec.ofChange fnExactNeedlessKeysWrong)

/- THE SECOND FORM. 'bulk': how many values and letters a reading holds, each counted each time it is reached (what is shared counts as often as it is met; a slice's spare places count too). A statement '..UptoSaid' is the law's where the arguments, and the package variables that the reading takes, are together of bulk at most 1048576: NARROWER than '..Said'. Prove '..Said' where nothing that the law and all that it calls make is longer than what came in: it says more and counts as full. Else prove '..UptoSaid'. A law counts once. -/
mutual
def uptoBulk {H : Type} : DataW H → Nat
  | .lit (.string bytes) => bytes.length + 1
  | .lit _ => 1
  | .nil => 1
  | .ptr d => uptoBulk d + 1
  | .slice elems spare => uptoBulkAll elems + uptoBulkAll spare + 1
  | .agg parts => uptoBulkAll parts + 1
  | .iface _ d => uptoBulk d + 1
  | .map entries => uptoBulkEntries entries + 1
  | .held _ => 1
def uptoBulkAll {H : Type} : List (DataW H) → Nat
  | [] => 0
  | d :: r => uptoBulk d + uptoBulkAll r
def uptoBulkEntries {H : Type} : List (Lit × DataW H) → Nat
  | [] => 0
  | x :: r => uptoBulkEntry x + uptoBulkEntries r
def uptoBulkEntry {H : Type} : Lit × DataW H → Nat
  | (.string bytes, d) => bytes.length + uptoBulk d + 1
  | (_, d) => uptoBulk d + 1
 end
def uptoSmall : (H : Type) → List (DataW H) → Bool := fun _ ds => decide (uptoBulkAll ds ≤ 1048576)
def OpenSpec.upto (s : _root_.Go.ChangeSpec) : _root_.Go.OpenSpec := { _root_.Go.OpenSpec.ofChange s with cond := some uptoSmall }

/-- 'laws.FnExactValidTrack', WHERE WHAT IT READS IS OF BULK AT MOST 1048576: true; the input reads as it did. -/
def fnExactValidTrackUptoRow : OpenClaim := { program := "ytdbocpcijkngpaa", sum := "b488c5046a34672391b0caa67f1d49d0e567f229caf07f0121165e12b92c10d1", func := "loop.example/g00955/laws.FnExactValidTrack", spec := "fnExactValidTrack", unfollowed := true, recurses := true, apart := false, narrowed := true }
def FnExactValidTrackUptoSaid : Prop := fnExactValidTrackUptoRow.holds Try.pinned (OpenSpec.upto fnExactValidTrackSpec)

/-- 'laws.FnExactValidTracks', WHERE WHAT IT READS IS OF BULK AT MOST 1048576: true; the input reads as it did. -/
def fnExactValidTracksUptoRow : OpenClaim := { program := "ytdbocpcijkngpaa", sum := "b488c5046a34672391b0caa67f1d49d0e567f229caf07f0121165e12b92c10d1", func := "loop.example/g00955/laws.FnExactValidTracks", spec := "fnExactValidTracks", unfollowed := true, recurses := true, apart := false, narrowed := true }
def FnExactValidTracksUptoSaid : Prop := fnExactValidTracksUptoRow.holds Try.pinned (OpenSpec.upto fnExactValidTracksSpec)

/-- 'laws.FnExactSameTrack', WHERE WHAT IT READS IS OF BULK AT MOST 1048576: true; the input reads as it did. -/
def fnExactSameTrackUptoRow : OpenClaim := { program := "ytdbocpcijkngpaa", sum := "b488c5046a34672391b0caa67f1d49d0e567f229caf07f0121165e12b92c10d1", func := "loop.example/g00955/laws.FnExactSameTrack", spec := "fnExactSameTrack", apart := false, narrowed := true }
def FnExactSameTrackUptoSaid : Prop := fnExactSameTrackUptoRow.holds Try.pinned (OpenSpec.upto fnExactSameTrackSpec)

/-- 'laws.FnExactValueAt', WHERE WHAT IT READS IS OF BULK AT MOST 1048576: true; the input reads as it did. -/
def fnExactValueAtUptoRow : OpenClaim := { program := "ytdbocpcijkngpaa", sum := "b488c5046a34672391b0caa67f1d49d0e567f229caf07f0121165e12b92c10d1", func := "loop.example/g00955/laws.FnExactValueAt", spec := "fnExactValueAt", unfollowed := true, recurses := true, apart := false, narrowed := true }
def FnExactValueAtUptoSaid : Prop := fnExactValueAtUptoRow.holds Try.pinned (OpenSpec.upto fnExactValueAtSpec)

/-- 'laws.FnExactSetKey', WHERE WHAT IT READS IS OF BULK AT MOST 1048576: true; the input reads as it did. -/
def fnExactSetKeyUptoRow : OpenClaim := { program := "ytdbocpcijkngpaa", sum := "b488c5046a34672391b0caa67f1d49d0e567f229caf07f0121165e12b92c10d1", func := "loop.example/g00955/laws.FnExactSetKey", spec := "fnExactSetKey", unfollowed := true, recurses := true, apart := false, narrowed := true }
def FnExactSetKeyUptoSaid : Prop := fnExactSetKeyUptoRow.holds Try.pinned (OpenSpec.upto fnExactSetKeySpec)

/-- 'laws.FnExactDropKey', WHERE WHAT IT READS IS OF BULK AT MOST 1048576: true; the input reads as it did. -/
def fnExactDropKeyUptoRow : OpenClaim := { program := "ytdbocpcijkngpaa", sum := "b488c5046a34672391b0caa67f1d49d0e567f229caf07f0121165e12b92c10d1", func := "loop.example/g00955/laws.FnExactDropKey", spec := "fnExactDropKey", unfollowed := true, recurses := true, apart := false, narrowed := true }
def FnExactDropKeyUptoSaid : Prop := fnExactDropKeyUptoRow.holds Try.pinned (OpenSpec.upto fnExactDropKeySpec)

/-- 'laws.FnExactShiftTrack', WHERE WHAT IT READS IS OF BULK AT MOST 1048576: true; the input reads as it did. -/
def fnExactShiftTrackUptoRow : OpenClaim := { program := "ytdbocpcijkngpaa", sum := "b488c5046a34672391b0caa67f1d49d0e567f229caf07f0121165e12b92c10d1", func := "loop.example/g00955/laws.FnExactShiftTrack", spec := "fnExactShiftTrack", unfollowed := true, recurses := true, apart := false, narrowed := true }
def FnExactShiftTrackUptoSaid : Prop := fnExactShiftTrackUptoRow.holds Try.pinned (OpenSpec.upto fnExactShiftTrackSpec)

/-- 'laws.FnExactStretchTrack', WHERE WHAT IT READS IS OF BULK AT MOST 1048576: true; the input reads as it did. -/
def fnExactStretchTrackUptoRow : OpenClaim := { program := "ytdbocpcijkngpaa", sum := "b488c5046a34672391b0caa67f1d49d0e567f229caf07f0121165e12b92c10d1", func := "loop.example/g00955/laws.FnExactStretchTrack", spec := "fnExactStretchTrack", unfollowed := true, recurses := true, apart := false, narrowed := true }
def FnExactStretchTrackUptoSaid : Prop := fnExactStretchTrackUptoRow.holds Try.pinned (OpenSpec.upto fnExactStretchTrackSpec)

/-- 'laws.FnExactCutTrack', WHERE WHAT IT READS IS OF BULK AT MOST 1048576: true; the input reads as it did. -/
def fnExactCutTrackUptoRow : OpenClaim := { program := "ytdbocpcijkngpaa", sum := "b488c5046a34672391b0caa67f1d49d0e567f229caf07f0121165e12b92c10d1", func := "loop.example/g00955/laws.FnExactCutTrack", spec := "fnExactCutTrack", unfollowed := true, recurses := true, apart := false, narrowed := true }
def FnExactCutTrackUptoSaid : Prop := fnExactCutTrackUptoRow.holds Try.pinned (OpenSpec.upto fnExactCutTrackSpec)

/-- 'laws.FnExactJoinTracks', WHERE WHAT IT READS IS OF BULK AT MOST 1048576: true; the input reads as it did. -/
def fnExactJoinTracksUptoRow : OpenClaim := { program := "ytdbocpcijkngpaa", sum := "b488c5046a34672391b0caa67f1d49d0e567f229caf07f0121165e12b92c10d1", func := "loop.example/g00955/laws.FnExactJoinTracks", spec := "fnExactJoinTracks", unfollowed := true, recurses := true, apart := false, narrowed := true }
def FnExactJoinTracksUptoSaid : Prop := fnExactJoinTracksUptoRow.holds Try.pinned (OpenSpec.upto fnExactJoinTracksSpec)

/-- 'laws.FnExactFastestOf', WHERE WHAT IT READS IS OF BULK AT MOST 1048576: true; the input reads as it did. -/
def fnExactFastestOfUptoRow : OpenClaim := { program := "ytdbocpcijkngpaa", sum := "b488c5046a34672391b0caa67f1d49d0e567f229caf07f0121165e12b92c10d1", func := "loop.example/g00955/laws.FnExactFastestOf", spec := "fnExactFastestOf", unfollowed := true, recurses := true, apart := false, narrowed := true }
def FnExactFastestOfUptoSaid : Prop := fnExactFastestOfUptoRow.holds Try.pinned (OpenSpec.upto fnExactFastestOfSpec)

/-- 'laws.FnExactSlowTrack', WHERE WHAT IT READS IS OF BULK AT MOST 1048576: true; the input reads as it did. -/
def fnExactSlowTrackUptoRow : OpenClaim := { program := "ytdbocpcijkngpaa", sum := "b488c5046a34672391b0caa67f1d49d0e567f229caf07f0121165e12b92c10d1", func := "loop.example/g00955/laws.FnExactSlowTrack", spec := "fnExactSlowTrack", unfollowed := true, recurses := true, apart := false, narrowed := true }
def FnExactSlowTrackUptoSaid : Prop := fnExactSlowTrackUptoRow.holds Try.pinned (OpenSpec.upto fnExactSlowTrackSpec)

/-- 'laws.FnExactNeedlessKeys', WHERE WHAT IT READS IS OF BULK AT MOST 1048576: true; the input reads as it did. -/
def fnExactNeedlessKeysUptoRow : OpenClaim := { program := "ytdbocpcijkngpaa", sum := "b488c5046a34672391b0caa67f1d49d0e567f229caf07f0121165e12b92c10d1", func := "loop.example/g00955/laws.FnExactNeedlessKeys", spec := "fnExactNeedlessKeys", unfollowed := true, recurses := true, apart := false, narrowed := true }
def FnExactNeedlessKeysUptoSaid : Prop := fnExactNeedlessKeysUptoRow.holds Try.pinned (OpenSpec.upto fnExactNeedlessKeysSpec)

end Rows
end Go.Proofs.Ytdbocpcijkngpaa
