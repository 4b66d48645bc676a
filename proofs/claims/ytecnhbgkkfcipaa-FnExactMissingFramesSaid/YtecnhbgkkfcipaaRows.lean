/-
  No cell of these rows narrows 'for every input' (looked for: loops, veiled, ifaces, maps, wideKeys, modest, calm, conditions, laid).
  DERIVED. THE GIVEN ROWS OF THIS SEAT. 11 by the template 'for every input the law returns true; each argument reads behind the call as it read before'; 0 by the template 'total and deterministic' (their statements: YtecnhbgkkfcipaaTotals.lean).
  GIVEN WITH THE SEED: the statements are not yours to turn. If you find one false, say at which input.
  Laid BY PROGRAM, IN A SANDBOX (cutbox-rows.mjs): the forced cells as the released guide's own fill.sh prints them over the translation abdc5d57975cd1aa… (all of the seat's roots in one cut). By AI agents, Wed Nov 11 2026. No macro, syntax, notation, axiom, sorry.
-/
import Derived.Test.YtecnhbgkkfcipaaChecked
import GoSem.Claim
import GoSem.ClaimJoined
import GoSem.ClaimMapViews
import Derived.JoinedTies
import Derived.KernelRfl
namespace Go.Proofs.Ytecnhbgkkfcipaa
/- THE CELL 'sum', in the pinned program and in every row, IS THE sha256 OF THE DUMP (.gsa) THAT YtecnhbgkkfcipaaProg.lean LOADS. Nothing in Lean hashes anything: it is a label: what it is worth is what the hold of that sum in a sandbox is worth. -/
noncomputable def Try.pinned : Pinned := { name := "ytecnhbgkkfcipaa", sum := "abdc5d57975cd1aa7036cc288040db7282422e519a9416f7463ed747669fd4fe", checked := Try.checked }
namespace Rows
def none {H : Type} : Left H := { results := [], args := [] }

/-- 'laws.FnExactValidCode': WHATEVER THE INPUT: true; the input reads as it did. -/
def fnExactValidCodeSpec : ChangeSpec := { name := "fnExactValidCode", fn := fun _ => fun
  | [d] => { results := [.lit (.bool true)], args := [d] }
  | _ => none }
def fnExactValidCodeRow : OpenClaim := { program := "ytecnhbgkkfcipaa", sum := "abdc5d57975cd1aa7036cc288040db7282422e519a9416f7463ed747669fd4fe", func := "loop.example/g00955/laws.FnExactValidCode", spec := "fnExactValidCode", apart := false }
def FnExactValidCodeSaid : Prop := fnExactValidCodeRow.holds Try.pinned (OpenSpec.ofChange fnExactValidCodeSpec)

/-- ITS FALSE NEIGHBOUR: 'it returns false'. Refute it at one input. -/
def fnExactValidCodeWrong : ChangeSpec := { name := "fnExactValidCode", fn := fun _ => fun
  | [d] => { results := [.lit (.bool false)], args := [d] }
  | _ => none }
def FnExactValidCodeWrongFalsely : Prop := fnExactValidCodeRow.holds Try.pinned (OpenSpec.ofChange fnExactValidCodeWrong)

/-- 'laws.FnExactFrameOf': WHATEVER THE INPUT: true; the input reads as it did. -/
def fnExactFrameOfSpec : ChangeSpec := { name := "fnExactFrameOf", fn := fun _ => fun
  | [d] => { results := [.lit (.bool true)], args := [d] }
  | _ => none }
def fnExactFrameOfRow : OpenClaim := { program := "ytecnhbgkkfcipaa", sum := "abdc5d57975cd1aa7036cc288040db7282422e519a9416f7463ed747669fd4fe", func := "loop.example/g00955/laws.FnExactFrameOf", spec := "fnExactFrameOf", apart := false }
def FnExactFrameOfSaid : Prop := fnExactFrameOfRow.holds Try.pinned (OpenSpec.ofChange fnExactFrameOfSpec)

/-- ITS FALSE NEIGHBOUR: 'it returns false'. Refute it at one input. -/
def fnExactFrameOfWrong : ChangeSpec := { name := "fnExactFrameOf", fn := fun _ => fun
  | [d] => { results := [.lit (.bool false)], args := [d] }
  | _ => none }
def FnExactFrameOfWrongFalsely : Prop := fnExactFrameOfRow.holds Try.pinned (OpenSpec.ofChange fnExactFrameOfWrong)

/-- 'laws.FnExactCodeAt': WHATEVER THE INPUT: true; the input reads as it did. -/
def fnExactCodeAtSpec : ChangeSpec := { name := "fnExactCodeAt", fn := fun _ => fun
  | [d1, d2] => { results := [.lit (.bool true)], args := [d1, d2] }
  | _ => none }
def fnExactCodeAtRow : OpenClaim := { program := "ytecnhbgkkfcipaa", sum := "abdc5d57975cd1aa7036cc288040db7282422e519a9416f7463ed747669fd4fe", func := "loop.example/g00955/laws.FnExactCodeAt", spec := "fnExactCodeAt", unfollowed := true, recurses := true, apart := false }
def FnExactCodeAtSaid : Prop := fnExactCodeAtRow.holds Try.pinned (OpenSpec.ofChange fnExactCodeAtSpec)

/-- ITS FALSE NEIGHBOUR: 'it returns false'. Refute it at one input. -/
def fnExactCodeAtWrong : ChangeSpec := { name := "fnExactCodeAt", fn := fun _ => fun
  | [d1, d2] => { results := [.lit (.bool false)], args := [d1, d2] }
  | _ => none }
def FnExactCodeAtWrongFalsely : Prop := fnExactCodeAtRow.holds Try.pinned (OpenSpec.ofChange fnExactCodeAtWrong)

/-- 'laws.FnExactMilliOf': WHATEVER THE INPUT: true; the input reads as it did. -/
def fnExactMilliOfSpec : ChangeSpec := { name := "fnExactMilliOf", fn := fun _ => fun
  | [d1, d2] => { results := [.lit (.bool true)], args := [d1, d2] }
  | _ => none }
def fnExactMilliOfRow : OpenClaim := { program := "ytecnhbgkkfcipaa", sum := "abdc5d57975cd1aa7036cc288040db7282422e519a9416f7463ed747669fd4fe", func := "loop.example/g00955/laws.FnExactMilliOf", spec := "fnExactMilliOf", apart := false }
def FnExactMilliOfSaid : Prop := fnExactMilliOfRow.holds Try.pinned (OpenSpec.ofChange fnExactMilliOfSpec)

/-- ITS FALSE NEIGHBOUR: 'it returns false'. Refute it at one input. -/
def fnExactMilliOfWrong : ChangeSpec := { name := "fnExactMilliOf", fn := fun _ => fun
  | [d1, d2] => { results := [.lit (.bool false)], args := [d1, d2] }
  | _ => none }
def FnExactMilliOfWrongFalsely : Prop := fnExactMilliOfRow.holds Try.pinned (OpenSpec.ofChange fnExactMilliOfWrong)

/-- 'laws.FnExactFrameAt': WHATEVER THE INPUT: true; the input reads as it did. -/
def fnExactFrameAtSpec : ChangeSpec := { name := "fnExactFrameAt", fn := fun _ => fun
  | [d1, d2] => { results := [.lit (.bool true)], args := [d1, d2] }
  | _ => none }
def fnExactFrameAtRow : OpenClaim := { program := "ytecnhbgkkfcipaa", sum := "abdc5d57975cd1aa7036cc288040db7282422e519a9416f7463ed747669fd4fe", func := "loop.example/g00955/laws.FnExactFrameAt", spec := "fnExactFrameAt", apart := false }
def FnExactFrameAtSaid : Prop := fnExactFrameAtRow.holds Try.pinned (OpenSpec.ofChange fnExactFrameAtSpec)

/-- ITS FALSE NEIGHBOUR: 'it returns false'. Refute it at one input. -/
def fnExactFrameAtWrong : ChangeSpec := { name := "fnExactFrameAt", fn := fun _ => fun
  | [d1, d2] => { results := [.lit (.bool false)], args := [d1, d2] }
  | _ => none }
def FnExactFrameAtWrongFalsely : Prop := fnExactFrameAtRow.holds Try.pinned (OpenSpec.ofChange fnExactFrameAtWrong)

/-- 'laws.FnExactAddFrames': WHATEVER THE INPUT: true; the input reads as it did. -/
def fnExactAddFramesSpec : ChangeSpec := { name := "fnExactAddFrames", fn := fun _ => fun
  | [d1, d2] => { results := [.lit (.bool true)], args := [d1, d2] }
  | _ => none }
def fnExactAddFramesRow : OpenClaim := { program := "ytecnhbgkkfcipaa", sum := "abdc5d57975cd1aa7036cc288040db7282422e519a9416f7463ed747669fd4fe", func := "loop.example/g00955/laws.FnExactAddFrames", spec := "fnExactAddFrames", unfollowed := true, recurses := true, apart := false }
def FnExactAddFramesSaid : Prop := fnExactAddFramesRow.holds Try.pinned (OpenSpec.ofChange fnExactAddFramesSpec)

/-- ITS FALSE NEIGHBOUR: 'it returns false'. Refute it at one input. -/
def fnExactAddFramesWrong : ChangeSpec := { name := "fnExactAddFrames", fn := fun _ => fun
  | [d1, d2] => { results := [.lit (.bool false)], args := [d1, d2] }
  | _ => none }
def FnExactAddFramesWrongFalsely : Prop := fnExactAddFramesRow.holds Try.pinned (OpenSpec.ofChange fnExactAddFramesWrong)

/-- 'laws.FnExactFramesBetween': WHATEVER THE INPUT: true; the input reads as it did. -/
def fnExactFramesBetweenSpec : ChangeSpec := { name := "fnExactFramesBetween", fn := fun _ => fun
  | [d1, d2] => { results := [.lit (.bool true)], args := [d1, d2] }
  | _ => none }
def fnExactFramesBetweenRow : OpenClaim := { program := "ytecnhbgkkfcipaa", sum := "abdc5d57975cd1aa7036cc288040db7282422e519a9416f7463ed747669fd4fe", func := "loop.example/g00955/laws.FnExactFramesBetween", spec := "fnExactFramesBetween", apart := false }
def FnExactFramesBetweenSaid : Prop := fnExactFramesBetweenRow.holds Try.pinned (OpenSpec.ofChange fnExactFramesBetweenSpec)

/-- ITS FALSE NEIGHBOUR: 'it returns false'. Refute it at one input. -/
def fnExactFramesBetweenWrong : ChangeSpec := { name := "fnExactFramesBetween", fn := fun _ => fun
  | [d1, d2] => { results := [.lit (.bool false)], args := [d1, d2] }
  | _ => none }
def FnExactFramesBetweenWrongFalsely : Prop := fnExactFramesBetweenRow.holds Try.pinned (OpenSpec.ofChange fnExactFramesBetweenWrong)

/-- 'laws.FnExactConvertCode': WHATEVER THE INPUT: true; the input reads as it did. -/
def fnExactConvertCodeSpec : ChangeSpec := { name := "fnExactConvertCode", fn := fun _ => fun
  | [d1, d2] => { results := [.lit (.bool true)], args := [d1, d2] }
  | _ => none }
def fnExactConvertCodeRow : OpenClaim := { program := "ytecnhbgkkfcipaa", sum := "abdc5d57975cd1aa7036cc288040db7282422e519a9416f7463ed747669fd4fe", func := "loop.example/g00955/laws.FnExactConvertCode", spec := "fnExactConvertCode", unfollowed := true, recurses := true, apart := false }
def FnExactConvertCodeSaid : Prop := fnExactConvertCodeRow.holds Try.pinned (OpenSpec.ofChange fnExactConvertCodeSpec)

/-- ITS FALSE NEIGHBOUR: 'it returns false'. Refute it at one input. -/
def fnExactConvertCodeWrong : ChangeSpec := { name := "fnExactConvertCode", fn := fun _ => fun
  | [d1, d2] => { results := [.lit (.bool false)], args := [d1, d2] }
  | _ => none }
def FnExactConvertCodeWrongFalsely : Prop := fnExactConvertCodeRow.holds Try.pinned (OpenSpec.ofChange fnExactConvertCodeWrong)

/-- 'laws.FnExactDriftOf': WHATEVER THE INPUT: true; the input reads as it did. -/
def fnExactDriftOfSpec : ChangeSpec := { name := "fnExactDriftOf", fn := fun _ => fun
  | [d] => { results := [.lit (.bool true)], args := [d] }
  | _ => none }
def fnExactDriftOfRow : OpenClaim := { program := "ytecnhbgkkfcipaa", sum := "abdc5d57975cd1aa7036cc288040db7282422e519a9416f7463ed747669fd4fe", func := "loop.example/g00955/laws.FnExactDriftOf", spec := "fnExactDriftOf", unfollowed := true, recurses := true, apart := false }
def FnExactDriftOfSaid : Prop := fnExactDriftOfRow.holds Try.pinned (OpenSpec.ofChange fnExactDriftOfSpec)

/-- ITS FALSE NEIGHBOUR: 'it returns false'. Refute it at one input. -/
def fnExactDriftOfWrong : ChangeSpec := { name := "fnExactDriftOf", fn := fun _ => fun
  | [d] => { results := [.lit (.bool false)], args := [d] }
  | _ => none }
def FnExactDriftOfWrongFalsely : Prop := fnExactDriftOfRow.holds Try.pinned (OpenSpec.ofChange fnExactDriftOfWrong)

/-- 'laws.FnExactCorrectTime': WHATEVER THE INPUT: true; the input reads as it did. -/
def fnExactCorrectTimeSpec : ChangeSpec := { name := "fnExactCorrectTime", fn := fun _ => fun
  | [d1, d2, d3] => { results := [.lit (.bool true)], args := [d1, d2, d3] }
  | _ => none }
def fnExactCorrectTimeRow : OpenClaim := { program := "ytecnhbgkkfcipaa", sum := "abdc5d57975cd1aa7036cc288040db7282422e519a9416f7463ed747669fd4fe", func := "loop.example/g00955/laws.FnExactCorrectTime", spec := "fnExactCorrectTime", apart := false }
def FnExactCorrectTimeSaid : Prop := fnExactCorrectTimeRow.holds Try.pinned (OpenSpec.ofChange fnExactCorrectTimeSpec)

/-- ITS FALSE NEIGHBOUR: 'it returns false'. Refute it at one input. -/
def fnExactCorrectTimeWrong : ChangeSpec := { name := "fnExactCorrectTime", fn := fun _ => fun
  | [d1, d2, d3] => { results := [.lit (.bool false)], args := [d1, d2, d3] }
  | _ => none }
def FnExactCorrectTimeWrongFalsely : Prop := fnExactCorrectTimeRow.holds Try.pinned (OpenSpec.ofChange fnExactCorrectTimeWrong)

/-- 'laws.FnExactMissingFrames': WHATEVER THE INPUT: true; the input reads as it did. -/
def fnExactMissingFramesSpec : ChangeSpec := { name := "fnExactMissingFrames", fn := fun _ => fun
  | [d] => { results := [.lit (.bool true)], args := [d] }
  | _ => none }
def fnExactMissingFramesRow : OpenClaim := { program := "ytecnhbgkkfcipaa", sum := "abdc5d57975cd1aa7036cc288040db7282422e519a9416f7463ed747669fd4fe", func := "loop.example/g00955/laws.FnExactMissingFrames", spec := "fnExactMissingFrames", unfollowed := true, recurses := true, apart := false }
def FnExactMissingFramesSaid : Prop := fnExactMissingFramesRow.holds Try.pinned (OpenSpec.ofChange fnExactMissingFramesSpec)

/-- ITS FALSE NEIGHBOUR: 'it returns false'. Refute it at one input. -/
def fnExactMissingFramesWrong : ChangeSpec := { name := "fnExactMissingFrames", fn := fun _ => fun
  | [d] => { results := [.lit (.bool false)], args := [d] }
  | _ => none }
def FnExactMissingFramesWrongFalsely : Prop := fnExactMissingFramesRow.holds Try.pinned (OpenSpec.ofChange fnExactMissingFramesWrong)

/- THE SECOND FORM. 'bulk': how many values and letters a reading holds, each counted each time it is reached (what is shared counts as often as it is met; a slice's spare places count too). A statement '..UptoSaid' is the law's where the arguments, and the package variables that the reading takes, are together of bulk at most 1048576: NARROWER than '..Said'. Prove '..Said' where nothing that the law and all that it calls make is longer than what came in: it says more and counts as full. Else prove '..UptoSaid'. A law counts once. -/
mutual
def uptoBulk {H : Type} : DataW H → Nat
  | .lit (.string bytes) => bytes.length + 1
  | .lit _ => 1
  | .nil => 1
  | .ptr d => uptoBulk d + 1
  | .slice elems spare => uptoBulkAll elems + uptoBulkAll spare + 1
  | .agg parts => uptoBulkAll parts + 1
  | .iface _ d => uptoBulk d + 1
  | .map entries => uptoBulkEntries entries + 1
  | .held _ => 1
def uptoBulkAll {H : Type} : List (DataW H) → Nat
  | [] => 0
  | d :: r => uptoBulk d + uptoBulkAll r
def uptoBulkEntries {H : Type} : List (Lit × DataW H) → Nat
  | [] => 0
  | x :: r => uptoBulkEntry x + uptoBulkEntries r
def uptoBulkEntry {H : Type} : Lit × DataW H → Nat
  | (.string bytes, d) => bytes.length + uptoBulk d + 1
  | (_, d) => uptoBulk d + 1
 end
def uptoSmall : (H : Type) → List (DataW H) → Bool := fun _ ds => decide (uptoBulkAll ds ≤ 1048576)
def OpenSpec.upto (s : _root_.Go.ChangeSpec) : _root_.Go.OpenSpec := { _root_.Go.OpenSpec.ofChange s with cond := some uptoSmall }

/-- 'laws.FnExactValidCode', WHERE WHAT IT READS IS OF BULK AT MOST 1048576: true; the input reads as it did. -/
def fnExactValidCodeUptoRow : OpenClaim := { program := "ytecnhbgkkfcipaa", sum := "abdc5d57975cd1aa7036cc288040db7282422e519a9416f7463ed747669fd4fe", func := "loop.example/g00955/laws.FnExactValidCode", spec := "fnExactValidCode", apart := false, narrowed := true }
def FnExactValidCodeUptoSaid : Prop := fnExactValidCodeUptoRow.holds Try.pinned (OpenSpec.upto fnExactValidCodeSpec)

/-- 'laws.FnExactFrameOf', WHERE WHAT IT READS IS OF BULK AT MOST 1048576: true; the input reads as it did. -/
def fnExactFrameOfUptoRow : OpenClaim := { program := "ytecnhbgkkfcipaa", sum := "abdc5d57975cd1aa7036cc288040db7282422e519a9416f7463ed747669fd4fe", func := "loop.example/g00955/laws.FnExactFrameOf", spec := "fnExactFrameOf", apart := false, narrowed := true }
def FnExactFrameOfUptoSaid : Prop := fnExactFrameOfUptoRow.holds Try.pinned (OpenSpec.upto fnExactFrameOfSpec)

/-- 'laws.FnExactCodeAt', WHERE WHAT IT READS IS OF BULK AT MOST 1048576: true; the input reads as it did. -/
def fnExactCodeAtUptoRow : OpenClaim := { program := "ytecnhbgkkfcipaa", sum := "abdc5d57975cd1aa7036cc288040db7282422e519a9416f7463ed747669fd4fe", func := "loop.example/g00955/laws.FnExactCodeAt", spec := "fnExactCodeAt", unfollowed := true, recurses := true, apart := false, narrowed := true }
def FnExactCodeAtUptoSaid : Prop := fnExactCodeAtUptoRow.holds Try.pinned (OpenSpec.upto fnExactCodeAtSpec)

/-- 'laws.FnExactMilliOf', WHERE WHAT IT READS IS OF BULK AT MOST 1048576: true; the input reads as it did. -/
def fnExactMilliOfUptoRow : OpenClaim := { program := "ytecnhbgkkfcipaa", sum := "abdc5d57975cd1aa7036cc288040db7282422e519a9416f7463ed747669fd4fe", func := "loop.example/g00955/laws.FnExactMilliOf", spec := "fnExactMilliOf", apart := false, narrowed := true }
def FnExactMilliOfUptoSaid : Prop := fnExactMilliOfUptoRow.holds Try.pinned (OpenSpec.upto fnExactMilliOfSpec)

/-- 'laws.FnExactFrameAt', WHERE WHAT IT READS IS OF BULK AT MOST 1048576: true; the input reads as it did. -/
def fnExactFrameAtUptoRow : OpenClaim := { program := "ytecnhbgkkfcipaa", sum := "abdc5d57975cd1aa7036cc288040db7282422e519a9416f7463ed747669fd4fe", func := "loop.example/g00955/laws.FnExactFrameAt", spec := "fnExactFrameAt", apart := false, narrowed := true }
def FnExactFrameAtUptoSaid : Prop := fnExactFrameAtUptoRow.holds Try.pinned (OpenSpec.upto fnExactFrameAtSpec)

/-- 'laws.FnExactAddFrames', WHERE WHAT IT READS IS OF BULK AT MOST 1048576: true; the input reads as it did. -/
def fnExactAddFramesUptoRow : OpenClaim := { program := "ytecnhbgkkfcipaa", sum := "abdc5d57975cd1aa7036cc288040db7282422e519a9416f7463ed747669fd4fe", func := "loop.example/g00955/laws.FnExactAddFrames", spec := "fnExactAddFrames", unfollowed := true, recurses := true, apart := false, narrowed := true }
def FnExactAddFramesUptoSaid : Prop := fnExactAddFramesUptoRow.holds Try.pinned (OpenSpec.upto fnExactAddFramesSpec)

/-- 'laws.FnExactFramesBetween', WHERE WHAT IT READS IS OF BULK AT MOST 1048576: true; the input reads as it did. -/
def fnExactFramesBetweenUptoRow : OpenClaim := { program := "ytecnhbgkkfcipaa", sum := "abdc5d57975cd1aa7036cc288040db7282422e519a9416f7463ed747669fd4fe", func := "loop.example/g00955/laws.FnExactFramesBetween", spec := "fnExactFramesBetween", apart := false, narrowed := true }
def FnExactFramesBetweenUptoSaid : Prop := fnExactFramesBetweenUptoRow.holds Try.pinned (OpenSpec.upto fnExactFramesBetweenSpec)

/-- 'laws.FnExactConvertCode', WHERE WHAT IT READS IS OF BULK AT MOST 1048576: true; the input reads as it did. -/
def fnExactConvertCodeUptoRow : OpenClaim := { program := "ytecnhbgkkfcipaa", sum := "abdc5d57975cd1aa7036cc288040db7282422e519a9416f7463ed747669fd4fe", func := "loop.example/g00955/laws.FnExactConvertCode", spec := "fnExactConvertCode", unfollowed := true, recurses := true, apart := false, narrowed := true }
def FnExactConvertCodeUptoSaid : Prop := fnExactConvertCodeUptoRow.holds Try.pinned (OpenSpec.upto fnExactConvertCodeSpec)

/-- 'laws.FnExactDriftOf', WHERE WHAT IT READS IS OF BULK AT MOST 1048576: true; the input reads as it did. -/
def fnExactDriftOfUptoRow : OpenClaim := { program := "ytecnhbgkkfcipaa", sum := "abdc5d57975cd1aa7036cc288040db7282422e519a9416f7463ed747669fd4fe", func := "loop.example/g00955/laws.FnExactDriftOf", spec := "fnExactDriftOf", unfollowed := true, recurses := true, apart := false, narrowed := true }
def FnExactDriftOfUptoSaid : Prop := fnExactDriftOfUptoRow.holds Try.pinned (OpenSpec.upto fnExactDriftOfSpec)

/-- 'laws.FnExactCorrectTime', WHERE WHAT IT READS IS OF BULK AT MOST 1048576: true; the input reads as it did. -/
def fnExactCorrectTimeUptoRow : OpenClaim := { program := "ytecnhbgkkfcipaa", sum := "abdc5d57975cd1aa7036cc288040db7282422e519a9416f7463ed747669fd4fe", func := "loop.example/g00955/laws.FnExactCorrectTime", spec := "fnExactCorrectTime", apart := false, narrowed := true }
def FnExactCorrectTimeUptoSaid : Prop := fnExactCorrectTimeUptoRow.holds Try.pinned (OpenSpec.upto fnExactCorrectTimeSpec)

/-- 'laws.FnExactMissingFrames', WHERE WHAT IT READS IS OF BULK AT MOST 1048576: true; the input reads as it did. -/
def fnExactMissingFramesUptoRow : OpenClaim := { program := "ytecnhbgkkfcipaa", sum := "abdc5d57975cd1aa7036cc288040db7282422e519a9416f7463ed747669fd4fe", func := "loop.example/g00955/laws.FnExactMissingFrames", spec := "fnExactMissingFrames", unfollowed := true, recurses := true, apart := false, narrowed := true }
def FnExactMissingFramesUptoSaid : Prop := fnExactMissingFramesUptoRow.holds Try.pinned (OpenSpec.upto fnExactMissingFramesSpec)

end Rows
end Go.Proofs.Ytecnhbgkkfcipaa
