/-
  NARROWER THAN 'FOR EVERY INPUT', by the rows' own cells (each row's printed sentence says how): FnExactDirectionOf: laid · FnExactAnglesOf: laid · FnExactSeparation: laid · FnExactRotateAround: laid · FnExactArcTangent: laid · FnExactMeanAngle: laid.
  DERIVED. THE GIVEN ROWS OF THIS SEAT. 6 by the template 'for every input the law returns true; each argument reads behind the call as it read before'; 0 by the template 'total and deterministic' (their statements: YtcaddlgilmncoaaDoorTotals.lean).
  GIVEN WITH THE SEED: the statements are not yours to turn. If you find one false, say at which input.
  Laid BY PROGRAM, IN A SANDBOX (cutbox-rows.mjs): the forced cells as the released guide's own fill.sh prints them over the translation 7454907047bf4d23… (all of the seat's roots in one cut). By AI agents, Wed Nov 11 2026. No macro, syntax, notation, axiom, sorry.
-/
import Derived.Test.YtcaddlgilmncoaaDoorChecked
import GoSem.Claim
import GoSem.ClaimJoined
import GoSem.ClaimMapViews
import Derived.JoinedTies
import Derived.KernelRfl
namespace Go.Proofs.YtcaddlgilmncoaaDoor
/- THE CELL 'sum', in the pinned program and in every row, IS THE sha256 OF THE DUMP (.gsa) THAT YtcaddlgilmncoaaDoorProg.lean LOADS. Nothing in Lean hashes anything: it is a label: what it is worth is what the hold of that sum in a sandbox is worth. -/
noncomputable def Tryd.pinned : Pinned := { name := "ytcaddlgilmncoaadoor", sum := "7454907047bf4d238b4dfe59936d5cdbdee2bd8a808e976535d043b97e00db9a", checked := Tryd.checked }
namespace Rows
def none {H : Type} : Left H := { results := [], args := [] }

/- WHAT THE LISTED PACKAGE-LEVEL VARIABLES READ AS WHEN THE CALL BEGINS. Each datum BY PROGRAM (the guide's laid-datum.mjs) off the statement by which the dump's own 'gosem.cut.vars' lays the variable. In a bare row this is a premise. The card (YtcaddlgilmncoaaDoorCards.lean) ties it to the program's text. -/
def laid_loop_example_g00955_impl_sines {H : Type} : DataW H := .agg [.lit (.int .i64 0), .lit (.int .i64 17452), .lit (.int .i64 34899), .lit (.int .i64 52336), .lit (.int .i64 69756), .lit (.int .i64 87156), .lit (.int .i64 104528), .lit (.int .i64 121869), .lit (.int .i64 139173), .lit (.int .i64 156434), .lit (.int .i64 173648), .lit (.int .i64 190809), .lit (.int .i64 207912), .lit (.int .i64 224951), .lit (.int .i64 241922), .lit (.int .i64 258819), .lit (.int .i64 275637), .lit (.int .i64 292372), .lit (.int .i64 309017), .lit (.int .i64 325568), .lit (.int .i64 342020), .lit (.int .i64 358368), .lit (.int .i64 374607), .lit (.int .i64 390731), .lit (.int .i64 406737), .lit (.int .i64 422618), .lit (.int .i64 438371), .lit (.int .i64 453990), .lit (.int .i64 469472), .lit (.int .i64 484810), .lit (.int .i64 500000), .lit (.int .i64 515038), .lit (.int .i64 529919), .lit (.int .i64 544639), .lit (.int .i64 559193), .lit (.int .i64 573576), .lit (.int .i64 587785), .lit (.int .i64 601815), .lit (.int .i64 615661), .lit (.int .i64 629320), .lit (.int .i64 642788), .lit (.int .i64 656059), .lit (.int .i64 669131), .lit (.int .i64 681998), .lit (.int .i64 694658), .lit (.int .i64 707107), .lit (.int .i64 719340), .lit (.int .i64 731354), .lit (.int .i64 743145), .lit (.int .i64 754710), .lit (.int .i64 766044), .lit (.int .i64 777146), .lit (.int .i64 788011), .lit (.int .i64 798636), .lit (.int .i64 809017), .lit (.int .i64 819152), .lit (.int .i64 829038), .lit (.int .i64 838671), .lit (.int .i64 848048), .lit (.int .i64 857167), .lit (.int .i64 866025), .lit (.int .i64 874620), .lit (.int .i64 882948), .lit (.int .i64 891007), .lit (.int .i64 898794), .lit (.int .i64 906308), .lit (.int .i64 913545), .lit (.int .i64 920505), .lit (.int .i64 927184), .lit (.int .i64 933580), .lit (.int .i64 939693), .lit (.int .i64 945519), .lit (.int .i64 951057), .lit (.int .i64 956305), .lit (.int .i64 961262), .lit (.int .i64 965926), .lit (.int .i64 970296), .lit (.int .i64 974370), .lit (.int .i64 978148), .lit (.int .i64 981627), .lit (.int .i64 984808), .lit (.int .i64 987688), .lit (.int .i64 990268), .lit (.int .i64 992546), .lit (.int .i64 994522), .lit (.int .i64 996195), .lit (.int .i64 997564), .lit (.int .i64 998630), .lit (.int .i64 999391), .lit (.int .i64 999848), .lit (.int .i64 1000000)]

/-- 'laws.FnExactDirectionOf': WHATEVER THE INPUT: true; the input reads as it did. -/
def fnExactDirectionOfSpec : ChangeSpec := { name := "fnExactDirectionOf", vars := ["loop.example/g00955/impl.sines"], fn := fun _ => fun
  | [d1, d2, g1] => { results := [.lit (.bool true)], args := [d1, d2], vars := [g1] }
  | _ => none }
def fnExactDirectionOfRow : OpenClaim := { program := "ytcaddlgilmncoaadoor", sum := "7454907047bf4d238b4dfe59936d5cdbdee2bd8a808e976535d043b97e00db9a", func := "loop.example/g00955/laws.FnExactDirectionOf", spec := "fnExactDirectionOf", named := ["loop.example/g00955/impl.sines"], apart := false, laid := [("loop.example/g00955/impl.sines", laid_loop_example_g00955_impl_sines)] }
def FnExactDirectionOfSaid : Prop := fnExactDirectionOfRow.holds Tryd.pinned (OpenSpec.ofChange fnExactDirectionOfSpec)

/-- ITS FALSE NEIGHBOUR: 'it returns false'. Refute it at one input. -/
def fnExactDirectionOfWrong : ChangeSpec := { name := "fnExactDirectionOf", vars := ["loop.example/g00955/impl.sines"], fn := fun _ => fun
  | [d1, d2, g1] => { results := [.lit (.bool false)], args := [d1, d2], vars := [g1] }
  | _ => none }
def FnExactDirectionOfWrongFalsely : Prop := fnExactDirectionOfRow.holds Tryd.pinned (OpenSpec.ofChange fnExactDirectionOfWrong)

/-- 'laws.FnExactAnglesOf': WHATEVER THE INPUT: true; the input reads as it did. -/
def fnExactAnglesOfSpec : ChangeSpec := { name := "fnExactAnglesOf", vars := ["loop.example/g00955/impl.sines"], fn := fun _ => fun
  | [d, g1] => { results := [.lit (.bool true)], args := [d], vars := [g1] }
  | _ => none }
def fnExactAnglesOfRow : OpenClaim := { program := "ytcaddlgilmncoaadoor", sum := "7454907047bf4d238b4dfe59936d5cdbdee2bd8a808e976535d043b97e00db9a", func := "loop.example/g00955/laws.FnExactAnglesOf", spec := "fnExactAnglesOf", unfollowed := true, recurses := true, named := ["loop.example/g00955/impl.sines"], apart := false, laid := [("loop.example/g00955/impl.sines", laid_loop_example_g00955_impl_sines)] }
def FnExactAnglesOfSaid : Prop := fnExactAnglesOfRow.holds Tryd.pinned (OpenSpec.ofChange fnExactAnglesOfSpec)

/-- ITS FALSE NEIGHBOUR: 'it returns false'. Refute it at one input. -/
def fnExactAnglesOfWrong : ChangeSpec := { name := "fnExactAnglesOf", vars := ["loop.example/g00955/impl.sines"], fn := fun _ => fun
  | [d, g1] => { results := [.lit (.bool false)], args := [d], vars := [g1] }
  | _ => none }
def FnExactAnglesOfWrongFalsely : Prop := fnExactAnglesOfRow.holds Tryd.pinned (OpenSpec.ofChange fnExactAnglesOfWrong)

/-- 'laws.FnExactSeparation': WHATEVER THE INPUT: true; the input reads as it did. -/
def fnExactSeparationSpec : ChangeSpec := { name := "fnExactSeparation", vars := ["loop.example/g00955/impl.sines"], fn := fun _ => fun
  | [d1, d2, g1] => { results := [.lit (.bool true)], args := [d1, d2], vars := [g1] }
  | _ => none }
def fnExactSeparationRow : OpenClaim := { program := "ytcaddlgilmncoaadoor", sum := "7454907047bf4d238b4dfe59936d5cdbdee2bd8a808e976535d043b97e00db9a", func := "loop.example/g00955/laws.FnExactSeparation", spec := "fnExactSeparation", unfollowed := true, recurses := true, named := ["loop.example/g00955/impl.sines"], apart := false, laid := [("loop.example/g00955/impl.sines", laid_loop_example_g00955_impl_sines)] }
def FnExactSeparationSaid : Prop := fnExactSeparationRow.holds Tryd.pinned (OpenSpec.ofChange fnExactSeparationSpec)

/-- ITS FALSE NEIGHBOUR: 'it returns false'. Refute it at one input. -/
def fnExactSeparationWrong : ChangeSpec := { name := "fnExactSeparation", vars := ["loop.example/g00955/impl.sines"], fn := fun _ => fun
  | [d1, d2, g1] => { results := [.lit (.bool false)], args := [d1, d2], vars := [g1] }
  | _ => none }
def FnExactSeparationWrongFalsely : Prop := fnExactSeparationRow.holds Tryd.pinned (OpenSpec.ofChange fnExactSeparationWrong)

/-- 'laws.FnExactRotateAround': WHATEVER THE INPUT: true; the input reads as it did. -/
def fnExactRotateAroundSpec : ChangeSpec := { name := "fnExactRotateAround", vars := ["loop.example/g00955/impl.sines"], fn := fun _ => fun
  | [d1, d2, d3, g1] => { results := [.lit (.bool true)], args := [d1, d2, d3], vars := [g1] }
  | _ => none }
def fnExactRotateAroundRow : OpenClaim := { program := "ytcaddlgilmncoaadoor", sum := "7454907047bf4d238b4dfe59936d5cdbdee2bd8a808e976535d043b97e00db9a", func := "loop.example/g00955/laws.FnExactRotateAround", spec := "fnExactRotateAround", unfollowed := true, recurses := true, named := ["loop.example/g00955/impl.sines"], apart := false, laid := [("loop.example/g00955/impl.sines", laid_loop_example_g00955_impl_sines)] }
def FnExactRotateAroundSaid : Prop := fnExactRotateAroundRow.holds Tryd.pinned (OpenSpec.ofChange fnExactRotateAroundSpec)

/-- ITS FALSE NEIGHBOUR: 'it returns false'. Refute it at one input. -/
def fnExactRotateAroundWrong : ChangeSpec := { name := "fnExactRotateAround", vars := ["loop.example/g00955/impl.sines"], fn := fun _ => fun
  | [d1, d2, d3, g1] => { results := [.lit (.bool false)], args := [d1, d2, d3], vars := [g1] }
  | _ => none }
def FnExactRotateAroundWrongFalsely : Prop := fnExactRotateAroundRow.holds Tryd.pinned (OpenSpec.ofChange fnExactRotateAroundWrong)

/-- 'laws.FnExactArcTangent': WHATEVER THE INPUT: true; the input reads as it did. -/
def fnExactArcTangentSpec : ChangeSpec := { name := "fnExactArcTangent", vars := ["loop.example/g00955/impl.sines"], fn := fun _ => fun
  | [d1, d2, g1] => { results := [.lit (.bool true)], args := [d1, d2], vars := [g1] }
  | _ => none }
def fnExactArcTangentRow : OpenClaim := { program := "ytcaddlgilmncoaadoor", sum := "7454907047bf4d238b4dfe59936d5cdbdee2bd8a808e976535d043b97e00db9a", func := "loop.example/g00955/laws.FnExactArcTangent", spec := "fnExactArcTangent", unfollowed := true, recurses := true, named := ["loop.example/g00955/impl.sines"], apart := false, laid := [("loop.example/g00955/impl.sines", laid_loop_example_g00955_impl_sines)] }
def FnExactArcTangentSaid : Prop := fnExactArcTangentRow.holds Tryd.pinned (OpenSpec.ofChange fnExactArcTangentSpec)

/-- ITS FALSE NEIGHBOUR: 'it returns false'. Refute it at one input. -/
def fnExactArcTangentWrong : ChangeSpec := { name := "fnExactArcTangent", vars := ["loop.example/g00955/impl.sines"], fn := fun _ => fun
  | [d1, d2, g1] => { results := [.lit (.bool false)], args := [d1, d2], vars := [g1] }
  | _ => none }
def FnExactArcTangentWrongFalsely : Prop := fnExactArcTangentRow.holds Tryd.pinned (OpenSpec.ofChange fnExactArcTangentWrong)

/-- 'laws.FnExactMeanAngle': WHATEVER THE INPUT: true; the input reads as it did. -/
def fnExactMeanAngleSpec : ChangeSpec := { name := "fnExactMeanAngle", vars := ["loop.example/g00955/impl.sines"], fn := fun _ => fun
  | [d, g1] => { results := [.lit (.bool true)], args := [d], vars := [g1] }
  | _ => none }
def fnExactMeanAngleRow : OpenClaim := { program := "ytcaddlgilmncoaadoor", sum := "7454907047bf4d238b4dfe59936d5cdbdee2bd8a808e976535d043b97e00db9a", func := "loop.example/g00955/laws.FnExactMeanAngle", spec := "fnExactMeanAngle", unfollowed := true, recurses := true, named := ["loop.example/g00955/impl.sines"], apart := false, laid := [("loop.example/g00955/impl.sines", laid_loop_example_g00955_impl_sines)] }
def FnExactMeanAngleSaid : Prop := fnExactMeanAngleRow.holds Tryd.pinned (OpenSpec.ofChange fnExactMeanAngleSpec)

/-- ITS FALSE NEIGHBOUR: 'it returns false'. Refute it at one input. -/
def fnExactMeanAngleWrong : ChangeSpec := { name := "fnExactMeanAngle", vars := ["loop.example/g00955/impl.sines"], fn := fun _ => fun
  | [d, g1] => { results := [.lit (.bool false)], args := [d], vars := [g1] }
  | _ => none }
def FnExactMeanAngleWrongFalsely : Prop := fnExactMeanAngleRow.holds Tryd.pinned (OpenSpec.ofChange fnExactMeanAngleWrong)

/- THE SECOND FORM. 'bulk': how many values and letters a reading holds, each counted each time it is reached (what is shared counts as often as it is met; a slice's spare places count too). A statement '..UptoSaid' is the law's where the arguments, and the package variables that the reading takes, are together of bulk at most 1048576: NARROWER than '..Said'. Prove '..Said' where nothing that the law and all that it calls make is longer than what came in: it says more and counts as full. Else prove '..UptoSaid'. A law counts once. -/
mutual
def uptoBulk {H : Type} : DataW H → Nat
  | .lit (.string bytes) => bytes.length + 1
  | .lit _ => 1
  | .nil => 1
  | .ptr d => uptoBulk d + 1
  | .slice elems spare => uptoBulkAll elems + uptoBulkAll spare + 1
  | .agg parts => uptoBulkAll parts + 1
  | .iface _ d => uptoBulk d + 1
  | .map entries => uptoBulkEntries entries + 1
  | .held _ => 1
def uptoBulkAll {H : Type} : List (DataW H) → Nat
  | [] => 0
  | d :: r => uptoBulk d + uptoBulkAll r
def uptoBulkEntries {H : Type} : List (Lit × DataW H) → Nat
  | [] => 0
  | x :: r => uptoBulkEntry x + uptoBulkEntries r
def uptoBulkEntry {H : Type} : Lit × DataW H → Nat
  | (.string bytes, d) => bytes.length + uptoBulk d + 1
  | (_, d) => uptoBulk d + 1
 end
def uptoSmall : (H : Type) → List (DataW H) → Bool := fun _ ds => decide (uptoBulkAll ds ≤ 1048576)
def OpenSpec.upto (s : _root_.Go.ChangeSpec) : _root_.Go.OpenSpec := { _root_.Go.OpenSpec.ofChange s with cond := some uptoSmall }

/-- 'laws.FnExactDirectionOf', WHERE WHAT IT READS IS OF BULK AT MOST 1048576: true; the input reads as it did. -/
def fnExactDirectionOfUptoRow : OpenClaim := { program := "ytcaddlgilmncoaadoor", sum := "7454907047bf4d238b4dfe59936d5cdbdee2bd8a808e976535d043b97e00db9a", func := "loop.example/g00955/laws.FnExactDirectionOf", spec := "fnExactDirectionOf", named := ["loop.example/g00955/impl.sines"], apart := false, laid := [("loop.example/g00955/impl.sines", laid_loop_example_g00955_impl_sines)], narrowed := true }
def FnExactDirectionOfUptoSaid : Prop := fnExactDirectionOfUptoRow.holds Tryd.pinned (OpenSpec.upto fnExactDirectionOfSpec)

/-- 'laws.FnExactAnglesOf', WHERE WHAT IT READS IS OF BULK AT MOST 1048576: true; the input reads as it did. -/
def fnExactAnglesOfUptoRow : OpenClaim := { program := "ytcaddlgilmncoaadoor", sum := "7454907047bf4d238b4dfe59936d5cdbdee2bd8a808e976535d043b97e00db9a", func := "loop.example/g00955/laws.FnExactAnglesOf", spec := "fnExactAnglesOf", unfollowed := true, recurses := true, named := ["loop.example/g00955/impl.sines"], apart := false, laid := [("loop.example/g00955/impl.sines", laid_loop_example_g00955_impl_sines)], narrowed := true }
def FnExactAnglesOfUptoSaid : Prop := fnExactAnglesOfUptoRow.holds Tryd.pinned (OpenSpec.upto fnExactAnglesOfSpec)

/-- 'laws.FnExactSeparation', WHERE WHAT IT READS IS OF BULK AT MOST 1048576: true; the input reads as it did. -/
def fnExactSeparationUptoRow : OpenClaim := { program := "ytcaddlgilmncoaadoor", sum := "7454907047bf4d238b4dfe59936d5cdbdee2bd8a808e976535d043b97e00db9a", func := "loop.example/g00955/laws.FnExactSeparation", spec := "fnExactSeparation", unfollowed := true, recurses := true, named := ["loop.example/g00955/impl.sines"], apart := false, laid := [("loop.example/g00955/impl.sines", laid_loop_example_g00955_impl_sines)], narrowed := true }
def FnExactSeparationUptoSaid : Prop := fnExactSeparationUptoRow.holds Tryd.pinned (OpenSpec.upto fnExactSeparationSpec)

/-- 'laws.FnExactRotateAround', WHERE WHAT IT READS IS OF BULK AT MOST 1048576: true; the input reads as it did. -/
def fnExactRotateAroundUptoRow : OpenClaim := { program := "ytcaddlgilmncoaadoor", sum := "7454907047bf4d238b4dfe59936d5cdbdee2bd8a808e976535d043b97e00db9a", func := "loop.example/g00955/laws.FnExactRotateAround", spec := "fnExactRotateAround", unfollowed := true, recurses := true, named := ["loop.example/g00955/impl.sines"], apart := false, laid := [("loop.example/g00955/impl.sines", laid_loop_example_g00955_impl_sines)], narrowed := true }
def FnExactRotateAroundUptoSaid : Prop := fnExactRotateAroundUptoRow.holds Tryd.pinned (OpenSpec.upto fnExactRotateAroundSpec)

/-- 'laws.FnExactArcTangent', WHERE WHAT IT READS IS OF BULK AT MOST 1048576: true; the input reads as it did. -/
def fnExactArcTangentUptoRow : OpenClaim := { program := "ytcaddlgilmncoaadoor", sum := "7454907047bf4d238b4dfe59936d5cdbdee2bd8a808e976535d043b97e00db9a", func := "loop.example/g00955/laws.FnExactArcTangent", spec := "fnExactArcTangent", unfollowed := true, recurses := true, named := ["loop.example/g00955/impl.sines"], apart := false, laid := [("loop.example/g00955/impl.sines", laid_loop_example_g00955_impl_sines)], narrowed := true }
def FnExactArcTangentUptoSaid : Prop := fnExactArcTangentUptoRow.holds Tryd.pinned (OpenSpec.upto fnExactArcTangentSpec)

/-- 'laws.FnExactMeanAngle', WHERE WHAT IT READS IS OF BULK AT MOST 1048576: true; the input reads as it did. -/
def fnExactMeanAngleUptoRow : OpenClaim := { program := "ytcaddlgilmncoaadoor", sum := "7454907047bf4d238b4dfe59936d5cdbdee2bd8a808e976535d043b97e00db9a", func := "loop.example/g00955/laws.FnExactMeanAngle", spec := "fnExactMeanAngle", unfollowed := true, recurses := true, named := ["loop.example/g00955/impl.sines"], apart := false, laid := [("loop.example/g00955/impl.sines", laid_loop_example_g00955_impl_sines)], narrowed := true }
def FnExactMeanAngleUptoSaid : Prop := fnExactMeanAngleUptoRow.holds Tryd.pinned (OpenSpec.upto fnExactMeanAngleSpec)

end Rows
end Go.Proofs.YtcaddlgilmncoaaDoor
