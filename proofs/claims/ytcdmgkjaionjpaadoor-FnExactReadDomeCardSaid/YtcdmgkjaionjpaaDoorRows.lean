/-
  NARROWER THAN 'FOR EVERY INPUT', by the rows' own cells (each row's printed sentence says how): FnExactSpotOf: laid · FnExactDirectionAt: laid · FnExactTiltedDirection: laid · FnExactLevelDirection: laid · FnExactDomePoint: laid · FnExactArcOnDome: laid · FnExactZoneShare: laid · FnExactDomeText: laid · FnExactReadDome: laid.
  DERIVED. THE GIVEN ROWS OF THIS SEAT. 9 by the template 'for every input the law returns true; each argument reads behind the call as it read before'; 0 by the template 'total and deterministic' (their statements: YtcdmgkjaionjpaaDoorTotals.lean).
  GIVEN WITH THE SEED: the statements are not yours to turn. If you find one false, say at which input.
  Laid BY PROGRAM, IN A SANDBOX (cutbox-rows.mjs): the forced cells as the released guide's own fill.sh prints them over the translation d17bb7589e250ce1… (all of the seat's roots in one cut). By AI agents, Wed Nov 11 2026. No macro, syntax, notation, axiom, sorry.
-/
import Derived.Test.YtcdmgkjaionjpaaDoorChecked
import GoSem.PinnedTables
import GoSem.Claim
import GoSem.ClaimJoined
import GoSem.ClaimMapViews
import Derived.JoinedTies
import Derived.KernelRfl
namespace Go.Proofs.YtcdmgkjaionjpaaDoor
/- THE CELL 'sum', in the pinned program and in every row, IS THE sha256 OF THE DUMP (.gsa) THAT YtcdmgkjaionjpaaDoorProg.lean LOADS. Nothing in Lean hashes anything: it is a label: what it is worth is what the hold of that sum in a sandbox is worth. -/
noncomputable def Tryd.pinned : Pinned := { name := "ytcdmgkjaionjpaadoor", sum := "d17bb7589e250ce16387f540423b7342b2eb1f4767e39dc01fcc952dd56afd8a", checked := Tryd.checked }
namespace Rows
def none {H : Type} : Left H := { results := [], args := [] }

/- WHAT THE LISTED PACKAGE-LEVEL VARIABLES READ AS WHEN THE CALL BEGINS. Each datum BY PROGRAM (the guide's laid-datum.mjs) off the statement by which the dump's own 'gosem.cut.vars' lays the variable. In a bare row this is a premise. The card (YtcdmgkjaionjpaaDoorCards.lean) ties it to the program's text. -/
def laid_loop_example_g00955_impl_sines {H : Type} : DataW H := .agg [.lit (.int .i64 0), .lit (.int .i64 17452), .lit (.int .i64 34899), .lit (.int .i64 52336), .lit (.int .i64 69756), .lit (.int .i64 87156), .lit (.int .i64 104528), .lit (.int .i64 121869), .lit (.int .i64 139173), .lit (.int .i64 156434), .lit (.int .i64 173648), .lit (.int .i64 190809), .lit (.int .i64 207912), .lit (.int .i64 224951), .lit (.int .i64 241922), .lit (.int .i64 258819), .lit (.int .i64 275637), .lit (.int .i64 292372), .lit (.int .i64 309017), .lit (.int .i64 325568), .lit (.int .i64 342020), .lit (.int .i64 358368), .lit (.int .i64 374607), .lit (.int .i64 390731), .lit (.int .i64 406737), .lit (.int .i64 422618), .lit (.int .i64 438371), .lit (.int .i64 453990), .lit (.int .i64 469472), .lit (.int .i64 484810), .lit (.int .i64 500000), .lit (.int .i64 515038), .lit (.int .i64 529919), .lit (.int .i64 544639), .lit (.int .i64 559193), .lit (.int .i64 573576), .lit (.int .i64 587785), .lit (.int .i64 601815), .lit (.int .i64 615661), .lit (.int .i64 629320), .lit (.int .i64 642788), .lit (.int .i64 656059), .lit (.int .i64 669131), .lit (.int .i64 681998), .lit (.int .i64 694658), .lit (.int .i64 707107), .lit (.int .i64 719340), .lit (.int .i64 731354), .lit (.int .i64 743145), .lit (.int .i64 754710), .lit (.int .i64 766044), .lit (.int .i64 777146), .lit (.int .i64 788011), .lit (.int .i64 798636), .lit (.int .i64 809017), .lit (.int .i64 819152), .lit (.int .i64 829038), .lit (.int .i64 838671), .lit (.int .i64 848048), .lit (.int .i64 857167), .lit (.int .i64 866025), .lit (.int .i64 874620), .lit (.int .i64 882948), .lit (.int .i64 891007), .lit (.int .i64 898794), .lit (.int .i64 906308), .lit (.int .i64 913545), .lit (.int .i64 920505), .lit (.int .i64 927184), .lit (.int .i64 933580), .lit (.int .i64 939693), .lit (.int .i64 945519), .lit (.int .i64 951057), .lit (.int .i64 956305), .lit (.int .i64 961262), .lit (.int .i64 965926), .lit (.int .i64 970296), .lit (.int .i64 974370), .lit (.int .i64 978148), .lit (.int .i64 981627), .lit (.int .i64 984808), .lit (.int .i64 987688), .lit (.int .i64 990268), .lit (.int .i64 992546), .lit (.int .i64 994522), .lit (.int .i64 996195), .lit (.int .i64 997564), .lit (.int .i64 998630), .lit (.int .i64 999391), .lit (.int .i64 999848), .lit (.int .i64 1000000)]
def laid_math_bits_deBruijn32tab {H : Type} : DataW H := .agg [.lit (.int .u8 0), .lit (.int .u8 1), .lit (.int .u8 28), .lit (.int .u8 2), .lit (.int .u8 29), .lit (.int .u8 14), .lit (.int .u8 24), .lit (.int .u8 3), .lit (.int .u8 30), .lit (.int .u8 22), .lit (.int .u8 20), .lit (.int .u8 15), .lit (.int .u8 25), .lit (.int .u8 17), .lit (.int .u8 4), .lit (.int .u8 8), .lit (.int .u8 31), .lit (.int .u8 27), .lit (.int .u8 13), .lit (.int .u8 23), .lit (.int .u8 21), .lit (.int .u8 19), .lit (.int .u8 16), .lit (.int .u8 7), .lit (.int .u8 26), .lit (.int .u8 12), .lit (.int .u8 18), .lit (.int .u8 6), .lit (.int .u8 11), .lit (.int .u8 5), .lit (.int .u8 10), .lit (.int .u8 9)]
def laid_math_bits_deBruijn64tab {H : Type} : DataW H := .agg [.lit (.int .u8 0), .lit (.int .u8 1), .lit (.int .u8 56), .lit (.int .u8 2), .lit (.int .u8 57), .lit (.int .u8 49), .lit (.int .u8 28), .lit (.int .u8 3), .lit (.int .u8 61), .lit (.int .u8 58), .lit (.int .u8 42), .lit (.int .u8 50), .lit (.int .u8 38), .lit (.int .u8 29), .lit (.int .u8 17), .lit (.int .u8 4), .lit (.int .u8 62), .lit (.int .u8 47), .lit (.int .u8 59), .lit (.int .u8 36), .lit (.int .u8 45), .lit (.int .u8 43), .lit (.int .u8 51), .lit (.int .u8 22), .lit (.int .u8 53), .lit (.int .u8 39), .lit (.int .u8 33), .lit (.int .u8 30), .lit (.int .u8 24), .lit (.int .u8 18), .lit (.int .u8 12), .lit (.int .u8 5), .lit (.int .u8 63), .lit (.int .u8 55), .lit (.int .u8 48), .lit (.int .u8 27), .lit (.int .u8 60), .lit (.int .u8 41), .lit (.int .u8 37), .lit (.int .u8 16), .lit (.int .u8 46), .lit (.int .u8 35), .lit (.int .u8 44), .lit (.int .u8 21), .lit (.int .u8 52), .lit (.int .u8 32), .lit (.int .u8 23), .lit (.int .u8 11), .lit (.int .u8 54), .lit (.int .u8 26), .lit (.int .u8 40), .lit (.int .u8 15), .lit (.int .u8 34), .lit (.int .u8 20), .lit (.int .u8 31), .lit (.int .u8 10), .lit (.int .u8 25), .lit (.int .u8 14), .lit (.int .u8 19), .lit (.int .u8 9), .lit (.int .u8 13), .lit (.int .u8 8), .lit (.int .u8 7), .lit (.int .u8 6)]
def laid_internal_strconv_uint64pow10 {H : Type} : DataW H := .agg [.lit (.int .u64 1), .lit (.int .u64 10), .lit (.int .u64 100), .lit (.int .u64 1000), .lit (.int .u64 10000), .lit (.int .u64 100000), .lit (.int .u64 1000000), .lit (.int .u64 10000000), .lit (.int .u64 100000000), .lit (.int .u64 1000000000), .lit (.int .u64 10000000000), .lit (.int .u64 100000000000), .lit (.int .u64 1000000000000), .lit (.int .u64 10000000000000), .lit (.int .u64 100000000000000), .lit (.int .u64 1000000000000000), .lit (.int .u64 10000000000000000), .lit (.int .u64 100000000000000000), .lit (.int .u64 1000000000000000000), .lit (.int .u64 10000000000000000000)]
def laid_unicode_utf8_acceptRanges {H : Type} : DataW H := .agg [.agg [.lit (.int .u8 128), .lit (.int .u8 191)], .agg [.lit (.int .u8 160), .lit (.int .u8 191)], .agg [.lit (.int .u8 128), .lit (.int .u8 159)], .agg [.lit (.int .u8 144), .lit (.int .u8 191)], .agg [.lit (.int .u8 128), .lit (.int .u8 143)], .agg [.lit (.int .u8 0), .lit (.int .u8 0)], .agg [.lit (.int .u8 0), .lit (.int .u8 0)], .agg [.lit (.int .u8 0), .lit (.int .u8 0)], .agg [.lit (.int .u8 0), .lit (.int .u8 0)], .agg [.lit (.int .u8 0), .lit (.int .u8 0)], .agg [.lit (.int .u8 0), .lit (.int .u8 0)], .agg [.lit (.int .u8 0), .lit (.int .u8 0)], .agg [.lit (.int .u8 0), .lit (.int .u8 0)], .agg [.lit (.int .u8 0), .lit (.int .u8 0)], .agg [.lit (.int .u8 0), .lit (.int .u8 0)], .agg [.lit (.int .u8 0), .lit (.int .u8 0)]]
def laid_strconv_ErrRange {H : Type} : DataW H := .iface "*errors.errorString" (.ptr (.agg [.lit (.string [118, 97, 108, 117, 101, 32, 111, 117, 116, 32, 111, 102, 32, 114, 97, 110, 103, 101])]))
def laid_strconv_ErrSyntax {H : Type} : DataW H := .iface "*errors.errorString" (.ptr (.agg [.lit (.string [105, 110, 118, 97, 108, 105, 100, 32, 115, 121, 110, 116, 97, 120])]))
/-- One of Go's own tables, pinned by name: the form's constant. -/
def laid_unicode_utf8_first : DataW Unit := Go.Pinned.utf8First

/-- 'laws.FnExactSpotOf': WHATEVER THE INPUT: true; the input reads as it did. -/
def fnExactSpotOfSpec : ChangeSpec := { name := "fnExactSpotOf", vars := ["loop.example/g00955/impl.sines"], fn := fun _ => fun
  | [d1, d2, g1] => { results := [.lit (.bool true)], args := [d1, d2], vars := [g1] }
  | _ => none }
def fnExactSpotOfRow : OpenClaim := { program := "ytcdmgkjaionjpaadoor", sum := "d17bb7589e250ce16387f540423b7342b2eb1f4767e39dc01fcc952dd56afd8a", func := "loop.example/g00955/laws.FnExactSpotOf", spec := "fnExactSpotOf", named := ["loop.example/g00955/impl.sines"], apart := false, laid := [("loop.example/g00955/impl.sines", laid_loop_example_g00955_impl_sines)] }
def FnExactSpotOfSaid : Prop := fnExactSpotOfRow.holds Tryd.pinned (OpenSpec.ofChange fnExactSpotOfSpec)

/-- ITS FALSE NEIGHBOUR: 'it returns false'. Refute it at one input. -/
def fnExactSpotOfWrong : ChangeSpec := { name := "fnExactSpotOf", vars := ["loop.example/g00955/impl.sines"], fn := fun _ => fun
  | [d1, d2, g1] => { results := [.lit (.bool false)], args := [d1, d2], vars := [g1] }
  | _ => none }
def FnExactSpotOfWrongFalsely : Prop := fnExactSpotOfRow.holds Tryd.pinned (OpenSpec.ofChange fnExactSpotOfWrong)

/-- 'laws.FnExactDirectionAt': WHATEVER THE INPUT: true; the input reads as it did. -/
def fnExactDirectionAtSpec : ChangeSpec := { name := "fnExactDirectionAt", vars := ["loop.example/g00955/impl.sines"], fn := fun _ => fun
  | [d, g1] => { results := [.lit (.bool true)], args := [d], vars := [g1] }
  | _ => none }
def fnExactDirectionAtRow : OpenClaim := { program := "ytcdmgkjaionjpaadoor", sum := "d17bb7589e250ce16387f540423b7342b2eb1f4767e39dc01fcc952dd56afd8a", func := "loop.example/g00955/laws.FnExactDirectionAt", spec := "fnExactDirectionAt", unfollowed := true, recurses := true, named := ["loop.example/g00955/impl.sines"], apart := false, laid := [("loop.example/g00955/impl.sines", laid_loop_example_g00955_impl_sines)] }
def FnExactDirectionAtSaid : Prop := fnExactDirectionAtRow.holds Tryd.pinned (OpenSpec.ofChange fnExactDirectionAtSpec)

/-- ITS FALSE NEIGHBOUR: 'it returns false'. Refute it at one input. -/
def fnExactDirectionAtWrong : ChangeSpec := { name := "fnExactDirectionAt", vars := ["loop.example/g00955/impl.sines"], fn := fun _ => fun
  | [d, g1] => { results := [.lit (.bool false)], args := [d], vars := [g1] }
  | _ => none }
def FnExactDirectionAtWrongFalsely : Prop := fnExactDirectionAtRow.holds Tryd.pinned (OpenSpec.ofChange fnExactDirectionAtWrong)

/-- 'laws.FnExactTiltedDirection': WHATEVER THE INPUT: true; the input reads as it did. -/
def fnExactTiltedDirectionSpec : ChangeSpec := { name := "fnExactTiltedDirection", vars := ["loop.example/g00955/impl.sines"], fn := fun _ => fun
  | [d1, d2, d3, g1] => { results := [.lit (.bool true)], args := [d1, d2, d3], vars := [g1] }
  | _ => none }
def fnExactTiltedDirectionRow : OpenClaim := { program := "ytcdmgkjaionjpaadoor", sum := "d17bb7589e250ce16387f540423b7342b2eb1f4767e39dc01fcc952dd56afd8a", func := "loop.example/g00955/laws.FnExactTiltedDirection", spec := "fnExactTiltedDirection", unfollowed := true, recurses := true, named := ["loop.example/g00955/impl.sines"], apart := false, laid := [("loop.example/g00955/impl.sines", laid_loop_example_g00955_impl_sines)] }
def FnExactTiltedDirectionSaid : Prop := fnExactTiltedDirectionRow.holds Tryd.pinned (OpenSpec.ofChange fnExactTiltedDirectionSpec)

/-- ITS FALSE NEIGHBOUR: 'it returns false'. Refute it at one input. -/
def fnExactTiltedDirectionWrong : ChangeSpec := { name := "fnExactTiltedDirection", vars := ["loop.example/g00955/impl.sines"], fn := fun _ => fun
  | [d1, d2, d3, g1] => { results := [.lit (.bool false)], args := [d1, d2, d3], vars := [g1] }
  | _ => none }
def FnExactTiltedDirectionWrongFalsely : Prop := fnExactTiltedDirectionRow.holds Tryd.pinned (OpenSpec.ofChange fnExactTiltedDirectionWrong)

/-- 'laws.FnExactLevelDirection': WHATEVER THE INPUT: true; the input reads as it did. -/
def fnExactLevelDirectionSpec : ChangeSpec := { name := "fnExactLevelDirection", vars := ["loop.example/g00955/impl.sines"], fn := fun _ => fun
  | [d1, d2, d3, g1] => { results := [.lit (.bool true)], args := [d1, d2, d3], vars := [g1] }
  | _ => none }
def fnExactLevelDirectionRow : OpenClaim := { program := "ytcdmgkjaionjpaadoor", sum := "d17bb7589e250ce16387f540423b7342b2eb1f4767e39dc01fcc952dd56afd8a", func := "loop.example/g00955/laws.FnExactLevelDirection", spec := "fnExactLevelDirection", unfollowed := true, recurses := true, named := ["loop.example/g00955/impl.sines"], apart := false, laid := [("loop.example/g00955/impl.sines", laid_loop_example_g00955_impl_sines)] }
def FnExactLevelDirectionSaid : Prop := fnExactLevelDirectionRow.holds Tryd.pinned (OpenSpec.ofChange fnExactLevelDirectionSpec)

/-- ITS FALSE NEIGHBOUR: 'it returns false'. Refute it at one input. -/
def fnExactLevelDirectionWrong : ChangeSpec := { name := "fnExactLevelDirection", vars := ["loop.example/g00955/impl.sines"], fn := fun _ => fun
  | [d1, d2, d3, g1] => { results := [.lit (.bool false)], args := [d1, d2, d3], vars := [g1] }
  | _ => none }
def FnExactLevelDirectionWrongFalsely : Prop := fnExactLevelDirectionRow.holds Tryd.pinned (OpenSpec.ofChange fnExactLevelDirectionWrong)

/-- 'laws.FnExactDomePoint': WHATEVER THE INPUT: true; the input reads as it did. -/
def fnExactDomePointSpec : ChangeSpec := { name := "fnExactDomePoint", vars := ["loop.example/g00955/impl.sines"], fn := fun _ => fun
  | [d1, d2, d3, g1] => { results := [.lit (.bool true)], args := [d1, d2, d3], vars := [g1] }
  | _ => none }
def fnExactDomePointRow : OpenClaim := { program := "ytcdmgkjaionjpaadoor", sum := "d17bb7589e250ce16387f540423b7342b2eb1f4767e39dc01fcc952dd56afd8a", func := "loop.example/g00955/laws.FnExactDomePoint", spec := "fnExactDomePoint", named := ["loop.example/g00955/impl.sines"], apart := false, laid := [("loop.example/g00955/impl.sines", laid_loop_example_g00955_impl_sines)] }
def FnExactDomePointSaid : Prop := fnExactDomePointRow.holds Tryd.pinned (OpenSpec.ofChange fnExactDomePointSpec)

/-- ITS FALSE NEIGHBOUR: 'it returns false'. Refute it at one input. -/
def fnExactDomePointWrong : ChangeSpec := { name := "fnExactDomePoint", vars := ["loop.example/g00955/impl.sines"], fn := fun _ => fun
  | [d1, d2, d3, g1] => { results := [.lit (.bool false)], args := [d1, d2, d3], vars := [g1] }
  | _ => none }
def FnExactDomePointWrongFalsely : Prop := fnExactDomePointRow.holds Tryd.pinned (OpenSpec.ofChange fnExactDomePointWrong)

/-- 'laws.FnExactArcOnDome': WHATEVER THE INPUT: true; the input reads as it did. -/
def fnExactArcOnDomeSpec : ChangeSpec := { name := "fnExactArcOnDome", vars := ["loop.example/g00955/impl.sines"], fn := fun _ => fun
  | [d1, d2, d3, d4, d5, g1] => { results := [.lit (.bool true)], args := [d1, d2, d3, d4, d5], vars := [g1] }
  | _ => none }
def fnExactArcOnDomeRow : OpenClaim := { program := "ytcdmgkjaionjpaadoor", sum := "d17bb7589e250ce16387f540423b7342b2eb1f4767e39dc01fcc952dd56afd8a", func := "loop.example/g00955/laws.FnExactArcOnDome", spec := "fnExactArcOnDome", unfollowed := true, recurses := true, named := ["loop.example/g00955/impl.sines"], apart := false, laid := [("loop.example/g00955/impl.sines", laid_loop_example_g00955_impl_sines)] }
def FnExactArcOnDomeSaid : Prop := fnExactArcOnDomeRow.holds Tryd.pinned (OpenSpec.ofChange fnExactArcOnDomeSpec)

/-- ITS FALSE NEIGHBOUR: 'it returns false'. Refute it at one input. -/
def fnExactArcOnDomeWrong : ChangeSpec := { name := "fnExactArcOnDome", vars := ["loop.example/g00955/impl.sines"], fn := fun _ => fun
  | [d1, d2, d3, d4, d5, g1] => { results := [.lit (.bool false)], args := [d1, d2, d3, d4, d5], vars := [g1] }
  | _ => none }
def FnExactArcOnDomeWrongFalsely : Prop := fnExactArcOnDomeRow.holds Tryd.pinned (OpenSpec.ofChange fnExactArcOnDomeWrong)

/-- 'laws.FnExactZoneShare': WHATEVER THE INPUT: true; the input reads as it did. -/
def fnExactZoneShareSpec : ChangeSpec := { name := "fnExactZoneShare", vars := ["loop.example/g00955/impl.sines"], fn := fun _ => fun
  | [d1, d2, g1] => { results := [.lit (.bool true)], args := [d1, d2], vars := [g1] }
  | _ => none }
def fnExactZoneShareRow : OpenClaim := { program := "ytcdmgkjaionjpaadoor", sum := "d17bb7589e250ce16387f540423b7342b2eb1f4767e39dc01fcc952dd56afd8a", func := "loop.example/g00955/laws.FnExactZoneShare", spec := "fnExactZoneShare", named := ["loop.example/g00955/impl.sines"], apart := false, laid := [("loop.example/g00955/impl.sines", laid_loop_example_g00955_impl_sines)] }
def FnExactZoneShareSaid : Prop := fnExactZoneShareRow.holds Tryd.pinned (OpenSpec.ofChange fnExactZoneShareSpec)

/-- ITS FALSE NEIGHBOUR: 'it returns false'. Refute it at one input. -/
def fnExactZoneShareWrong : ChangeSpec := { name := "fnExactZoneShare", vars := ["loop.example/g00955/impl.sines"], fn := fun _ => fun
  | [d1, d2, g1] => { results := [.lit (.bool false)], args := [d1, d2], vars := [g1] }
  | _ => none }
def FnExactZoneShareWrongFalsely : Prop := fnExactZoneShareRow.holds Tryd.pinned (OpenSpec.ofChange fnExactZoneShareWrong)

/-- 'laws.FnExactDomeText': WHATEVER THE INPUT: true; the input reads as it did. -/
def fnExactDomeTextSpec : ChangeSpec := { name := "fnExactDomeText", fn := fun _ => fun
  | [d] => { results := [.lit (.bool true)], args := [d] }
  | _ => none }
def fnExactDomeTextRow : OpenClaim := { program := "ytcdmgkjaionjpaadoor", sum := "d17bb7589e250ce16387f540423b7342b2eb1f4767e39dc01fcc952dd56afd8a", func := "loop.example/g00955/laws.FnExactDomeText", spec := "fnExactDomeText", inPlace := ["internal/abi.NoEscape", "internal/bytealg.MakeNoZero"], named := ["internal/strconv.uint64pow10", "math/bits.deBruijn32tab", "math/bits.deBruijn64tab"], apart := false, laid := [("math/bits.deBruijn32tab", laid_math_bits_deBruijn32tab), ("math/bits.deBruijn64tab", laid_math_bits_deBruijn64tab), ("internal/strconv.uint64pow10", laid_internal_strconv_uint64pow10)] }
def FnExactDomeTextSaid : Prop := fnExactDomeTextRow.holds Tryd.pinned (OpenSpec.ofChange fnExactDomeTextSpec)

/-- ITS FALSE NEIGHBOUR: 'it returns false'. Refute it at one input. -/
def fnExactDomeTextWrong : ChangeSpec := { name := "fnExactDomeText", fn := fun _ => fun
  | [d] => { results := [.lit (.bool false)], args := [d] }
  | _ => none }
def FnExactDomeTextWrongFalsely : Prop := fnExactDomeTextRow.holds Tryd.pinned (OpenSpec.ofChange fnExactDomeTextWrong)

/-- 'laws.FnExactReadDome': WHATEVER THE INPUT: true; the input reads as it did. -/
def fnExactReadDomeSpec : ChangeSpec := { name := "fnExactReadDome", fn := fun _ => fun
  | [d] => { results := [.lit (.bool true)], args := [d] }
  | _ => none }
def fnExactReadDomeRow : OpenClaim := { program := "ytcdmgkjaionjpaadoor", sum := "d17bb7589e250ce16387f540423b7342b2eb1f4767e39dc01fcc952dd56afd8a", func := "loop.example/g00955/laws.FnExactReadDome", spec := "fnExactReadDome", inPlace := ["internal/bytealg.IndexByteString", "internal/bytealg.IndexString", "internal/bytealg.CountString"], named := ["internal/bytealg.MaxLen", "unicode/utf8.first", "unicode/utf8.acceptRanges", "strconv.ErrSyntax", "strconv.ErrRange", "internal/strconv.uint64pow10", "math/bits.deBruijn32tab", "math/bits.deBruijn64tab"], apart := false, laid := [("math/bits.deBruijn32tab", laid_math_bits_deBruijn32tab), ("math/bits.deBruijn64tab", laid_math_bits_deBruijn64tab), ("internal/strconv.uint64pow10", laid_internal_strconv_uint64pow10), ("unicode/utf8.acceptRanges", laid_unicode_utf8_acceptRanges), ("strconv.ErrRange", laid_strconv_ErrRange), ("strconv.ErrSyntax", laid_strconv_ErrSyntax), ("unicode/utf8.first", laid_unicode_utf8_first)] }
def FnExactReadDomeSaid : Prop := fnExactReadDomeRow.holds Tryd.pinned (OpenSpec.ofChange fnExactReadDomeSpec)

/-- ITS FALSE NEIGHBOUR: 'it returns false'. Refute it at one input. -/
def fnExactReadDomeWrong : ChangeSpec := { name := "fnExactReadDome", fn := fun _ => fun
  | [d] => { results := [.lit (.bool false)], args := [d] }
  | _ => none }
def FnExactReadDomeWrongFalsely : Prop := fnExactReadDomeRow.holds Tryd.pinned (OpenSpec.ofChange fnExactReadDomeWrong)

/- THE SECOND FORM. 'bulk': how many values and letters a reading holds, each counted each time it is reached (what is shared counts as often as it is met; a slice's spare places count too). A statement '..UptoSaid' is the law's where the arguments, and the package variables that the reading takes, are together of bulk at most 1048576: NARROWER than '..Said'. Prove '..Said' where nothing that the law and all that it calls make is longer than what came in: it says more and counts as full. Else prove '..UptoSaid'. A law counts once. -/
mutual
def uptoBulk {H : Type} : DataW H → Nat
  | .lit (.string bytes) => bytes.length + 1
  | .lit _ => 1
  | .nil => 1
  | .ptr d => uptoBulk d + 1
  | .slice elems spare => uptoBulkAll elems + uptoBulkAll spare + 1
  | .agg parts => uptoBulkAll parts + 1
  | .iface _ d => uptoBulk d + 1
  | .map entries => uptoBulkEntries entries + 1
  | .held _ => 1
def uptoBulkAll {H : Type} : List (DataW H) → Nat
  | [] => 0
  | d :: r => uptoBulk d + uptoBulkAll r
def uptoBulkEntries {H : Type} : List (Lit × DataW H) → Nat
  | [] => 0
  | x :: r => uptoBulkEntry x + uptoBulkEntries r
def uptoBulkEntry {H : Type} : Lit × DataW H → Nat
  | (.string bytes, d) => bytes.length + uptoBulk d + 1
  | (_, d) => uptoBulk d + 1
 end
def uptoSmall : (H : Type) → List (DataW H) → Bool := fun _ ds => decide (uptoBulkAll ds ≤ 1048576)
def OpenSpec.upto (s : _root_.Go.ChangeSpec) : _root_.Go.OpenSpec := { _root_.Go.OpenSpec.ofChange s with cond := some uptoSmall }

/-- 'laws.FnExactSpotOf', WHERE WHAT IT READS IS OF BULK AT MOST 1048576: true; the input reads as it did. -/
def fnExactSpotOfUptoRow : OpenClaim := { program := "ytcdmgkjaionjpaadoor", sum := "d17bb7589e250ce16387f540423b7342b2eb1f4767e39dc01fcc952dd56afd8a", func := "loop.example/g00955/laws.FnExactSpotOf", spec := "fnExactSpotOf", named := ["loop.example/g00955/impl.sines"], apart := false, laid := [("loop.example/g00955/impl.sines", laid_loop_example_g00955_impl_sines)], narrowed := true }
def FnExactSpotOfUptoSaid : Prop := fnExactSpotOfUptoRow.holds Tryd.pinned (OpenSpec.upto fnExactSpotOfSpec)

/-- 'laws.FnExactDirectionAt', WHERE WHAT IT READS IS OF BULK AT MOST 1048576: true; the input reads as it did. -/
def fnExactDirectionAtUptoRow : OpenClaim := { program := "ytcdmgkjaionjpaadoor", sum := "d17bb7589e250ce16387f540423b7342b2eb1f4767e39dc01fcc952dd56afd8a", func := "loop.example/g00955/laws.FnExactDirectionAt", spec := "fnExactDirectionAt", unfollowed := true, recurses := true, named := ["loop.example/g00955/impl.sines"], apart := false, laid := [("loop.example/g00955/impl.sines", laid_loop_example_g00955_impl_sines)], narrowed := true }
def FnExactDirectionAtUptoSaid : Prop := fnExactDirectionAtUptoRow.holds Tryd.pinned (OpenSpec.upto fnExactDirectionAtSpec)

/-- 'laws.FnExactTiltedDirection', WHERE WHAT IT READS IS OF BULK AT MOST 1048576: true; the input reads as it did. -/
def fnExactTiltedDirectionUptoRow : OpenClaim := { program := "ytcdmgkjaionjpaadoor", sum := "d17bb7589e250ce16387f540423b7342b2eb1f4767e39dc01fcc952dd56afd8a", func := "loop.example/g00955/laws.FnExactTiltedDirection", spec := "fnExactTiltedDirection", unfollowed := true, recurses := true, named := ["loop.example/g00955/impl.sines"], apart := false, laid := [("loop.example/g00955/impl.sines", laid_loop_example_g00955_impl_sines)], narrowed := true }
def FnExactTiltedDirectionUptoSaid : Prop := fnExactTiltedDirectionUptoRow.holds Tryd.pinned (OpenSpec.upto fnExactTiltedDirectionSpec)

/-- 'laws.FnExactLevelDirection', WHERE WHAT IT READS IS OF BULK AT MOST 1048576: true; the input reads as it did. -/
def fnExactLevelDirectionUptoRow : OpenClaim := { program := "ytcdmgkjaionjpaadoor", sum := "d17bb7589e250ce16387f540423b7342b2eb1f4767e39dc01fcc952dd56afd8a", func := "loop.example/g00955/laws.FnExactLevelDirection", spec := "fnExactLevelDirection", unfollowed := true, recurses := true, named := ["loop.example/g00955/impl.sines"], apart := false, laid := [("loop.example/g00955/impl.sines", laid_loop_example_g00955_impl_sines)], narrowed := true }
def FnExactLevelDirectionUptoSaid : Prop := fnExactLevelDirectionUptoRow.holds Tryd.pinned (OpenSpec.upto fnExactLevelDirectionSpec)

/-- 'laws.FnExactDomePoint', WHERE WHAT IT READS IS OF BULK AT MOST 1048576: true; the input reads as it did. -/
def fnExactDomePointUptoRow : OpenClaim := { program := "ytcdmgkjaionjpaadoor", sum := "d17bb7589e250ce16387f540423b7342b2eb1f4767e39dc01fcc952dd56afd8a", func := "loop.example/g00955/laws.FnExactDomePoint", spec := "fnExactDomePoint", named := ["loop.example/g00955/impl.sines"], apart := false, laid := [("loop.example/g00955/impl.sines", laid_loop_example_g00955_impl_sines)], narrowed := true }
def FnExactDomePointUptoSaid : Prop := fnExactDomePointUptoRow.holds Tryd.pinned (OpenSpec.upto fnExactDomePointSpec)

/-- 'laws.FnExactArcOnDome', WHERE WHAT IT READS IS OF BULK AT MOST 1048576: true; the input reads as it did. -/
def fnExactArcOnDomeUptoRow : OpenClaim := { program := "ytcdmgkjaionjpaadoor", sum := "d17bb7589e250ce16387f540423b7342b2eb1f4767e39dc01fcc952dd56afd8a", func := "loop.example/g00955/laws.FnExactArcOnDome", spec := "fnExactArcOnDome", unfollowed := true, recurses := true, named := ["loop.example/g00955/impl.sines"], apart := false, laid := [("loop.example/g00955/impl.sines", laid_loop_example_g00955_impl_sines)], narrowed := true }
def FnExactArcOnDomeUptoSaid : Prop := fnExactArcOnDomeUptoRow.holds Tryd.pinned (OpenSpec.upto fnExactArcOnDomeSpec)

/-- 'laws.FnExactZoneShare', WHERE WHAT IT READS IS OF BULK AT MOST 1048576: true; the input reads as it did. -/
def fnExactZoneShareUptoRow : OpenClaim := { program := "ytcdmgkjaionjpaadoor", sum := "d17bb7589e250ce16387f540423b7342b2eb1f4767e39dc01fcc952dd56afd8a", func := "loop.example/g00955/laws.FnExactZoneShare", spec := "fnExactZoneShare", named := ["loop.example/g00955/impl.sines"], apart := false, laid := [("loop.example/g00955/impl.sines", laid_loop_example_g00955_impl_sines)], narrowed := true }
def FnExactZoneShareUptoSaid : Prop := fnExactZoneShareUptoRow.holds Tryd.pinned (OpenSpec.upto fnExactZoneShareSpec)

/-- 'laws.FnExactDomeText', WHERE WHAT IT READS IS OF BULK AT MOST 1048576: true; the input reads as it did. -/
def fnExactDomeTextUptoRow : OpenClaim := { program := "ytcdmgkjaionjpaadoor", sum := "d17bb7589e250ce16387f540423b7342b2eb1f4767e39dc01fcc952dd56afd8a", func := "loop.example/g00955/laws.FnExactDomeText", spec := "fnExactDomeText", inPlace := ["internal/abi.NoEscape", "internal/bytealg.MakeNoZero"], named := ["internal/strconv.uint64pow10", "math/bits.deBruijn32tab", "math/bits.deBruijn64tab"], apart := false, laid := [("math/bits.deBruijn32tab", laid_math_bits_deBruijn32tab), ("math/bits.deBruijn64tab", laid_math_bits_deBruijn64tab), ("internal/strconv.uint64pow10", laid_internal_strconv_uint64pow10)], narrowed := true }
def FnExactDomeTextUptoSaid : Prop := fnExactDomeTextUptoRow.holds Tryd.pinned (OpenSpec.upto fnExactDomeTextSpec)

/-- 'laws.FnExactReadDome', WHERE WHAT IT READS IS OF BULK AT MOST 1048576: true; the input reads as it did. -/
def fnExactReadDomeUptoRow : OpenClaim := { program := "ytcdmgkjaionjpaadoor", sum := "d17bb7589e250ce16387f540423b7342b2eb1f4767e39dc01fcc952dd56afd8a", func := "loop.example/g00955/laws.FnExactReadDome", spec := "fnExactReadDome", inPlace := ["internal/bytealg.IndexByteString", "internal/bytealg.IndexString", "internal/bytealg.CountString"], named := ["internal/bytealg.MaxLen", "unicode/utf8.first", "unicode/utf8.acceptRanges", "strconv.ErrSyntax", "strconv.ErrRange", "internal/strconv.uint64pow10", "math/bits.deBruijn32tab", "math/bits.deBruijn64tab"], apart := false, laid := [("math/bits.deBruijn32tab", laid_math_bits_deBruijn32tab), ("math/bits.deBruijn64tab", laid_math_bits_deBruijn64tab), ("internal/strconv.uint64pow10", laid_internal_strconv_uint64pow10), ("unicode/utf8.acceptRanges", laid_unicode_utf8_acceptRanges), ("strconv.ErrRange", laid_strconv_ErrRange), ("strconv.ErrSyntax", laid_strconv_ErrSyntax), ("unicode/utf8.first", laid_unicode_utf8_first)], narrowed := true }
def FnExactReadDomeUptoSaid : Prop := fnExactReadDomeUptoRow.holds Tryd.pinned (OpenSpec.upto fnExactReadDomeSpec)

end Rows
end Go.Proofs.YtcdmgkjaionjpaaDoor
