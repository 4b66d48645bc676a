/-
  NARROWER THAN 'FOR EVERY INPUT', by the rows' own cells (each row's printed sentence says how): FnExactVisibleStars: laid · FnExactTourLength: laid.
  DERIVED. THE GIVEN ROWS OF THIS SEAT. 2 by the template 'for every input the law returns true; each argument reads behind the call as it read before'; 0 by the template 'total and deterministic' (their statements: YtjghopepgfgebaaGreatDoorTotals.lean).
  GIVEN WITH THE SEED: the statements are not yours to turn. If you find one false, say at which input.
  Laid BY PROGRAM, IN A SANDBOX (cutbox-rows.mjs): the forced cells as the released guide's own fill.sh prints them over the translation 87cacbb3800eed0d… (all of the seat's roots in one cut). By AI agents, Wed Nov 11 2026. No macro, syntax, notation, axiom, sorry.
-/
import Derived.Test.YtjghopepgfgebaaGreatDoorChecked
import GoSem.Claim
import GoSem.ClaimJoined
import GoSem.ClaimMapViews
import Derived.JoinedTies
import Derived.KernelRfl
namespace Go.Proofs.YtjghopepgfgebaaGreatDoor
/- THE CELL 'sum', in the pinned program and in every row, IS THE sha256 OF THE DUMP (.gsa) THAT YtjghopepgfgebaaGreatDoorProg.lean LOADS. Nothing in Lean hashes anything: it is a label: what it is worth is what the hold of that sum in a sandbox is worth. -/
noncomputable def Tryz.pinned : Pinned := { name := "ytjghopepgfgebaagreatdoor", sum := "87cacbb3800eed0d648fdb75812c7511d9245df0bda1e6dcef0e5d312ea2041c", checked := Tryz.checked }
namespace Rows
def none {H : Type} : Left H := { results := [], args := [] }

/- WHAT THE LISTED PACKAGE-LEVEL VARIABLES READ AS WHEN THE CALL BEGINS. Each datum BY PROGRAM (the guide's laid-datum.mjs) off the statement by which the dump's own 'gosem.cut.vars' lays the variable. In a bare row this is a premise. The card (YtjghopepgfgebaaGreatDoorCards.lean) ties it to the program's text. -/
def laid_loop_example_g00955_impl_sines {H : Type} : DataW H := .agg [.lit (.int .i64 0), .lit (.int .i64 17452), .lit (.int .i64 34899), .lit (.int .i64 52336), .lit (.int .i64 69756), .lit (.int .i64 87156), .lit (.int .i64 104528), .lit (.int .i64 121869), .lit (.int .i64 139173), .lit (.int .i64 156434), .lit (.int .i64 173648), .lit (.int .i64 190809), .lit (.int .i64 207912), .lit (.int .i64 224951), .lit (.int .i64 241922), .lit (.int .i64 258819), .lit (.int .i64 275637), .lit (.int .i64 292372), .lit (.int .i64 309017), .lit (.int .i64 325568), .lit (.int .i64 342020), .lit (.int .i64 358368), .lit (.int .i64 374607), .lit (.int .i64 390731), .lit (.int .i64 406737), .lit (.int .i64 422618), .lit (.int .i64 438371), .lit (.int .i64 453990), .lit (.int .i64 469472), .lit (.int .i64 484810), .lit (.int .i64 500000), .lit (.int .i64 515038), .lit (.int .i64 529919), .lit (.int .i64 544639), .lit (.int .i64 559193), .lit (.int .i64 573576), .lit (.int .i64 587785), .lit (.int .i64 601815), .lit (.int .i64 615661), .lit (.int .i64 629320), .lit (.int .i64 642788), .lit (.int .i64 656059), .lit (.int .i64 669131), .lit (.int .i64 681998), .lit (.int .i64 694658), .lit (.int .i64 707107), .lit (.int .i64 719340), .lit (.int .i64 731354), .lit (.int .i64 743145), .lit (.int .i64 754710), .lit (.int .i64 766044), .lit (.int .i64 777146), .lit (.int .i64 788011), .lit (.int .i64 798636), .lit (.int .i64 809017), .lit (.int .i64 819152), .lit (.int .i64 829038), .lit (.int .i64 838671), .lit (.int .i64 848048), .lit (.int .i64 857167), .lit (.int .i64 866025), .lit (.int .i64 874620), .lit (.int .i64 882948), .lit (.int .i64 891007), .lit (.int .i64 898794), .lit (.int .i64 906308), .lit (.int .i64 913545), .lit (.int .i64 920505), .lit (.int .i64 927184), .lit (.int .i64 933580), .lit (.int .i64 939693), .lit (.int .i64 945519), .lit (.int .i64 951057), .lit (.int .i64 956305), .lit (.int .i64 961262), .lit (.int .i64 965926), .lit (.int .i64 970296), .lit (.int .i64 974370), .lit (.int .i64 978148), .lit (.int .i64 981627), .lit (.int .i64 984808), .lit (.int .i64 987688), .lit (.int .i64 990268), .lit (.int .i64 992546), .lit (.int .i64 994522), .lit (.int .i64 996195), .lit (.int .i64 997564), .lit (.int .i64 998630), .lit (.int .i64 999391), .lit (.int .i64 999848), .lit (.int .i64 1000000)]

/-- 'laws.FnExactVisibleStars': WHATEVER THE INPUT: true; the input reads as it did. -/
def fnExactVisibleStarsSpec : ChangeSpec := { name := "fnExactVisibleStars", vars := ["loop.example/g00955/impl.sines"], fn := fun _ => fun
  | [d1, d2, d3, d4, g1] => { results := [.lit (.bool true)], args := [d1, d2, d3, d4], vars := [g1] }
  | _ => none }
def fnExactVisibleStarsRow : OpenClaim := { program := "ytjghopepgfgebaagreatdoor", sum := "87cacbb3800eed0d648fdb75812c7511d9245df0bda1e6dcef0e5d312ea2041c", func := "loop.example/g00955/laws.FnExactVisibleStars", spec := "fnExactVisibleStars", inPlace := ["internal/reflectlite.ValueOf", "internal/reflectlite.Swapper", "(internal/reflectlite.Value).Len"], unfollowed := true, recurses := true, named := ["loop.example/g00955/impl.sines"], apart := false, laid := [("loop.example/g00955/impl.sines", laid_loop_example_g00955_impl_sines)] }
def FnExactVisibleStarsSaid : Prop := fnExactVisibleStarsRow.holds Tryz.pinned (OpenSpec.ofChange fnExactVisibleStarsSpec)

/-- ITS FALSE NEIGHBOUR: 'it returns false'. Refute it at one input. -/
def fnExactVisibleStarsWrong : ChangeSpec := { name := "fnExactVisibleStars", vars := ["loop.example/g00955/impl.sines"], fn := fun _ => fun
  | [d1, d2, d3, d4, g1] => { results := [.lit (.bool false)], args := [d1, d2, d3, d4], vars := [g1] }
  | _ => none }
def FnExactVisibleStarsWrongFalsely : Prop := fnExactVisibleStarsRow.holds Tryz.pinned (OpenSpec.ofChange fnExactVisibleStarsWrong)

/-- 'laws.FnExactTourLength': WHATEVER THE INPUT: true; the input reads as it did. -/
def fnExactTourLengthSpec : ChangeSpec := { name := "fnExactTourLength", vars := ["loop.example/g00955/impl.sines"], fn := fun _ => fun
  | [d1, d2, g1] => { results := [.lit (.bool true)], args := [d1, d2], vars := [g1] }
  | _ => none }
def fnExactTourLengthRow : OpenClaim := { program := "ytjghopepgfgebaagreatdoor", sum := "87cacbb3800eed0d648fdb75812c7511d9245df0bda1e6dcef0e5d312ea2041c", func := "loop.example/g00955/laws.FnExactTourLength", spec := "fnExactTourLength", unfollowed := true, recurses := true, named := ["loop.example/g00955/impl.sines"], apart := false, laid := [("loop.example/g00955/impl.sines", laid_loop_example_g00955_impl_sines)] }
def FnExactTourLengthSaid : Prop := fnExactTourLengthRow.holds Tryz.pinned (OpenSpec.ofChange fnExactTourLengthSpec)

/-- ITS FALSE NEIGHBOUR: 'it returns false'. Refute it at one input. -/
def fnExactTourLengthWrong : ChangeSpec := { name := "fnExactTourLength", vars := ["loop.example/g00955/impl.sines"], fn := fun _ => fun
  | [d1, d2, g1] => { results := [.lit (.bool false)], args := [d1, d2], vars := [g1] }
  | _ => none }
def FnExactTourLengthWrongFalsely : Prop := fnExactTourLengthRow.holds Tryz.pinned (OpenSpec.ofChange fnExactTourLengthWrong)

/- THE SECOND FORM. 'bulk': how many values and letters a reading holds, each counted each time it is reached (what is shared counts as often as it is met; a slice's spare places count too). A statement '..UptoSaid' is the law's where the arguments, and the package variables that the reading takes, are together of bulk at most 1048576: NARROWER than '..Said'. Prove '..Said' where nothing that the law and all that it calls make is longer than what came in: it says more and counts as full. Else prove '..UptoSaid'. A law counts once. -/
mutual
def uptoBulk {H : Type} : DataW H → Nat
  | .lit (.string bytes) => bytes.length + 1
  | .lit _ => 1
  | .nil => 1
  | .ptr d => uptoBulk d + 1
  | .slice elems spare => uptoBulkAll elems + uptoBulkAll spare + 1
  | .agg parts => uptoBulkAll parts + 1
  | .iface _ d => uptoBulk d + 1
  | .map entries => uptoBulkEntries entries + 1
  | .held _ => 1
def uptoBulkAll {H : Type} : List (DataW H) → Nat
  | [] => 0
  | d :: r => uptoBulk d + uptoBulkAll r
def uptoBulkEntries {H : Type} : List (Lit × DataW H) → Nat
  | [] => 0
  | x :: r => uptoBulkEntry x + uptoBulkEntries r
def uptoBulkEntry {H : Type} : Lit × DataW H → Nat
  | (.string bytes, d) => bytes.length + uptoBulk d + 1
  | (_, d) => uptoBulk d + 1
 end
def uptoSmall : (H : Type) → List (DataW H) → Bool := fun _ ds => decide (uptoBulkAll ds ≤ 1048576)
def OpenSpec.upto (s : _root_.Go.ChangeSpec) : _root_.Go.OpenSpec := { _root_.Go.OpenSpec.ofChange s with cond := some uptoSmall }

/-- 'laws.FnExactVisibleStars', WHERE WHAT IT READS IS OF BULK AT MOST 1048576: true; the input reads as it did. -/
def fnExactVisibleStarsUptoRow : OpenClaim := { program := "ytjghopepgfgebaagreatdoor", sum := "87cacbb3800eed0d648fdb75812c7511d9245df0bda1e6dcef0e5d312ea2041c", func := "loop.example/g00955/laws.FnExactVisibleStars", spec := "fnExactVisibleStars", inPlace := ["internal/reflectlite.ValueOf", "internal/reflectlite.Swapper", "(internal/reflectlite.Value).Len"], unfollowed := true, recurses := true, named := ["loop.example/g00955/impl.sines"], apart := false, laid := [("loop.example/g00955/impl.sines", laid_loop_example_g00955_impl_sines)], narrowed := true }
def FnExactVisibleStarsUptoSaid : Prop := fnExactVisibleStarsUptoRow.holds Tryz.pinned (OpenSpec.upto fnExactVisibleStarsSpec)

/-- 'laws.FnExactTourLength', WHERE WHAT IT READS IS OF BULK AT MOST 1048576: true; the input reads as it did. -/
def fnExactTourLengthUptoRow : OpenClaim := { program := "ytjghopepgfgebaagreatdoor", sum := "87cacbb3800eed0d648fdb75812c7511d9245df0bda1e6dcef0e5d312ea2041c", func := "loop.example/g00955/laws.FnExactTourLength", spec := "fnExactTourLength", unfollowed := true, recurses := true, named := ["loop.example/g00955/impl.sines"], apart := false, laid := [("loop.example/g00955/impl.sines", laid_loop_example_g00955_impl_sines)], narrowed := true }
def FnExactTourLengthUptoSaid : Prop := fnExactTourLengthUptoRow.holds Tryz.pinned (OpenSpec.upto fnExactTourLengthSpec)

end Rows
end Go.Proofs.YtjghopepgfgebaaGreatDoor
