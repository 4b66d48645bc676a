/-
  No cell of these rows narrows 'for every input' (looked for: loops, veiled, ifaces, maps, wideKeys, modest, calm, conditions, laid).
  DERIVED. THE GIVEN ROWS OF THIS SEAT. 5 by the template 'for every input the law returns true; each argument reads behind the call as it read before'; 0 by the template 'total and deterministic' (their statements: YtoopjbhjdjbmeaaTotals.lean).
  GIVEN WITH THE SEED: the statements are not yours to turn. If you find one false, say at which input.
  Laid BY PROGRAM, IN A SANDBOX (cutbox-rows.mjs): the forced cells as the released guide's own fill.sh prints them over the translation 66ef856b6f2aa30d… (all of the seat's roots in one cut). By AI agents, Wed Nov 11 2026. No macro, syntax, notation, axiom, sorry.
-/
import Derived.Test.YtoopjbhjdjbmeaaChecked
import GoSem.Claim
import GoSem.ClaimJoined
import GoSem.ClaimMapViews
import Derived.JoinedTies
import Derived.KernelRfl
namespace Go.Proofs.Ytoopjbhjdjbmeaa
/- THE CELL 'sum', in the pinned program and in every row, IS THE sha256 OF THE DUMP (.gsa) THAT YtoopjbhjdjbmeaaProg.lean LOADS. Nothing in Lean hashes anything: it is a label: what it is worth is what the hold of that sum in a sandbox is worth. -/
noncomputable def Try.pinned : Pinned := { name := "ytoopjbhjdjbmeaa", sum := "66ef856b6f2aa30ddfcbf6722ef5ad313d3688270932137a70284ea793771ab8", checked := Try.checked }
namespace Rows
def none {H : Type} : Left H := { results := [], args := [] }

/-- 'laws.FnExactValidStar': WHATEVER THE INPUT: true; the input reads as it did. -/
def fnExactValidStarSpec : ChangeSpec := { name := "fnExactValidStar", fn := fun _ => fun
  | [d] => { results := [.lit (.bool true)], args := [d] }
  | _ => none }
def fnExactValidStarRow : OpenClaim := { program := "ytoopjbhjdjbmeaa", sum := "66ef856b6f2aa30ddfcbf6722ef5ad313d3688270932137a70284ea793771ab8", func := "loop.example/g00955/laws.FnExactValidStar", spec := "fnExactValidStar", apart := false }
def FnExactValidStarSaid : Prop := fnExactValidStarRow.holds Try.pinned (OpenSpec.ofChange fnExactValidStarSpec)

/-- ITS FALSE NEIGHBOUR: 'it returns false'. Refute it at one input. -/
def fnExactValidStarWrong : ChangeSpec := { name := "fnExactValidStar", fn := fun _ => fun
  | [d] => { results := [.lit (.bool false)], args := [d] }
  | _ => none }
def FnExactValidStarWrongFalsely : Prop := fnExactValidStarRow.holds Try.pinned (OpenSpec.ofChange fnExactValidStarWrong)

/-- 'laws.FnExactValidStars': WHATEVER THE INPUT: true; the input reads as it did. -/
def fnExactValidStarsSpec : ChangeSpec := { name := "fnExactValidStars", fn := fun _ => fun
  | [d] => { results := [.lit (.bool true)], args := [d] }
  | _ => none }
def fnExactValidStarsRow : OpenClaim := { program := "ytoopjbhjdjbmeaa", sum := "66ef856b6f2aa30ddfcbf6722ef5ad313d3688270932137a70284ea793771ab8", func := "loop.example/g00955/laws.FnExactValidStars", spec := "fnExactValidStars", apart := false }
def FnExactValidStarsSaid : Prop := fnExactValidStarsRow.holds Try.pinned (OpenSpec.ofChange fnExactValidStarsSpec)

/-- ITS FALSE NEIGHBOUR: 'it returns false'. Refute it at one input. -/
def fnExactValidStarsWrong : ChangeSpec := { name := "fnExactValidStars", fn := fun _ => fun
  | [d] => { results := [.lit (.bool false)], args := [d] }
  | _ => none }
def FnExactValidStarsWrongFalsely : Prop := fnExactValidStarsRow.holds Try.pinned (OpenSpec.ofChange fnExactValidStarsWrong)

/-- 'laws.FnExactSameStars': WHATEVER THE INPUT: true; the input reads as it did. -/
def fnExactSameStarsSpec : ChangeSpec := { name := "fnExactSameStars", fn := fun _ => fun
  | [d1, d2] => { results := [.lit (.bool true)], args := [d1, d2] }
  | _ => none }
def fnExactSameStarsRow : OpenClaim := { program := "ytoopjbhjdjbmeaa", sum := "66ef856b6f2aa30ddfcbf6722ef5ad313d3688270932137a70284ea793771ab8", func := "loop.example/g00955/laws.FnExactSameStars", spec := "fnExactSameStars", apart := false }
def FnExactSameStarsSaid : Prop := fnExactSameStarsRow.holds Try.pinned (OpenSpec.ofChange fnExactSameStarsSpec)

/-- ITS FALSE NEIGHBOUR: 'it returns false'. Refute it at one input. -/
def fnExactSameStarsWrong : ChangeSpec := { name := "fnExactSameStars", fn := fun _ => fun
  | [d1, d2] => { results := [.lit (.bool false)], args := [d1, d2] }
  | _ => none }
def FnExactSameStarsWrongFalsely : Prop := fnExactSameStarsRow.holds Try.pinned (OpenSpec.ofChange fnExactSameStarsWrong)

/-- 'laws.FnExactAddStar': WHATEVER THE INPUT: true; the input reads as it did. -/
def fnExactAddStarSpec : ChangeSpec := { name := "fnExactAddStar", fn := fun _ => fun
  | [d1, d2] => { results := [.lit (.bool true)], args := [d1, d2] }
  | _ => none }
def fnExactAddStarRow : OpenClaim := { program := "ytoopjbhjdjbmeaa", sum := "66ef856b6f2aa30ddfcbf6722ef5ad313d3688270932137a70284ea793771ab8", func := "loop.example/g00955/laws.FnExactAddStar", spec := "fnExactAddStar", unfollowed := true, recurses := true, apart := false }
def FnExactAddStarSaid : Prop := fnExactAddStarRow.holds Try.pinned (OpenSpec.ofChange fnExactAddStarSpec)

/-- ITS FALSE NEIGHBOUR: 'it returns false'. Refute it at one input. -/
def fnExactAddStarWrong : ChangeSpec := { name := "fnExactAddStar", fn := fun _ => fun
  | [d1, d2] => { results := [.lit (.bool false)], args := [d1, d2] }
  | _ => none }
def FnExactAddStarWrongFalsely : Prop := fnExactAddStarRow.holds Try.pinned (OpenSpec.ofChange fnExactAddStarWrong)

/-- 'laws.FnExactDropStar': WHATEVER THE INPUT: true; the input reads as it did. -/
def fnExactDropStarSpec : ChangeSpec := { name := "fnExactDropStar", fn := fun _ => fun
  | [d1, d2] => { results := [.lit (.bool true)], args := [d1, d2] }
  | _ => none }
def fnExactDropStarRow : OpenClaim := { program := "ytoopjbhjdjbmeaa", sum := "66ef856b6f2aa30ddfcbf6722ef5ad313d3688270932137a70284ea793771ab8", func := "loop.example/g00955/laws.FnExactDropStar", spec := "fnExactDropStar", apart := false }
def FnExactDropStarSaid : Prop := fnExactDropStarRow.holds Try.pinned (OpenSpec.ofChange fnExactDropStarSpec)

/-- ITS FALSE NEIGHBOUR: 'it returns false'. Refute it at one input. -/
def fnExactDropStarWrong : ChangeSpec := { name := "fnExactDropStar", fn := fun _ => fun
  | [d1, d2] => { results := [.lit (.bool false)], args := [d1, d2] }
  | _ => none }
def FnExactDropStarWrongFalsely : Prop := fnExactDropStarRow.holds Try.pinned (OpenSpec.ofChange fnExactDropStarWrong)

/- THE SECOND FORM. 'bulk': how many values and letters a reading holds, each counted each time it is reached (what is shared counts as often as it is met; a slice's spare places count too). A statement '..UptoSaid' is the law's where the arguments, and the package variables that the reading takes, are together of bulk at most 1048576: NARROWER than '..Said'. Prove '..Said' where nothing that the law and all that it calls make is longer than what came in: it says more and counts as full. Else prove '..UptoSaid'. A law counts once. -/
mutual
def uptoBulk {H : Type} : DataW H → Nat
  | .lit (.string bytes) => bytes.length + 1
  | .lit _ => 1
  | .nil => 1
  | .ptr d => uptoBulk d + 1
  | .slice elems spare => uptoBulkAll elems + uptoBulkAll spare + 1
  | .agg parts => uptoBulkAll parts + 1
  | .iface _ d => uptoBulk d + 1
  | .map entries => uptoBulkEntries entries + 1
  | .held _ => 1
def uptoBulkAll {H : Type} : List (DataW H) → Nat
  | [] => 0
  | d :: r => uptoBulk d + uptoBulkAll r
def uptoBulkEntries {H : Type} : List (Lit × DataW H) → Nat
  | [] => 0
  | x :: r => uptoBulkEntry x + uptoBulkEntries r
def uptoBulkEntry {H : Type} : Lit × DataW H → Nat
  | (.string bytes, d) => bytes.length + uptoBulk d + 1
  | (_, d) => uptoBulk d + 1
 end
def uptoSmall : (H : Type) → List (DataW H) → Bool := fun _ ds => decide (uptoBulkAll ds ≤ 1048576)
def OpenSpec.upto (s : _root_.Go.ChangeSpec) : _root_.Go.OpenSpec := { _root_.Go.OpenSpec.ofChange s with cond := some uptoSmall }

/-- 'laws.FnExactValidStar', WHERE WHAT IT READS IS OF BULK AT MOST 1048576: true; the input reads as it did. -/
def fnExactValidStarUptoRow : OpenClaim := { program := "ytoopjbhjdjbmeaa", sum := "66ef856b6f2aa30ddfcbf6722ef5ad313d3688270932137a70284ea793771ab8", func := "loop.example/g00955/laws.FnExactValidStar", spec := "fnExactValidStar", apart := false, narrowed := true }
def FnExactValidStarUptoSaid : Prop := fnExactValidStarUptoRow.holds Try.pinned (OpenSpec.upto fnExactValidStarSpec)

/-- 'laws.FnExactValidStars', WHERE WHAT IT READS IS OF BULK AT MOST 1048576: true; the input reads as it did. -/
def fnExactValidStarsUptoRow : OpenClaim := { program := "ytoopjbhjdjbmeaa", sum := "66ef856b6f2aa30ddfcbf6722ef5ad313d3688270932137a70284ea793771ab8", func := "loop.example/g00955/laws.FnExactValidStars", spec := "fnExactValidStars", apart := false, narrowed := true }
def FnExactValidStarsUptoSaid : Prop := fnExactValidStarsUptoRow.holds Try.pinned (OpenSpec.upto fnExactValidStarsSpec)

/-- 'laws.FnExactSameStars', WHERE WHAT IT READS IS OF BULK AT MOST 1048576: true; the input reads as it did. -/
def fnExactSameStarsUptoRow : OpenClaim := { program := "ytoopjbhjdjbmeaa", sum := "66ef856b6f2aa30ddfcbf6722ef5ad313d3688270932137a70284ea793771ab8", func := "loop.example/g00955/laws.FnExactSameStars", spec := "fnExactSameStars", apart := false, narrowed := true }
def FnExactSameStarsUptoSaid : Prop := fnExactSameStarsUptoRow.holds Try.pinned (OpenSpec.upto fnExactSameStarsSpec)

/-- 'laws.FnExactAddStar', WHERE WHAT IT READS IS OF BULK AT MOST 1048576: true; the input reads as it did. -/
def fnExactAddStarUptoRow : OpenClaim := { program := "ytoopjbhjdjbmeaa", sum := "66ef856b6f2aa30ddfcbf6722ef5ad313d3688270932137a70284ea793771ab8", func := "loop.example/g00955/laws.FnExactAddStar", spec := "fnExactAddStar", unfollowed := true, recurses := true, apart := false, narrowed := true }
def FnExactAddStarUptoSaid : Prop := fnExactAddStarUptoRow.holds Try.pinned (OpenSpec.upto fnExactAddStarSpec)

/-- 'laws.FnExactDropStar', WHERE WHAT IT READS IS OF BULK AT MOST 1048576: true; the input reads as it did. -/
def fnExactDropStarUptoRow : OpenClaim := { program := "ytoopjbhjdjbmeaa", sum := "66ef856b6f2aa30ddfcbf6722ef5ad313d3688270932137a70284ea793771ab8", func := "loop.example/g00955/laws.FnExactDropStar", spec := "fnExactDropStar", apart := false, narrowed := true }
def FnExactDropStarUptoSaid : Prop := fnExactDropStarUptoRow.holds Try.pinned (OpenSpec.upto fnExactDropStarSpec)

end Rows
end Go.Proofs.Ytoopjbhjdjbmeaa
