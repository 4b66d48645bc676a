/-
  No cell of these rows narrows 'for every input' (looked for: loops, veiled, ifaces, maps, wideKeys, modest, calm, conditions, laid).
  DERIVED. THE GIVEN ROWS OF THIS SEAT. 5 by the template 'for every input the law returns true; each argument reads behind the call as it read before'; 0 by the template 'total and deterministic' (their statements: YtdgdfnngbaamkaaTotals.lean).
  GIVEN WITH THE SEED: the statements are not yours to turn. If you find one false, say at which input.
  Laid BY PROGRAM, IN A SANDBOX (cutbox-rows.mjs): the forced cells as the released guide's own fill.sh prints them over the translation 3f6074375ddc8a93… (all of the seat's roots in one cut). By AI agents, Wed Nov 11 2026. No macro, syntax, notation, axiom, sorry.
-/
import Derived.Test.YtdgdfnngbaamkaaChecked
import GoSem.Claim
import GoSem.ClaimJoined
import GoSem.ClaimMapViews
import Derived.JoinedTies
import Derived.KernelRfl
namespace Go.Proofs.Ytdgdfnngbaamkaa
/- THE CELL 'sum', in the pinned program and in every row, IS THE sha256 OF THE DUMP (.gsa) THAT YtdgdfnngbaamkaaProg.lean LOADS. Nothing in Lean hashes anything: it is a label: what it is worth is what the hold of that sum in a sandbox is worth. -/
noncomputable def Try.pinned : Pinned := { name := "ytdgdfnngbaamkaa", sum := "3f6074375ddc8a93d89a9b5c8242de598b8c94f668a429b78e4f77b1e6a1106e", checked := Try.checked }
namespace Rows
def none {H : Type} : Left H := { results := [], args := [] }

/-- 'laws.FnExactNormalAngle': WHATEVER THE INPUT: true; the input reads as it did. -/
def fnExactNormalAngleSpec : ChangeSpec := { name := "fnExactNormalAngle", fn := fun _ => fun
  | [d] => { results := [.lit (.bool true)], args := [d] }
  | _ => none }
def fnExactNormalAngleRow : OpenClaim := { program := "ytdgdfnngbaamkaa", sum := "3f6074375ddc8a93d89a9b5c8242de598b8c94f668a429b78e4f77b1e6a1106e", func := "loop.example/g00955/laws.FnExactNormalAngle", spec := "fnExactNormalAngle", apart := false }
def FnExactNormalAngleSaid : Prop := fnExactNormalAngleRow.holds Try.pinned (OpenSpec.ofChange fnExactNormalAngleSpec)

/-- ITS FALSE NEIGHBOUR: 'it returns false'. Refute it at one input. -/
def fnExactNormalAngleWrong : ChangeSpec := { name := "fnExactNormalAngle", fn := fun _ => fun
  | [d] => { results := [.lit (.bool false)], args := [d] }
  | _ => none }
def FnExactNormalAngleWrongFalsely : Prop := fnExactNormalAngleRow.holds Try.pinned (OpenSpec.ofChange fnExactNormalAngleWrong)

/-- 'laws.FnExactAngleBetween': WHATEVER THE INPUT: true; the input reads as it did. -/
def fnExactAngleBetweenSpec : ChangeSpec := { name := "fnExactAngleBetween", fn := fun _ => fun
  | [d1, d2] => { results := [.lit (.bool true)], args := [d1, d2] }
  | _ => none }
def fnExactAngleBetweenRow : OpenClaim := { program := "ytdgdfnngbaamkaa", sum := "3f6074375ddc8a93d89a9b5c8242de598b8c94f668a429b78e4f77b1e6a1106e", func := "loop.example/g00955/laws.FnExactAngleBetween", spec := "fnExactAngleBetween", apart := false }
def FnExactAngleBetweenSaid : Prop := fnExactAngleBetweenRow.holds Try.pinned (OpenSpec.ofChange fnExactAngleBetweenSpec)

/-- ITS FALSE NEIGHBOUR: 'it returns false'. Refute it at one input. -/
def fnExactAngleBetweenWrong : ChangeSpec := { name := "fnExactAngleBetween", fn := fun _ => fun
  | [d1, d2] => { results := [.lit (.bool false)], args := [d1, d2] }
  | _ => none }
def FnExactAngleBetweenWrongFalsely : Prop := fnExactAngleBetweenRow.holds Try.pinned (OpenSpec.ofChange fnExactAngleBetweenWrong)

/-- 'laws.FnExactSignedBetween': WHATEVER THE INPUT: true; the input reads as it did. -/
def fnExactSignedBetweenSpec : ChangeSpec := { name := "fnExactSignedBetween", fn := fun _ => fun
  | [d1, d2] => { results := [.lit (.bool true)], args := [d1, d2] }
  | _ => none }
def fnExactSignedBetweenRow : OpenClaim := { program := "ytdgdfnngbaamkaa", sum := "3f6074375ddc8a93d89a9b5c8242de598b8c94f668a429b78e4f77b1e6a1106e", func := "loop.example/g00955/laws.FnExactSignedBetween", spec := "fnExactSignedBetween", apart := false }
def FnExactSignedBetweenSaid : Prop := fnExactSignedBetweenRow.holds Try.pinned (OpenSpec.ofChange fnExactSignedBetweenSpec)

/-- ITS FALSE NEIGHBOUR: 'it returns false'. Refute it at one input. -/
def fnExactSignedBetweenWrong : ChangeSpec := { name := "fnExactSignedBetween", fn := fun _ => fun
  | [d1, d2] => { results := [.lit (.bool false)], args := [d1, d2] }
  | _ => none }
def FnExactSignedBetweenWrongFalsely : Prop := fnExactSignedBetweenRow.holds Try.pinned (OpenSpec.ofChange fnExactSignedBetweenWrong)

/-- 'laws.FnExactTurnTowards': WHATEVER THE INPUT: true; the input reads as it did. -/
def fnExactTurnTowardsSpec : ChangeSpec := { name := "fnExactTurnTowards", fn := fun _ => fun
  | [d1, d2, d3] => { results := [.lit (.bool true)], args := [d1, d2, d3] }
  | _ => none }
def fnExactTurnTowardsRow : OpenClaim := { program := "ytdgdfnngbaamkaa", sum := "3f6074375ddc8a93d89a9b5c8242de598b8c94f668a429b78e4f77b1e6a1106e", func := "loop.example/g00955/laws.FnExactTurnTowards", spec := "fnExactTurnTowards", apart := false }
def FnExactTurnTowardsSaid : Prop := fnExactTurnTowardsRow.holds Try.pinned (OpenSpec.ofChange fnExactTurnTowardsSpec)

/-- ITS FALSE NEIGHBOUR: 'it returns false'. Refute it at one input. -/
def fnExactTurnTowardsWrong : ChangeSpec := { name := "fnExactTurnTowards", fn := fun _ => fun
  | [d1, d2, d3] => { results := [.lit (.bool false)], args := [d1, d2, d3] }
  | _ => none }
def FnExactTurnTowardsWrongFalsely : Prop := fnExactTurnTowardsRow.holds Try.pinned (OpenSpec.ofChange fnExactTurnTowardsWrong)

/-- 'laws.FnExactAngleOfHours': WHATEVER THE INPUT: true; the input reads as it did. -/
def fnExactAngleOfHoursSpec : ChangeSpec := { name := "fnExactAngleOfHours", fn := fun _ => fun
  | [d1, d2] => { results := [.lit (.bool true)], args := [d1, d2] }
  | _ => none }
def fnExactAngleOfHoursRow : OpenClaim := { program := "ytdgdfnngbaamkaa", sum := "3f6074375ddc8a93d89a9b5c8242de598b8c94f668a429b78e4f77b1e6a1106e", func := "loop.example/g00955/laws.FnExactAngleOfHours", spec := "fnExactAngleOfHours", apart := false }
def FnExactAngleOfHoursSaid : Prop := fnExactAngleOfHoursRow.holds Try.pinned (OpenSpec.ofChange fnExactAngleOfHoursSpec)

/-- ITS FALSE NEIGHBOUR: 'it returns false'. Refute it at one input. -/
def fnExactAngleOfHoursWrong : ChangeSpec := { name := "fnExactAngleOfHours", fn := fun _ => fun
  | [d1, d2] => { results := [.lit (.bool false)], args := [d1, d2] }
  | _ => none }
def FnExactAngleOfHoursWrongFalsely : Prop := fnExactAngleOfHoursRow.holds Try.pinned (OpenSpec.ofChange fnExactAngleOfHoursWrong)

/- THE SECOND FORM. 'bulk': how many values and letters a reading holds, each counted each time it is reached (what is shared counts as often as it is met; a slice's spare places count too). A statement '..UptoSaid' is the law's where the arguments, and the package variables that the reading takes, are together of bulk at most 1048576: NARROWER than '..Said'. Prove '..Said' where nothing that the law and all that it calls make is longer than what came in: it says more and counts as full. Else prove '..UptoSaid'. A law counts once. -/
mutual
def uptoBulk {H : Type} : DataW H → Nat
  | .lit (.string bytes) => bytes.length + 1
  | .lit _ => 1
  | .nil => 1
  | .ptr d => uptoBulk d + 1
  | .slice elems spare => uptoBulkAll elems + uptoBulkAll spare + 1
  | .agg parts => uptoBulkAll parts + 1
  | .iface _ d => uptoBulk d + 1
  | .map entries => uptoBulkEntries entries + 1
  | .held _ => 1
def uptoBulkAll {H : Type} : List (DataW H) → Nat
  | [] => 0
  | d :: r => uptoBulk d + uptoBulkAll r
def uptoBulkEntries {H : Type} : List (Lit × DataW H) → Nat
  | [] => 0
  | x :: r => uptoBulkEntry x + uptoBulkEntries r
def uptoBulkEntry {H : Type} : Lit × DataW H → Nat
  | (.string bytes, d) => bytes.length + uptoBulk d + 1
  | (_, d) => uptoBulk d + 1
 end
def uptoSmall : (H : Type) → List (DataW H) → Bool := fun _ ds => decide (uptoBulkAll ds ≤ 1048576)
def OpenSpec.upto (s : _root_.Go.ChangeSpec) : _root_.Go.OpenSpec := { _root_.Go.OpenSpec.ofChange s with cond := some uptoSmall }

/-- 'laws.FnExactNormalAngle', WHERE WHAT IT READS IS OF BULK AT MOST 1048576: true; the input reads as it did. -/
def fnExactNormalAngleUptoRow : OpenClaim := { program := "ytdgdfnngbaamkaa", sum := "3f6074375ddc8a93d89a9b5c8242de598b8c94f668a429b78e4f77b1e6a1106e", func := "loop.example/g00955/laws.FnExactNormalAngle", spec := "fnExactNormalAngle", apart := false, narrowed := true }
def FnExactNormalAngleUptoSaid : Prop := fnExactNormalAngleUptoRow.holds Try.pinned (OpenSpec.upto fnExactNormalAngleSpec)

/-- 'laws.FnExactAngleBetween', WHERE WHAT IT READS IS OF BULK AT MOST 1048576: true; the input reads as it did. -/
def fnExactAngleBetweenUptoRow : OpenClaim := { program := "ytdgdfnngbaamkaa", sum := "3f6074375ddc8a93d89a9b5c8242de598b8c94f668a429b78e4f77b1e6a1106e", func := "loop.example/g00955/laws.FnExactAngleBetween", spec := "fnExactAngleBetween", apart := false, narrowed := true }
def FnExactAngleBetweenUptoSaid : Prop := fnExactAngleBetweenUptoRow.holds Try.pinned (OpenSpec.upto fnExactAngleBetweenSpec)

/-- 'laws.FnExactSignedBetween', WHERE WHAT IT READS IS OF BULK AT MOST 1048576: true; the input reads as it did. -/
def fnExactSignedBetweenUptoRow : OpenClaim := { program := "ytdgdfnngbaamkaa", sum := "3f6074375ddc8a93d89a9b5c8242de598b8c94f668a429b78e4f77b1e6a1106e", func := "loop.example/g00955/laws.FnExactSignedBetween", spec := "fnExactSignedBetween", apart := false, narrowed := true }
def FnExactSignedBetweenUptoSaid : Prop := fnExactSignedBetweenUptoRow.holds Try.pinned (OpenSpec.upto fnExactSignedBetweenSpec)

/-- 'laws.FnExactTurnTowards', WHERE WHAT IT READS IS OF BULK AT MOST 1048576: true; the input reads as it did. -/
def fnExactTurnTowardsUptoRow : OpenClaim := { program := "ytdgdfnngbaamkaa", sum := "3f6074375ddc8a93d89a9b5c8242de598b8c94f668a429b78e4f77b1e6a1106e", func := "loop.example/g00955/laws.FnExactTurnTowards", spec := "fnExactTurnTowards", apart := false, narrowed := true }
def FnExactTurnTowardsUptoSaid : Prop := fnExactTurnTowardsUptoRow.holds Try.pinned (OpenSpec.upto fnExactTurnTowardsSpec)

/-- 'laws.FnExactAngleOfHours', WHERE WHAT IT READS IS OF BULK AT MOST 1048576: true; the input reads as it did. -/
def fnExactAngleOfHoursUptoRow : OpenClaim := { program := "ytdgdfnngbaamkaa", sum := "3f6074375ddc8a93d89a9b5c8242de598b8c94f668a429b78e4f77b1e6a1106e", func := "loop.example/g00955/laws.FnExactAngleOfHours", spec := "fnExactAngleOfHours", apart := false, narrowed := true }
def FnExactAngleOfHoursUptoSaid : Prop := fnExactAngleOfHoursUptoRow.holds Try.pinned (OpenSpec.upto fnExactAngleOfHoursSpec)

end Rows
end Go.Proofs.Ytdgdfnngbaamkaa
