/-
  No cell of these rows narrows 'for every input' (looked for: loops, veiled, ifaces, maps, wideKeys, modest, calm, conditions, laid).
  DERIVED. THE GIVEN ROWS OF THIS SEAT. 3 by the template 'for every input the law returns true; each argument reads behind the call as it read before'; 0 by the template 'total and deterministic' (their statements: YtcdmoajehcchnaaTotals.lean).
  GIVEN WITH THE SEED: the statements are not yours to turn. If you find one false, say at which input.
  Laid BY PROGRAM, IN A SANDBOX (cutbox-rows.mjs): the forced cells as the released guide's own fill.sh prints them over the translation 4508f554a0ab2515… (all of the seat's roots in one cut). By AI agents, Wed Nov 11 2026. No macro, syntax, notation, axiom, sorry.
-/
import Derived.Test.YtcdmoajehcchnaaChecked
import GoSem.Claim
import GoSem.ClaimJoined
import GoSem.ClaimMapViews
import Derived.JoinedTies
import Derived.KernelRfl
namespace Go.Proofs.Ytcdmoajehcchnaa
/- THE CELL 'sum', in the pinned program and in every row, IS THE sha256 OF THE DUMP (.gsa) THAT YtcdmoajehcchnaaProg.lean LOADS. Nothing in Lean hashes anything: it is a label: what it is worth is what the hold of that sum in a sandbox is worth. -/
noncomputable def Try.pinned : Pinned := { name := "ytcdmoajehcchnaa", sum := "4508f554a0ab2515c1700294a6686547d57be73bfe0a77567a4bbd3975271dea", checked := Try.checked }
namespace Rows
def none {H : Type} : Left H := { results := [], args := [] }

/-- 'laws.FnExactHoursOf': WHATEVER THE INPUT: true; the input reads as it did. -/
def fnExactHoursOfSpec : ChangeSpec := { name := "fnExactHoursOf", fn := fun _ => fun
  | [d] => { results := [.lit (.bool true)], args := [d] }
  | _ => none }
def fnExactHoursOfRow : OpenClaim := { program := "ytcdmoajehcchnaa", sum := "4508f554a0ab2515c1700294a6686547d57be73bfe0a77567a4bbd3975271dea", func := "loop.example/g00955/laws.FnExactHoursOf", spec := "fnExactHoursOf", apart := false }
def FnExactHoursOfSaid : Prop := fnExactHoursOfRow.holds Try.pinned (OpenSpec.ofChange fnExactHoursOfSpec)

/-- ITS FALSE NEIGHBOUR: 'it returns false'. Refute it at one input. -/
def fnExactHoursOfWrong : ChangeSpec := { name := "fnExactHoursOf", fn := fun _ => fun
  | [d] => { results := [.lit (.bool false)], args := [d] }
  | _ => none }
def FnExactHoursOfWrongFalsely : Prop := fnExactHoursOfRow.holds Try.pinned (OpenSpec.ofChange fnExactHoursOfWrong)

/-- 'laws.FnExactValidMoment': WHATEVER THE INPUT: true; the input reads as it did. -/
def fnExactValidMomentSpec : ChangeSpec := { name := "fnExactValidMoment", fn := fun _ => fun
  | [d] => { results := [.lit (.bool true)], args := [d] }
  | _ => none }
def fnExactValidMomentRow : OpenClaim := { program := "ytcdmoajehcchnaa", sum := "4508f554a0ab2515c1700294a6686547d57be73bfe0a77567a4bbd3975271dea", func := "loop.example/g00955/laws.FnExactValidMoment", spec := "fnExactValidMoment", apart := false }
def FnExactValidMomentSaid : Prop := fnExactValidMomentRow.holds Try.pinned (OpenSpec.ofChange fnExactValidMomentSpec)

/-- ITS FALSE NEIGHBOUR: 'it returns false'. Refute it at one input. -/
def fnExactValidMomentWrong : ChangeSpec := { name := "fnExactValidMoment", fn := fun _ => fun
  | [d] => { results := [.lit (.bool false)], args := [d] }
  | _ => none }
def FnExactValidMomentWrongFalsely : Prop := fnExactValidMomentRow.holds Try.pinned (OpenSpec.ofChange fnExactValidMomentWrong)

/-- 'laws.FnExactWeekDay': WHATEVER THE INPUT: true; the input reads as it did. -/
def fnExactWeekDaySpec : ChangeSpec := { name := "fnExactWeekDay", fn := fun _ => fun
  | [d] => { results := [.lit (.bool true)], args := [d] }
  | _ => none }
def fnExactWeekDayRow : OpenClaim := { program := "ytcdmoajehcchnaa", sum := "4508f554a0ab2515c1700294a6686547d57be73bfe0a77567a4bbd3975271dea", func := "loop.example/g00955/laws.FnExactWeekDay", spec := "fnExactWeekDay", apart := false }
def FnExactWeekDaySaid : Prop := fnExactWeekDayRow.holds Try.pinned (OpenSpec.ofChange fnExactWeekDaySpec)

/-- ITS FALSE NEIGHBOUR: 'it returns false'. Refute it at one input. -/
def fnExactWeekDayWrong : ChangeSpec := { name := "fnExactWeekDay", fn := fun _ => fun
  | [d] => { results := [.lit (.bool false)], args := [d] }
  | _ => none }
def FnExactWeekDayWrongFalsely : Prop := fnExactWeekDayRow.holds Try.pinned (OpenSpec.ofChange fnExactWeekDayWrong)

/- THE SECOND FORM. 'bulk': how many values and letters a reading holds, each counted each time it is reached (what is shared counts as often as it is met; a slice's spare places count too). A statement '..UptoSaid' is the law's where the arguments, and the package variables that the reading takes, are together of bulk at most 1048576: NARROWER than '..Said'. Prove '..Said' where nothing that the law and all that it calls make is longer than what came in: it says more and counts as full. Else prove '..UptoSaid'. A law counts once. -/
mutual
def uptoBulk {H : Type} : DataW H → Nat
  | .lit (.string bytes) => bytes.length + 1
  | .lit _ => 1
  | .nil => 1
  | .ptr d => uptoBulk d + 1
  | .slice elems spare => uptoBulkAll elems + uptoBulkAll spare + 1
  | .agg parts => uptoBulkAll parts + 1
  | .iface _ d => uptoBulk d + 1
  | .map entries => uptoBulkEntries entries + 1
  | .held _ => 1
def uptoBulkAll {H : Type} : List (DataW H) → Nat
  | [] => 0
  | d :: r => uptoBulk d + uptoBulkAll r
def uptoBulkEntries {H : Type} : List (Lit × DataW H) → Nat
  | [] => 0
  | x :: r => uptoBulkEntry x + uptoBulkEntries r
def uptoBulkEntry {H : Type} : Lit × DataW H → Nat
  | (.string bytes, d) => bytes.length + uptoBulk d + 1
  | (_, d) => uptoBulk d + 1
 end
def uptoSmall : (H : Type) → List (DataW H) → Bool := fun _ ds => decide (uptoBulkAll ds ≤ 1048576)
def OpenSpec.upto (s : _root_.Go.ChangeSpec) : _root_.Go.OpenSpec := { _root_.Go.OpenSpec.ofChange s with cond := some uptoSmall }

/-- 'laws.FnExactHoursOf', WHERE WHAT IT READS IS OF BULK AT MOST 1048576: true; the input reads as it did. -/
def fnExactHoursOfUptoRow : OpenClaim := { program := "ytcdmoajehcchnaa", sum := "4508f554a0ab2515c1700294a6686547d57be73bfe0a77567a4bbd3975271dea", func := "loop.example/g00955/laws.FnExactHoursOf", spec := "fnExactHoursOf", apart := false, narrowed := true }
def FnExactHoursOfUptoSaid : Prop := fnExactHoursOfUptoRow.holds Try.pinned (OpenSpec.upto fnExactHoursOfSpec)

/-- 'laws.FnExactValidMoment', WHERE WHAT IT READS IS OF BULK AT MOST 1048576: true; the input reads as it did. -/
def fnExactValidMomentUptoRow : OpenClaim := { program := "ytcdmoajehcchnaa", sum := "4508f554a0ab2515c1700294a6686547d57be73bfe0a77567a4bbd3975271dea", func := "loop.example/g00955/laws.FnExactValidMoment", spec := "fnExactValidMoment", apart := false, narrowed := true }
def FnExactValidMomentUptoSaid : Prop := fnExactValidMomentUptoRow.holds Try.pinned (OpenSpec.upto fnExactValidMomentSpec)

/-- 'laws.FnExactWeekDay', WHERE WHAT IT READS IS OF BULK AT MOST 1048576: true; the input reads as it did. -/
def fnExactWeekDayUptoRow : OpenClaim := { program := "ytcdmoajehcchnaa", sum := "4508f554a0ab2515c1700294a6686547d57be73bfe0a77567a4bbd3975271dea", func := "loop.example/g00955/laws.FnExactWeekDay", spec := "fnExactWeekDay", apart := false, narrowed := true }
def FnExactWeekDayUptoSaid : Prop := fnExactWeekDayUptoRow.holds Try.pinned (OpenSpec.upto fnExactWeekDaySpec)

end Rows
end Go.Proofs.Ytcdmoajehcchnaa
