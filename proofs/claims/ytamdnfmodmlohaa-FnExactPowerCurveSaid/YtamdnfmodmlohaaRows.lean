/-
  No cell of these rows narrows 'for every input' (looked for: loops, veiled, ifaces, maps, wideKeys, modest, calm, conditions, laid).
  DERIVED. THE GIVEN ROWS OF THIS SEAT. 6 by the template 'for every input the law returns true; each argument reads behind the call as it read before'; 0 by the template 'total and deterministic' (their statements: YtamdnfmodmlohaaTotals.lean).
  GIVEN WITH THE SEED: the statements are not yours to turn. If you find one false, say at which input.
  Laid BY PROGRAM, IN A SANDBOX (cutbox-rows.mjs): the forced cells as the released guide's own fill.sh prints them over the translation 0f391eb16adf9fbd… (all of the seat's roots in one cut). By AI agents, Wed Nov 11 2026. No macro, syntax, notation, axiom, sorry.
-/
import Derived.Test.YtamdnfmodmlohaaChecked
import GoSem.Claim
import GoSem.ClaimJoined
import GoSem.ClaimMapViews
import Derived.JoinedTies
import Derived.KernelRfl
namespace Go.Proofs.Ytamdnfmodmlohaa
/- THE CELL 'sum', in the pinned program and in every row, IS THE sha256 OF THE DUMP (.gsa) THAT YtamdnfmodmlohaaProg.lean LOADS. Nothing in Lean hashes anything: it is a label: what it is worth is what the hold of that sum in a sandbox is worth. -/
noncomputable def Try.pinned : Pinned := { name := "ytamdnfmodmlohaa", sum := "0f391eb16adf9fbd039813ec47d03361ef14234a064c56c3e4b56f0ba0fc96ff", checked := Try.checked }
namespace Rows
def none {H : Type} : Left H := { results := [], args := [] }

/-- 'laws.FnExactValidCurve': WHATEVER THE INPUT: true; the input reads as it did. -/
def fnExactValidCurveSpec : ChangeSpec := { name := "fnExactValidCurve", fn := fun _ => fun
  | [d] => { results := [.lit (.bool true)], args := [d] }
  | _ => none }
def fnExactValidCurveRow : OpenClaim := { program := "ytamdnfmodmlohaa", sum := "0f391eb16adf9fbd039813ec47d03361ef14234a064c56c3e4b56f0ba0fc96ff", func := "loop.example/g00955/laws.FnExactValidCurve", spec := "fnExactValidCurve", apart := false }
def FnExactValidCurveSaid : Prop := fnExactValidCurveRow.holds Try.pinned (OpenSpec.ofChange fnExactValidCurveSpec)

/-- ITS FALSE NEIGHBOUR: 'it returns false'. Refute it at one input. -/
def fnExactValidCurveWrong : ChangeSpec := { name := "fnExactValidCurve", fn := fun _ => fun
  | [d] => { results := [.lit (.bool false)], args := [d] }
  | _ => none }
def FnExactValidCurveWrongFalsely : Prop := fnExactValidCurveRow.holds Try.pinned (OpenSpec.ofChange fnExactValidCurveWrong)

/-- 'laws.FnExactCurveAt': WHATEVER THE INPUT: true; the input reads as it did. -/
def fnExactCurveAtSpec : ChangeSpec := { name := "fnExactCurveAt", fn := fun _ => fun
  | [d1, d2] => { results := [.lit (.bool true)], args := [d1, d2] }
  | _ => none }
def fnExactCurveAtRow : OpenClaim := { program := "ytamdnfmodmlohaa", sum := "0f391eb16adf9fbd039813ec47d03361ef14234a064c56c3e4b56f0ba0fc96ff", func := "loop.example/g00955/laws.FnExactCurveAt", spec := "fnExactCurveAt", unfollowed := true, recurses := true, apart := false }
def FnExactCurveAtSaid : Prop := fnExactCurveAtRow.holds Try.pinned (OpenSpec.ofChange fnExactCurveAtSpec)

/-- ITS FALSE NEIGHBOUR: 'it returns false'. Refute it at one input. -/
def fnExactCurveAtWrong : ChangeSpec := { name := "fnExactCurveAt", fn := fun _ => fun
  | [d1, d2] => { results := [.lit (.bool false)], args := [d1, d2] }
  | _ => none }
def FnExactCurveAtWrongFalsely : Prop := fnExactCurveAtRow.holds Try.pinned (OpenSpec.ofChange fnExactCurveAtWrong)

/-- 'laws.FnExactCurveBack': WHATEVER THE INPUT: true; the input reads as it did. -/
def fnExactCurveBackSpec : ChangeSpec := { name := "fnExactCurveBack", fn := fun _ => fun
  | [d1, d2] => { results := [.lit (.bool true)], args := [d1, d2] }
  | _ => none }
def fnExactCurveBackRow : OpenClaim := { program := "ytamdnfmodmlohaa", sum := "0f391eb16adf9fbd039813ec47d03361ef14234a064c56c3e4b56f0ba0fc96ff", func := "loop.example/g00955/laws.FnExactCurveBack", spec := "fnExactCurveBack", unfollowed := true, recurses := true, apart := false }
def FnExactCurveBackSaid : Prop := fnExactCurveBackRow.holds Try.pinned (OpenSpec.ofChange fnExactCurveBackSpec)

/-- ITS FALSE NEIGHBOUR: 'it returns false'. Refute it at one input. -/
def fnExactCurveBackWrong : ChangeSpec := { name := "fnExactCurveBack", fn := fun _ => fun
  | [d1, d2] => { results := [.lit (.bool false)], args := [d1, d2] }
  | _ => none }
def FnExactCurveBackWrongFalsely : Prop := fnExactCurveBackRow.holds Try.pinned (OpenSpec.ofChange fnExactCurveBackWrong)

/-- 'laws.FnExactComposeCurves': WHATEVER THE INPUT: true; the input reads as it did. -/
def fnExactComposeCurvesSpec : ChangeSpec := { name := "fnExactComposeCurves", fn := fun _ => fun
  | [d1, d2] => { results := [.lit (.bool true)], args := [d1, d2] }
  | _ => none }
def fnExactComposeCurvesRow : OpenClaim := { program := "ytamdnfmodmlohaa", sum := "0f391eb16adf9fbd039813ec47d03361ef14234a064c56c3e4b56f0ba0fc96ff", func := "loop.example/g00955/laws.FnExactComposeCurves", spec := "fnExactComposeCurves", unfollowed := true, recurses := true, apart := false }
def FnExactComposeCurvesSaid : Prop := fnExactComposeCurvesRow.holds Try.pinned (OpenSpec.ofChange fnExactComposeCurvesSpec)

/-- ITS FALSE NEIGHBOUR: 'it returns false'. Refute it at one input. -/
def fnExactComposeCurvesWrong : ChangeSpec := { name := "fnExactComposeCurves", fn := fun _ => fun
  | [d1, d2] => { results := [.lit (.bool false)], args := [d1, d2] }
  | _ => none }
def FnExactComposeCurvesWrongFalsely : Prop := fnExactComposeCurvesRow.holds Try.pinned (OpenSpec.ofChange fnExactComposeCurvesWrong)

/-- 'laws.FnExactPowerCurve': WHATEVER THE INPUT: true; the input reads as it did. -/
def fnExactPowerCurveSpec : ChangeSpec := { name := "fnExactPowerCurve", fn := fun _ => fun
  | [d] => { results := [.lit (.bool true)], args := [d] }
  | _ => none }
def fnExactPowerCurveRow : OpenClaim := { program := "ytamdnfmodmlohaa", sum := "0f391eb16adf9fbd039813ec47d03361ef14234a064c56c3e4b56f0ba0fc96ff", func := "loop.example/g00955/laws.FnExactPowerCurve", spec := "fnExactPowerCurve", unfollowed := true, recurses := true, apart := false }
def FnExactPowerCurveSaid : Prop := fnExactPowerCurveRow.holds Try.pinned (OpenSpec.ofChange fnExactPowerCurveSpec)

/-- ITS FALSE NEIGHBOUR: 'it returns false'. Refute it at one input. -/
def fnExactPowerCurveWrong : ChangeSpec := { name := "fnExactPowerCurve", fn := fun _ => fun
  | [d] => { results := [.lit (.bool false)], args := [d] }
  | _ => none }
def FnExactPowerCurveWrongFalsely : Prop := fnExactPowerCurveRow.holds Try.pinned (OpenSpec.ofChange fnExactPowerCurveWrong)

/-- 'laws.FnExactRaiseBlack': WHATEVER THE INPUT: true; the input reads as it did. -/
def fnExactRaiseBlackSpec : ChangeSpec := { name := "fnExactRaiseBlack", fn := fun _ => fun
  | [d1, d2] => { results := [.lit (.bool true)], args := [d1, d2] }
  | _ => none }
def fnExactRaiseBlackRow : OpenClaim := { program := "ytamdnfmodmlohaa", sum := "0f391eb16adf9fbd039813ec47d03361ef14234a064c56c3e4b56f0ba0fc96ff", func := "loop.example/g00955/laws.FnExactRaiseBlack", spec := "fnExactRaiseBlack", apart := false }
def FnExactRaiseBlackSaid : Prop := fnExactRaiseBlackRow.holds Try.pinned (OpenSpec.ofChange fnExactRaiseBlackSpec)

/-- ITS FALSE NEIGHBOUR: 'it returns false'. Refute it at one input. -/
def fnExactRaiseBlackWrong : ChangeSpec := { name := "fnExactRaiseBlack", fn := fun _ => fun
  | [d1, d2] => { results := [.lit (.bool false)], args := [d1, d2] }
  | _ => none }
def FnExactRaiseBlackWrongFalsely : Prop := fnExactRaiseBlackRow.holds Try.pinned (OpenSpec.ofChange fnExactRaiseBlackWrong)

/- THE SECOND FORM. 'bulk': how many values and letters a reading holds, each counted each time it is reached (what is shared counts as often as it is met; a slice's spare places count too). A statement '..UptoSaid' is the law's where the arguments, and the package variables that the reading takes, are together of bulk at most 1048576: NARROWER than '..Said'. Prove '..Said' where nothing that the law and all that it calls make is longer than what came in: it says more and counts as full. Else prove '..UptoSaid'. A law counts once. -/
mutual
def uptoBulk {H : Type} : DataW H → Nat
  | .lit (.string bytes) => bytes.length + 1
  | .lit _ => 1
  | .nil => 1
  | .ptr d => uptoBulk d + 1
  | .slice elems spare => uptoBulkAll elems + uptoBulkAll spare + 1
  | .agg parts => uptoBulkAll parts + 1
  | .iface _ d => uptoBulk d + 1
  | .map entries => uptoBulkEntries entries + 1
  | .held _ => 1
def uptoBulkAll {H : Type} : List (DataW H) → Nat
  | [] => 0
  | d :: r => uptoBulk d + uptoBulkAll r
def uptoBulkEntries {H : Type} : List (Lit × DataW H) → Nat
  | [] => 0
  | x :: r => uptoBulkEntry x + uptoBulkEntries r
def uptoBulkEntry {H : Type} : Lit × DataW H → Nat
  | (.string bytes, d) => bytes.length + uptoBulk d + 1
  | (_, d) => uptoBulk d + 1
 end
def uptoSmall : (H : Type) → List (DataW H) → Bool := fun _ ds => decide (uptoBulkAll ds ≤ 1048576)
def OpenSpec.upto (s : _root_.Go.ChangeSpec) : _root_.Go.OpenSpec := { _root_.Go.OpenSpec.ofChange s with cond := some uptoSmall }

/-- 'laws.FnExactValidCurve', WHERE WHAT IT READS IS OF BULK AT MOST 1048576: true; the input reads as it did. -/
def fnExactValidCurveUptoRow : OpenClaim := { program := "ytamdnfmodmlohaa", sum := "0f391eb16adf9fbd039813ec47d03361ef14234a064c56c3e4b56f0ba0fc96ff", func := "loop.example/g00955/laws.FnExactValidCurve", spec := "fnExactValidCurve", apart := false, narrowed := true }
def FnExactValidCurveUptoSaid : Prop := fnExactValidCurveUptoRow.holds Try.pinned (OpenSpec.upto fnExactValidCurveSpec)

/-- 'laws.FnExactCurveAt', WHERE WHAT IT READS IS OF BULK AT MOST 1048576: true; the input reads as it did. -/
def fnExactCurveAtUptoRow : OpenClaim := { program := "ytamdnfmodmlohaa", sum := "0f391eb16adf9fbd039813ec47d03361ef14234a064c56c3e4b56f0ba0fc96ff", func := "loop.example/g00955/laws.FnExactCurveAt", spec := "fnExactCurveAt", unfollowed := true, recurses := true, apart := false, narrowed := true }
def FnExactCurveAtUptoSaid : Prop := fnExactCurveAtUptoRow.holds Try.pinned (OpenSpec.upto fnExactCurveAtSpec)

/-- 'laws.FnExactCurveBack', WHERE WHAT IT READS IS OF BULK AT MOST 1048576: true; the input reads as it did. -/
def fnExactCurveBackUptoRow : OpenClaim := { program := "ytamdnfmodmlohaa", sum := "0f391eb16adf9fbd039813ec47d03361ef14234a064c56c3e4b56f0ba0fc96ff", func := "loop.example/g00955/laws.FnExactCurveBack", spec := "fnExactCurveBack", unfollowed := true, recurses := true, apart := false, narrowed := true }
def FnExactCurveBackUptoSaid : Prop := fnExactCurveBackUptoRow.holds Try.pinned (OpenSpec.upto fnExactCurveBackSpec)

/-- 'laws.FnExactComposeCurves', WHERE WHAT IT READS IS OF BULK AT MOST 1048576: true; the input reads as it did. -/
def fnExactComposeCurvesUptoRow : OpenClaim := { program := "ytamdnfmodmlohaa", sum := "0f391eb16adf9fbd039813ec47d03361ef14234a064c56c3e4b56f0ba0fc96ff", func := "loop.example/g00955/laws.FnExactComposeCurves", spec := "fnExactComposeCurves", unfollowed := true, recurses := true, apart := false, narrowed := true }
def FnExactComposeCurvesUptoSaid : Prop := fnExactComposeCurvesUptoRow.holds Try.pinned (OpenSpec.upto fnExactComposeCurvesSpec)

/-- 'laws.FnExactPowerCurve', WHERE WHAT IT READS IS OF BULK AT MOST 1048576: true; the input reads as it did. -/
def fnExactPowerCurveUptoRow : OpenClaim := { program := "ytamdnfmodmlohaa", sum := "0f391eb16adf9fbd039813ec47d03361ef14234a064c56c3e4b56f0ba0fc96ff", func := "loop.example/g00955/laws.FnExactPowerCurve", spec := "fnExactPowerCurve", unfollowed := true, recurses := true, apart := false, narrowed := true }
def FnExactPowerCurveUptoSaid : Prop := fnExactPowerCurveUptoRow.holds Try.pinned (OpenSpec.upto fnExactPowerCurveSpec)

/-- 'laws.FnExactRaiseBlack', WHERE WHAT IT READS IS OF BULK AT MOST 1048576: true; the input reads as it did. -/
def fnExactRaiseBlackUptoRow : OpenClaim := { program := "ytamdnfmodmlohaa", sum := "0f391eb16adf9fbd039813ec47d03361ef14234a064c56c3e4b56f0ba0fc96ff", func := "loop.example/g00955/laws.FnExactRaiseBlack", spec := "fnExactRaiseBlack", apart := false, narrowed := true }
def FnExactRaiseBlackUptoSaid : Prop := fnExactRaiseBlackUptoRow.holds Try.pinned (OpenSpec.upto fnExactRaiseBlackSpec)

end Rows
end Go.Proofs.Ytamdnfmodmlohaa
