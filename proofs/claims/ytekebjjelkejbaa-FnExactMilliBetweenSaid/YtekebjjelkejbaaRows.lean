/-
  No cell of these rows narrows 'for every input' (looked for: loops, veiled, ifaces, maps, wideKeys, modest, calm, conditions, laid).
  DERIVED. THE GIVEN ROWS OF THIS SEAT. 4 by the template 'for every input the law returns true; each argument reads behind the call as it read before'; 0 by the template 'total and deterministic' (their statements: YtekebjjelkejbaaTotals.lean).
  GIVEN WITH THE SEED: the statements are not yours to turn. If you find one false, say at which input.
  Laid BY PROGRAM, IN A SANDBOX (cutbox-rows.mjs): the forced cells as the released guide's own fill.sh prints them over the translation 3f77e24dade01f45… (all of the seat's roots in one cut). By AI agents, Wed Nov 11 2026. No macro, syntax, notation, axiom, sorry.
-/
import Derived.Test.YtekebjjelkejbaaChecked
import GoSem.Claim
import GoSem.ClaimJoined
import GoSem.ClaimMapViews
import Derived.JoinedTies
import Derived.KernelRfl
namespace Go.Proofs.Ytekebjjelkejbaa
/- THE CELL 'sum', in the pinned program and in every row, IS THE sha256 OF THE DUMP (.gsa) THAT YtekebjjelkejbaaProg.lean LOADS. Nothing in Lean hashes anything: it is a label: what it is worth is what the hold of that sum in a sandbox is worth. -/
noncomputable def Try.pinned : Pinned := { name := "ytekebjjelkejbaa", sum := "3f77e24dade01f453f23fd6b6274c6a98a652afdf109a981c0d78f0ac6822971", checked := Try.checked }
namespace Rows
def none {H : Type} : Left H := { results := [], args := [] }

/-- 'laws.FnExactMomentAfter': WHATEVER THE INPUT: true; the input reads as it did. -/
def fnExactMomentAfterSpec : ChangeSpec := { name := "fnExactMomentAfter", fn := fun _ => fun
  | [d1, d2] => { results := [.lit (.bool true)], args := [d1, d2] }
  | _ => none }
def fnExactMomentAfterRow : OpenClaim := { program := "ytekebjjelkejbaa", sum := "3f77e24dade01f453f23fd6b6274c6a98a652afdf109a981c0d78f0ac6822971", func := "loop.example/g00955/laws.FnExactMomentAfter", spec := "fnExactMomentAfter", apart := false }
def FnExactMomentAfterSaid : Prop := fnExactMomentAfterRow.holds Try.pinned (OpenSpec.ofChange fnExactMomentAfterSpec)

/-- ITS FALSE NEIGHBOUR: 'it returns false'. Refute it at one input. -/
def fnExactMomentAfterWrong : ChangeSpec := { name := "fnExactMomentAfter", fn := fun _ => fun
  | [d1, d2] => { results := [.lit (.bool false)], args := [d1, d2] }
  | _ => none }
def FnExactMomentAfterWrongFalsely : Prop := fnExactMomentAfterRow.holds Try.pinned (OpenSpec.ofChange fnExactMomentAfterWrong)

/-- 'laws.FnExactMilliBetween': WHATEVER THE INPUT: true; the input reads as it did. -/
def fnExactMilliBetweenSpec : ChangeSpec := { name := "fnExactMilliBetween", fn := fun _ => fun
  | [d1, d2] => { results := [.lit (.bool true)], args := [d1, d2] }
  | _ => none }
def fnExactMilliBetweenRow : OpenClaim := { program := "ytekebjjelkejbaa", sum := "3f77e24dade01f453f23fd6b6274c6a98a652afdf109a981c0d78f0ac6822971", func := "loop.example/g00955/laws.FnExactMilliBetween", spec := "fnExactMilliBetween", apart := false }
def FnExactMilliBetweenSaid : Prop := fnExactMilliBetweenRow.holds Try.pinned (OpenSpec.ofChange fnExactMilliBetweenSpec)

/-- ITS FALSE NEIGHBOUR: 'it returns false'. Refute it at one input. -/
def fnExactMilliBetweenWrong : ChangeSpec := { name := "fnExactMilliBetween", fn := fun _ => fun
  | [d1, d2] => { results := [.lit (.bool false)], args := [d1, d2] }
  | _ => none }
def FnExactMilliBetweenWrongFalsely : Prop := fnExactMilliBetweenRow.holds Try.pinned (OpenSpec.ofChange fnExactMilliBetweenWrong)

/-- 'laws.FnExactSiderealAngle': WHATEVER THE INPUT: true; the input reads as it did. -/
def fnExactSiderealAngleSpec : ChangeSpec := { name := "fnExactSiderealAngle", fn := fun _ => fun
  | [d1, d2] => { results := [.lit (.bool true)], args := [d1, d2] }
  | _ => none }
def fnExactSiderealAngleRow : OpenClaim := { program := "ytekebjjelkejbaa", sum := "3f77e24dade01f453f23fd6b6274c6a98a652afdf109a981c0d78f0ac6822971", func := "loop.example/g00955/laws.FnExactSiderealAngle", spec := "fnExactSiderealAngle", apart := false }
def FnExactSiderealAngleSaid : Prop := fnExactSiderealAngleRow.holds Try.pinned (OpenSpec.ofChange fnExactSiderealAngleSpec)

/-- ITS FALSE NEIGHBOUR: 'it returns false'. Refute it at one input. -/
def fnExactSiderealAngleWrong : ChangeSpec := { name := "fnExactSiderealAngle", fn := fun _ => fun
  | [d1, d2] => { results := [.lit (.bool false)], args := [d1, d2] }
  | _ => none }
def FnExactSiderealAngleWrongFalsely : Prop := fnExactSiderealAngleRow.holds Try.pinned (OpenSpec.ofChange fnExactSiderealAngleWrong)

/-- 'laws.FnExactNextSidereal': WHATEVER THE INPUT: true; the input reads as it did. -/
def fnExactNextSiderealSpec : ChangeSpec := { name := "fnExactNextSidereal", fn := fun _ => fun
  | [d1, d2, d3] => { results := [.lit (.bool true)], args := [d1, d2, d3] }
  | _ => none }
def fnExactNextSiderealRow : OpenClaim := { program := "ytekebjjelkejbaa", sum := "3f77e24dade01f453f23fd6b6274c6a98a652afdf109a981c0d78f0ac6822971", func := "loop.example/g00955/laws.FnExactNextSidereal", spec := "fnExactNextSidereal", unfollowed := true, recurses := true, apart := false }
def FnExactNextSiderealSaid : Prop := fnExactNextSiderealRow.holds Try.pinned (OpenSpec.ofChange fnExactNextSiderealSpec)

/-- ITS FALSE NEIGHBOUR: 'it returns false'. Refute it at one input. -/
def fnExactNextSiderealWrong : ChangeSpec := { name := "fnExactNextSidereal", fn := fun _ => fun
  | [d1, d2, d3] => { results := [.lit (.bool false)], args := [d1, d2, d3] }
  | _ => none }
def FnExactNextSiderealWrongFalsely : Prop := fnExactNextSiderealRow.holds Try.pinned (OpenSpec.ofChange fnExactNextSiderealWrong)

/- THE SECOND FORM. 'bulk': how many values and letters a reading holds, each counted each time it is reached (what is shared counts as often as it is met; a slice's spare places count too). A statement '..UptoSaid' is the law's where the arguments, and the package variables that the reading takes, are together of bulk at most 1048576: NARROWER than '..Said'. Prove '..Said' where nothing that the law and all that it calls make is longer than what came in: it says more and counts as full. Else prove '..UptoSaid'. A law counts once. -/
mutual
def uptoBulk {H : Type} : DataW H → Nat
  | .lit (.string bytes) => bytes.length + 1
  | .lit _ => 1
  | .nil => 1
  | .ptr d => uptoBulk d + 1
  | .slice elems spare => uptoBulkAll elems + uptoBulkAll spare + 1
  | .agg parts => uptoBulkAll parts + 1
  | .iface _ d => uptoBulk d + 1
  | .map entries => uptoBulkEntries entries + 1
  | .held _ => 1
def uptoBulkAll {H : Type} : List (DataW H) → Nat
  | [] => 0
  | d :: r => uptoBulk d + uptoBulkAll r
def uptoBulkEntries {H : Type} : List (Lit × DataW H) → Nat
  | [] => 0
  | x :: r => uptoBulkEntry x + uptoBulkEntries r
def uptoBulkEntry {H : Type} : Lit × DataW H → Nat
  | (.string bytes, d) => bytes.length + uptoBulk d + 1
  | (_, d) => uptoBulk d + 1
 end
def uptoSmall : (H : Type) → List (DataW H) → Bool := fun _ ds => decide (uptoBulkAll ds ≤ 1048576)
def OpenSpec.upto (s : _root_.Go.ChangeSpec) : _root_.Go.OpenSpec := { _root_.Go.OpenSpec.ofChange s with cond := some uptoSmall }

/-- 'laws.FnExactMomentAfter', WHERE WHAT IT READS IS OF BULK AT MOST 1048576: true; the input reads as it did. -/
def fnExactMomentAfterUptoRow : OpenClaim := { program := "ytekebjjelkejbaa", sum := "3f77e24dade01f453f23fd6b6274c6a98a652afdf109a981c0d78f0ac6822971", func := "loop.example/g00955/laws.FnExactMomentAfter", spec := "fnExactMomentAfter", apart := false, narrowed := true }
def FnExactMomentAfterUptoSaid : Prop := fnExactMomentAfterUptoRow.holds Try.pinned (OpenSpec.upto fnExactMomentAfterSpec)

/-- 'laws.FnExactMilliBetween', WHERE WHAT IT READS IS OF BULK AT MOST 1048576: true; the input reads as it did. -/
def fnExactMilliBetweenUptoRow : OpenClaim := { program := "ytekebjjelkejbaa", sum := "3f77e24dade01f453f23fd6b6274c6a98a652afdf109a981c0d78f0ac6822971", func := "loop.example/g00955/laws.FnExactMilliBetween", spec := "fnExactMilliBetween", apart := false, narrowed := true }
def FnExactMilliBetweenUptoSaid : Prop := fnExactMilliBetweenUptoRow.holds Try.pinned (OpenSpec.upto fnExactMilliBetweenSpec)

/-- 'laws.FnExactSiderealAngle', WHERE WHAT IT READS IS OF BULK AT MOST 1048576: true; the input reads as it did. -/
def fnExactSiderealAngleUptoRow : OpenClaim := { program := "ytekebjjelkejbaa", sum := "3f77e24dade01f453f23fd6b6274c6a98a652afdf109a981c0d78f0ac6822971", func := "loop.example/g00955/laws.FnExactSiderealAngle", spec := "fnExactSiderealAngle", apart := false, narrowed := true }
def FnExactSiderealAngleUptoSaid : Prop := fnExactSiderealAngleUptoRow.holds Try.pinned (OpenSpec.upto fnExactSiderealAngleSpec)

/-- 'laws.FnExactNextSidereal', WHERE WHAT IT READS IS OF BULK AT MOST 1048576: true; the input reads as it did. -/
def fnExactNextSiderealUptoRow : OpenClaim := { program := "ytekebjjelkejbaa", sum := "3f77e24dade01f453f23fd6b6274c6a98a652afdf109a981c0d78f0ac6822971", func := "loop.example/g00955/laws.FnExactNextSidereal", spec := "fnExactNextSidereal", unfollowed := true, recurses := true, apart := false, narrowed := true }
def FnExactNextSiderealUptoSaid : Prop := fnExactNextSiderealUptoRow.holds Try.pinned (OpenSpec.upto fnExactNextSiderealSpec)

end Rows
end Go.Proofs.Ytekebjjelkejbaa
