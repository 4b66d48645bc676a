/-
  No cell of these rows narrows 'for every input' (looked for: loops, veiled, ifaces, maps, wideKeys, modest, calm, conditions, laid).
  DERIVED. THE GIVEN ROWS OF THIS SEAT. 4 by the template 'for every input the law returns true; each argument reads behind the call as it read before'; 0 by the template 'total and deterministic' (their statements: YtglpkioomdkdcaaTotals.lean).
  GIVEN WITH THE SEED: the statements are not yours to turn. If you find one false, say at which input.
  Laid BY PROGRAM, IN A SANDBOX (cutbox-rows.mjs): the forced cells as the released guide's own fill.sh prints them over the translation f54b5d0fddc7fcec… (all of the seat's roots in one cut). By AI agents, Wed Nov 11 2026. No macro, syntax, notation, axiom, sorry.
-/
import Derived.Test.YtglpkioomdkdcaaChecked
import GoSem.Claim
import GoSem.ClaimJoined
import GoSem.ClaimMapViews
import Derived.JoinedTies
import Derived.KernelRfl
namespace Go.Proofs.Ytglpkioomdkdcaa
/- THE CELL 'sum', in the pinned program and in every row, IS THE sha256 OF THE DUMP (.gsa) THAT YtglpkioomdkdcaaProg.lean LOADS. Nothing in Lean hashes anything: it is a label: what it is worth is what the hold of that sum in a sandbox is worth. -/
noncomputable def Try.pinned : Pinned := { name := "ytglpkioomdkdcaa", sum := "f54b5d0fddc7fcec298f432b9d8ee4201b22a45ed9497e3a3240c7bbfd126c68", checked := Try.checked }
namespace Rows
def none {H : Type} : Left H := { results := [], args := [] }

/-- 'laws.FnExactValidPlanet': WHATEVER THE INPUT: true; the input reads as it did. -/
def fnExactValidPlanetSpec : ChangeSpec := { name := "fnExactValidPlanet", fn := fun _ => fun
  | [d] => { results := [.lit (.bool true)], args := [d] }
  | _ => none }
def fnExactValidPlanetRow : OpenClaim := { program := "ytglpkioomdkdcaa", sum := "f54b5d0fddc7fcec298f432b9d8ee4201b22a45ed9497e3a3240c7bbfd126c68", func := "loop.example/g00955/laws.FnExactValidPlanet", spec := "fnExactValidPlanet", apart := false }
def FnExactValidPlanetSaid : Prop := fnExactValidPlanetRow.holds Try.pinned (OpenSpec.ofChange fnExactValidPlanetSpec)

/-- ITS FALSE NEIGHBOUR: 'it returns false'. Refute it at one input. -/
def fnExactValidPlanetWrong : ChangeSpec := { name := "fnExactValidPlanet", fn := fun _ => fun
  | [d] => { results := [.lit (.bool false)], args := [d] }
  | _ => none }
def FnExactValidPlanetWrongFalsely : Prop := fnExactValidPlanetRow.holds Try.pinned (OpenSpec.ofChange fnExactValidPlanetWrong)

/-- 'laws.FnExactValidPlanets': WHATEVER THE INPUT: true; the input reads as it did. -/
def fnExactValidPlanetsSpec : ChangeSpec := { name := "fnExactValidPlanets", fn := fun _ => fun
  | [d] => { results := [.lit (.bool true)], args := [d] }
  | _ => none }
def fnExactValidPlanetsRow : OpenClaim := { program := "ytglpkioomdkdcaa", sum := "f54b5d0fddc7fcec298f432b9d8ee4201b22a45ed9497e3a3240c7bbfd126c68", func := "loop.example/g00955/laws.FnExactValidPlanets", spec := "fnExactValidPlanets", unfollowed := true, recurses := true, apart := false }
def FnExactValidPlanetsSaid : Prop := fnExactValidPlanetsRow.holds Try.pinned (OpenSpec.ofChange fnExactValidPlanetsSpec)

/-- ITS FALSE NEIGHBOUR: 'it returns false'. Refute it at one input. -/
def fnExactValidPlanetsWrong : ChangeSpec := { name := "fnExactValidPlanets", fn := fun _ => fun
  | [d] => { results := [.lit (.bool false)], args := [d] }
  | _ => none }
def FnExactValidPlanetsWrongFalsely : Prop := fnExactValidPlanetsRow.holds Try.pinned (OpenSpec.ofChange fnExactValidPlanetsWrong)

/-- 'laws.FnExactOrbitAngle': WHATEVER THE INPUT: true; the input reads as it did. -/
def fnExactOrbitAngleSpec : ChangeSpec := { name := "fnExactOrbitAngle", fn := fun _ => fun
  | [d1, d2] => { results := [.lit (.bool true)], args := [d1, d2] }
  | _ => none }
def fnExactOrbitAngleRow : OpenClaim := { program := "ytglpkioomdkdcaa", sum := "f54b5d0fddc7fcec298f432b9d8ee4201b22a45ed9497e3a3240c7bbfd126c68", func := "loop.example/g00955/laws.FnExactOrbitAngle", spec := "fnExactOrbitAngle", apart := false }
def FnExactOrbitAngleSaid : Prop := fnExactOrbitAngleRow.holds Try.pinned (OpenSpec.ofChange fnExactOrbitAngleSpec)

/-- ITS FALSE NEIGHBOUR: 'it returns false'. Refute it at one input. -/
def fnExactOrbitAngleWrong : ChangeSpec := { name := "fnExactOrbitAngle", fn := fun _ => fun
  | [d1, d2] => { results := [.lit (.bool false)], args := [d1, d2] }
  | _ => none }
def FnExactOrbitAngleWrongFalsely : Prop := fnExactOrbitAngleRow.holds Try.pinned (OpenSpec.ofChange fnExactOrbitAngleWrong)

/-- 'laws.FnExactSynodicPeriod': WHATEVER THE INPUT: true; the input reads as it did. -/
def fnExactSynodicPeriodSpec : ChangeSpec := { name := "fnExactSynodicPeriod", fn := fun _ => fun
  | [d1, d2] => { results := [.lit (.bool true)], args := [d1, d2] }
  | _ => none }
def fnExactSynodicPeriodRow : OpenClaim := { program := "ytglpkioomdkdcaa", sum := "f54b5d0fddc7fcec298f432b9d8ee4201b22a45ed9497e3a3240c7bbfd126c68", func := "loop.example/g00955/laws.FnExactSynodicPeriod", spec := "fnExactSynodicPeriod", apart := false }
def FnExactSynodicPeriodSaid : Prop := fnExactSynodicPeriodRow.holds Try.pinned (OpenSpec.ofChange fnExactSynodicPeriodSpec)

/-- ITS FALSE NEIGHBOUR: 'it returns false'. Refute it at one input. -/
def fnExactSynodicPeriodWrong : ChangeSpec := { name := "fnExactSynodicPeriod", fn := fun _ => fun
  | [d1, d2] => { results := [.lit (.bool false)], args := [d1, d2] }
  | _ => none }
def FnExactSynodicPeriodWrongFalsely : Prop := fnExactSynodicPeriodRow.holds Try.pinned (OpenSpec.ofChange fnExactSynodicPeriodWrong)

/- THE SECOND FORM. 'bulk': how many values and letters a reading holds, each counted each time it is reached (what is shared counts as often as it is met; a slice's spare places count too). A statement '..UptoSaid' is the law's where the arguments, and the package variables that the reading takes, are together of bulk at most 1048576: NARROWER than '..Said'. Prove '..Said' where nothing that the law and all that it calls make is longer than what came in: it says more and counts as full. Else prove '..UptoSaid'. A law counts once. -/
mutual
def uptoBulk {H : Type} : DataW H → Nat
  | .lit (.string bytes) => bytes.length + 1
  | .lit _ => 1
  | .nil => 1
  | .ptr d => uptoBulk d + 1
  | .slice elems spare => uptoBulkAll elems + uptoBulkAll spare + 1
  | .agg parts => uptoBulkAll parts + 1
  | .iface _ d => uptoBulk d + 1
  | .map entries => uptoBulkEntries entries + 1
  | .held _ => 1
def uptoBulkAll {H : Type} : List (DataW H) → Nat
  | [] => 0
  | d :: r => uptoBulk d + uptoBulkAll r
def uptoBulkEntries {H : Type} : List (Lit × DataW H) → Nat
  | [] => 0
  | x :: r => uptoBulkEntry x + uptoBulkEntries r
def uptoBulkEntry {H : Type} : Lit × DataW H → Nat
  | (.string bytes, d) => bytes.length + uptoBulk d + 1
  | (_, d) => uptoBulk d + 1
 end
def uptoSmall : (H : Type) → List (DataW H) → Bool := fun _ ds => decide (uptoBulkAll ds ≤ 1048576)
def OpenSpec.upto (s : _root_.Go.ChangeSpec) : _root_.Go.OpenSpec := { _root_.Go.OpenSpec.ofChange s with cond := some uptoSmall }

/-- 'laws.FnExactValidPlanet', WHERE WHAT IT READS IS OF BULK AT MOST 1048576: true; the input reads as it did. -/
def fnExactValidPlanetUptoRow : OpenClaim := { program := "ytglpkioomdkdcaa", sum := "f54b5d0fddc7fcec298f432b9d8ee4201b22a45ed9497e3a3240c7bbfd126c68", func := "loop.example/g00955/laws.FnExactValidPlanet", spec := "fnExactValidPlanet", apart := false, narrowed := true }
def FnExactValidPlanetUptoSaid : Prop := fnExactValidPlanetUptoRow.holds Try.pinned (OpenSpec.upto fnExactValidPlanetSpec)

/-- 'laws.FnExactValidPlanets', WHERE WHAT IT READS IS OF BULK AT MOST 1048576: true; the input reads as it did. -/
def fnExactValidPlanetsUptoRow : OpenClaim := { program := "ytglpkioomdkdcaa", sum := "f54b5d0fddc7fcec298f432b9d8ee4201b22a45ed9497e3a3240c7bbfd126c68", func := "loop.example/g00955/laws.FnExactValidPlanets", spec := "fnExactValidPlanets", unfollowed := true, recurses := true, apart := false, narrowed := true }
def FnExactValidPlanetsUptoSaid : Prop := fnExactValidPlanetsUptoRow.holds Try.pinned (OpenSpec.upto fnExactValidPlanetsSpec)

/-- 'laws.FnExactOrbitAngle', WHERE WHAT IT READS IS OF BULK AT MOST 1048576: true; the input reads as it did. -/
def fnExactOrbitAngleUptoRow : OpenClaim := { program := "ytglpkioomdkdcaa", sum := "f54b5d0fddc7fcec298f432b9d8ee4201b22a45ed9497e3a3240c7bbfd126c68", func := "loop.example/g00955/laws.FnExactOrbitAngle", spec := "fnExactOrbitAngle", apart := false, narrowed := true }
def FnExactOrbitAngleUptoSaid : Prop := fnExactOrbitAngleUptoRow.holds Try.pinned (OpenSpec.upto fnExactOrbitAngleSpec)

/-- 'laws.FnExactSynodicPeriod', WHERE WHAT IT READS IS OF BULK AT MOST 1048576: true; the input reads as it did. -/
def fnExactSynodicPeriodUptoRow : OpenClaim := { program := "ytglpkioomdkdcaa", sum := "f54b5d0fddc7fcec298f432b9d8ee4201b22a45ed9497e3a3240c7bbfd126c68", func := "loop.example/g00955/laws.FnExactSynodicPeriod", spec := "fnExactSynodicPeriod", apart := false, narrowed := true }
def FnExactSynodicPeriodUptoSaid : Prop := fnExactSynodicPeriodUptoRow.holds Try.pinned (OpenSpec.upto fnExactSynodicPeriodSpec)

end Rows
end Go.Proofs.Ytglpkioomdkdcaa
