/-
  No cell of these rows narrows 'for every input' (looked for: loops, veiled, ifaces, maps, wideKeys, modest, calm, conditions, laid).
  DERIVED. THE GIVEN ROWS OF THIS SEAT. 3 by the template 'for every input the law returns true; each argument reads behind the call as it read before'; 0 by the template 'total and deterministic' (their statements: YtficdolopccofaaTotals.lean).
  GIVEN WITH THE SEED: the statements are not yours to turn. If you find one false, say at which input.
  Laid BY PROGRAM, IN A SANDBOX (cutbox-rows.mjs): the forced cells as the released guide's own fill.sh prints them over the translation bbd0f0d89a693b3b… (all of the seat's roots in one cut). By AI agents, Wed Nov 11 2026. No macro, syntax, notation, axiom, sorry.
-/
import Derived.Test.YtficdolopccofaaChecked
import GoSem.Claim
import GoSem.ClaimJoined
import GoSem.ClaimMapViews
import Derived.JoinedTies
import Derived.KernelRfl
namespace Go.Proofs.Ytficdolopccofaa
/- THE CELL 'sum', in the pinned program and in every row, IS THE sha256 OF THE DUMP (.gsa) THAT YtficdolopccofaaProg.lean LOADS. Nothing in Lean hashes anything: it is a label: what it is worth is what the hold of that sum in a sandbox is worth. -/
noncomputable def Try.pinned : Pinned := { name := "ytficdolopccofaa", sum := "bbd0f0d89a693b3b4f6c11d6290257fd62c625c14af3996f094f7edeb0144c15", checked := Try.checked }
namespace Rows
def none {H : Type} : Left H := { results := [], args := [] }

/-- 'laws.FnExactValidSite': WHATEVER THE INPUT: true; the input reads as it did. -/
def fnExactValidSiteSpec : ChangeSpec := { name := "fnExactValidSite", fn := fun _ => fun
  | [d] => { results := [.lit (.bool true)], args := [d] }
  | _ => none }
def fnExactValidSiteRow : OpenClaim := { program := "ytficdolopccofaa", sum := "bbd0f0d89a693b3b4f6c11d6290257fd62c625c14af3996f094f7edeb0144c15", func := "loop.example/g00955/laws.FnExactValidSite", spec := "fnExactValidSite", apart := false }
def FnExactValidSiteSaid : Prop := fnExactValidSiteRow.holds Try.pinned (OpenSpec.ofChange fnExactValidSiteSpec)

/-- ITS FALSE NEIGHBOUR: 'it returns false'. Refute it at one input. -/
def fnExactValidSiteWrong : ChangeSpec := { name := "fnExactValidSite", fn := fun _ => fun
  | [d] => { results := [.lit (.bool false)], args := [d] }
  | _ => none }
def FnExactValidSiteWrongFalsely : Prop := fnExactValidSiteRow.holds Try.pinned (OpenSpec.ofChange fnExactValidSiteWrong)

/-- 'laws.FnExactCulminationAltitude': WHATEVER THE INPUT: true; the input reads as it did. -/
def fnExactCulminationAltitudeSpec : ChangeSpec := { name := "fnExactCulminationAltitude", fn := fun _ => fun
  | [d1, d2] => { results := [.lit (.bool true)], args := [d1, d2] }
  | _ => none }
def fnExactCulminationAltitudeRow : OpenClaim := { program := "ytficdolopccofaa", sum := "bbd0f0d89a693b3b4f6c11d6290257fd62c625c14af3996f094f7edeb0144c15", func := "loop.example/g00955/laws.FnExactCulminationAltitude", spec := "fnExactCulminationAltitude", apart := false }
def FnExactCulminationAltitudeSaid : Prop := fnExactCulminationAltitudeRow.holds Try.pinned (OpenSpec.ofChange fnExactCulminationAltitudeSpec)

/-- ITS FALSE NEIGHBOUR: 'it returns false'. Refute it at one input. -/
def fnExactCulminationAltitudeWrong : ChangeSpec := { name := "fnExactCulminationAltitude", fn := fun _ => fun
  | [d1, d2] => { results := [.lit (.bool false)], args := [d1, d2] }
  | _ => none }
def FnExactCulminationAltitudeWrongFalsely : Prop := fnExactCulminationAltitudeRow.holds Try.pinned (OpenSpec.ofChange fnExactCulminationAltitudeWrong)

/-- 'laws.FnExactLowestAltitude': WHATEVER THE INPUT: true; the input reads as it did. -/
def fnExactLowestAltitudeSpec : ChangeSpec := { name := "fnExactLowestAltitude", fn := fun _ => fun
  | [d1, d2] => { results := [.lit (.bool true)], args := [d1, d2] }
  | _ => none }
def fnExactLowestAltitudeRow : OpenClaim := { program := "ytficdolopccofaa", sum := "bbd0f0d89a693b3b4f6c11d6290257fd62c625c14af3996f094f7edeb0144c15", func := "loop.example/g00955/laws.FnExactLowestAltitude", spec := "fnExactLowestAltitude", apart := false }
def FnExactLowestAltitudeSaid : Prop := fnExactLowestAltitudeRow.holds Try.pinned (OpenSpec.ofChange fnExactLowestAltitudeSpec)

/-- ITS FALSE NEIGHBOUR: 'it returns false'. Refute it at one input. -/
def fnExactLowestAltitudeWrong : ChangeSpec := { name := "fnExactLowestAltitude", fn := fun _ => fun
  | [d1, d2] => { results := [.lit (.bool false)], args := [d1, d2] }
  | _ => none }
def FnExactLowestAltitudeWrongFalsely : Prop := fnExactLowestAltitudeRow.holds Try.pinned (OpenSpec.ofChange fnExactLowestAltitudeWrong)

/- THE SECOND FORM. 'bulk': how many values and letters a reading holds, each counted each time it is reached (what is shared counts as often as it is met; a slice's spare places count too). A statement '..UptoSaid' is the law's where the arguments, and the package variables that the reading takes, are together of bulk at most 1048576: NARROWER than '..Said'. Prove '..Said' where nothing that the law and all that it calls make is longer than what came in: it says more and counts as full. Else prove '..UptoSaid'. A law counts once. -/
mutual
def uptoBulk {H : Type} : DataW H → Nat
  | .lit (.string bytes) => bytes.length + 1
  | .lit _ => 1
  | .nil => 1
  | .ptr d => uptoBulk d + 1
  | .slice elems spare => uptoBulkAll elems + uptoBulkAll spare + 1
  | .agg parts => uptoBulkAll parts + 1
  | .iface _ d => uptoBulk d + 1
  | .map entries => uptoBulkEntries entries + 1
  | .held _ => 1
def uptoBulkAll {H : Type} : List (DataW H) → Nat
  | [] => 0
  | d :: r => uptoBulk d + uptoBulkAll r
def uptoBulkEntries {H : Type} : List (Lit × DataW H) → Nat
  | [] => 0
  | x :: r => uptoBulkEntry x + uptoBulkEntries r
def uptoBulkEntry {H : Type} : Lit × DataW H → Nat
  | (.string bytes, d) => bytes.length + uptoBulk d + 1
  | (_, d) => uptoBulk d + 1
 end
def uptoSmall : (H : Type) → List (DataW H) → Bool := fun _ ds => decide (uptoBulkAll ds ≤ 1048576)
def OpenSpec.upto (s : _root_.Go.ChangeSpec) : _root_.Go.OpenSpec := { _root_.Go.OpenSpec.ofChange s with cond := some uptoSmall }

/-- 'laws.FnExactValidSite', WHERE WHAT IT READS IS OF BULK AT MOST 1048576: true; the input reads as it did. -/
def fnExactValidSiteUptoRow : OpenClaim := { program := "ytficdolopccofaa", sum := "bbd0f0d89a693b3b4f6c11d6290257fd62c625c14af3996f094f7edeb0144c15", func := "loop.example/g00955/laws.FnExactValidSite", spec := "fnExactValidSite", apart := false, narrowed := true }
def FnExactValidSiteUptoSaid : Prop := fnExactValidSiteUptoRow.holds Try.pinned (OpenSpec.upto fnExactValidSiteSpec)

/-- 'laws.FnExactCulminationAltitude', WHERE WHAT IT READS IS OF BULK AT MOST 1048576: true; the input reads as it did. -/
def fnExactCulminationAltitudeUptoRow : OpenClaim := { program := "ytficdolopccofaa", sum := "bbd0f0d89a693b3b4f6c11d6290257fd62c625c14af3996f094f7edeb0144c15", func := "loop.example/g00955/laws.FnExactCulminationAltitude", spec := "fnExactCulminationAltitude", apart := false, narrowed := true }
def FnExactCulminationAltitudeUptoSaid : Prop := fnExactCulminationAltitudeUptoRow.holds Try.pinned (OpenSpec.upto fnExactCulminationAltitudeSpec)

/-- 'laws.FnExactLowestAltitude', WHERE WHAT IT READS IS OF BULK AT MOST 1048576: true; the input reads as it did. -/
def fnExactLowestAltitudeUptoRow : OpenClaim := { program := "ytficdolopccofaa", sum := "bbd0f0d89a693b3b4f6c11d6290257fd62c625c14af3996f094f7edeb0144c15", func := "loop.example/g00955/laws.FnExactLowestAltitude", spec := "fnExactLowestAltitude", apart := false, narrowed := true }
def FnExactLowestAltitudeUptoSaid : Prop := fnExactLowestAltitudeUptoRow.holds Try.pinned (OpenSpec.upto fnExactLowestAltitudeSpec)

end Rows
end Go.Proofs.Ytficdolopccofaa
