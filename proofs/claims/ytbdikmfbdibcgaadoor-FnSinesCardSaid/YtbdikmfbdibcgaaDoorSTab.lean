/-
  The table of sines of package spec: the contract of l02Table.
-/
import Derived.Test.YtbdikmfbdibcgaaDoorNrm
import Derived.Test.YtbdikmfbdibcgaaDoorQ2
import Derived.IntWalk
namespace Go.Proofs.YtbdikmfbdibcgaaDoor
open Go.RowKit
set_option linter.unusedVariables false

theorem quiet_left {P : Program} {f : FuncId} {args : Array Value} {w : World} {n : Nat} {v : Value}
    (h : Calls P f args (w.drewN n) fun e w' => e = .returned v ∧ w.drewN n = w') : Calls P f args (w.drewN n) fun e w'' => e = .returned v ∧ ∃ m, w'' = w.drewN m :=
  h.mono fun _ _ ⟨he, hm⟩ => ⟨he, n, hm.symm⟩

/-- The table lies in block g. -/
def TabAt (w : World) (g : Nat) : Prop := ∀ j, j < 91 → w.cell? ⟨g, j, none⟩ = some (.int .i64 (tab j))
end Go.Proofs.YtbdikmfbdibcgaaDoor
