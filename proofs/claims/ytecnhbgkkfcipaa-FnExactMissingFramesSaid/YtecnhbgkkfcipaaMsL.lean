/-
  The law's own helper on lists of numbers: a copy, with its cells.
-/
import Derived.Test.YtecnhbgkkfcipaaMsY
import Derived.Test.YtecnhbgkkfcipaaLstI
namespace Go.Proofs.Ytecnhbgkkfcipaa.Ms
open Go.RowKit
set_option linter.unusedVariables false

/-- The call returned a new copy. -/
def ToPost (zs : List Int) (w : World) (e : Ending) (w' : World) : Prop :=
  ∃ g, e = .returned (.slice (some ⟨g, 0, none⟩) zs.length zs.length) ∧ In.Own w' w.heap.size w'.heap.size (.slice (some ⟨g, 0, none⟩) zs.length zs.length) zs ∧ Cells w' g zs ∧ Below w.heap.size w w'
theorem toO_any {v : Value} {zs : List Int} {w : World} (h : ListIn w v zs) (hb : zs.length ≤ 1048576) :
    Calls Try.prog 40 #[v] w (ToPost zs w) := by
  refine (toI_any h hb).mono fun e w' ⟨he, ho, hw⟩ => ?_
  refine ⟨_, he, In.Own.of_row ho, ⟨(ho.lt _ rfl).2, fun j hj => ?_⟩, hw⟩
  have := cells_own ho j hj
  rw [this]
  simp [gz_at zs j hj]
end Go.Proofs.Ytecnhbgkkfcipaa.Ms
