/-
  Turns around an axis: the contracts of turn.of, aroundX, aroundY, aroundZ (package impl).
-/
import Derived.Test.YtlklcpnnaolbeaaDoorSinW
import Derived.Test.YtlklcpnnaolbeaaDoorVecS
import Derived.Test.YtlklcpnnaolbeaaDoorAng
import Derived.Deep.RegionHeld3
namespace Go.Proofs.YtlklcpnnaolbeaaDoor
open Go.RowKit
set_option linter.unusedVariables false

theorem keepT {w W W' : World} {g : Nat} {x y : Int} (h : W.cell? ⟨g, 0, none⟩ = some (.int .i64 x) ∧ W.cell? ⟨g, 1, none⟩ = some (.int .i64 y) ∧ Below w.heap.size w W) (hb : Below W.heap.size W W') :
    W'.cell? ⟨g, 0, none⟩ = some (.int .i64 x) ∧ W'.cell? ⟨g, 1, none⟩ = some (.int .i64 y) ∧ Below w.heap.size w W' := by
  have hg := World.block_lt_of_cell? W ⟨g, 0, none⟩ h.1
  obtain ⟨k1, _⟩ := bcell hb
  exact ⟨(k1 _ _ hg).trans h.1, (k1 _ _ hg).trans h.2.1, h.2.2.trans (hb.mono h.2.2.size)⟩

end Go.Proofs.YtlklcpnnaolbeaaDoor
