/-
  The least angle of a direction: the contracts of leastArc and of its closure (package impl).
-/
import Derived.Test.YtpldjkgmpdagpaaDoorFirst
import Derived.Test.YtpldjkgmpdagpaaDoorSin
import Derived.Deep.RegionWith
import Derived.Deep.RegionHeld3
import Derived.Deep.MidRow
import Derived.Deep.CutBlock
import Derived.Deep.QuietTactic
import Derived.BigQuiet
namespace Go.Proofs.YtpldjkgmpdagpaaDoor
open Go.RowKit
set_option linter.unusedVariables false

theorem undrew' {W u : World} (h : Below W.drew.heap.size W.drew u) : Below W.heap.size W u := ⟨h.os, h.tape, h.output, h.size, h.block⟩
theorem drewB (W : World) : Below W.heap.size W W.drew := ⟨rfl, rfl, rfl, Nat.le_refl _, fun _ _ => rfl⟩
theorem keepC {w W W' : World} {b0 b1 : Nat} {x y : Value} (h : W.cell? ⟨b0, 0, none⟩ = some x ∧ W.cell? ⟨b1, 0, none⟩ = some y ∧ Below w.heap.size w W) (hb : Below W.heap.size W W') :
    W'.cell? ⟨b0, 0, none⟩ = some x ∧ W'.cell? ⟨b1, 0, none⟩ = some y ∧ Below w.heap.size w W' :=
  ⟨(hb.cell (p := ⟨b0, 0, none⟩) (World.block_lt_of_cell? W ⟨b0, 0, none⟩ h.1)).trans h.1, (hb.cell (p := ⟨b1, 0, none⟩) (World.block_lt_of_cell? W ⟨b1, 0, none⟩ h.2.1)).trans h.2.1, h.2.2.trans (hb.mono h.2.2.size)⟩
theorem big_bd (s v : Int) (s0 : -1000000 ≤ s) (s1 : s ≤ 1000000) (v0 : 0 ≤ v) (v1 : v ≤ 1000000000000) : -1000000000000000000 ≤ s * v ∧ s * v ≤ 1000000000000000000 := by
  have h1 : s * v ≤ 1000000 * v := Int.mul_le_mul_of_nonneg_right s1 v0
  have h2 : -1000000 * v ≤ s * v := Int.mul_le_mul_of_nonneg_right s0 v0
  omega

set_option maxRecDepth 100000 in
theorem idx91 (A : Array Value) (hA : A.size = 91) (k : Nat) (hk : k < 91) (w : World) : (Instr.index 234 (.agg A) (.int .i64 k)).run Tryd.prog w = .ok (A.getD k undef) w := by
  have hs : Tryd.prog.types[2].size = 1 := by kernel_rfl
  simp [Instr.index, run_underlying Tryd.underlying234, asIntOf, go_sem, hA, hk]

theorem drewNB (W : World) (n : Nat) : Below W.heap.size W (W.drewN n) := ⟨rfl, rfl, rfl, Nat.le_refl _, fun _ _ => rfl⟩

end Go.Proofs.YtpldjkgmpdagpaaDoor
