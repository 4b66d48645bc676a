/-
  The angles of a vector: the contracts of longitude, latitude, AnglesOf (package impl).
-/
import Derived.Test.YtlklcpnnaolbeaaGreatDoorArct
import Derived.Test.YtlklcpnnaolbeaaGreatDoorVecS
import Derived.Deep.RegionHeld3
namespace Go.Proofs.YtlklcpnnaolbeaaGreatDoor
open Go.RowKit
set_option linter.unusedVariables false

def lonI (x y : Int) : Int := if x = 0 ∧ y = 0 then 0 else dirI y x
def latI (x y z : Int) : Int := if 90000 < dirI z (rootI (x * x + y * y)) then dirI z (rootI (x * x + y * y)) - 360000 else dirI z (rootI (x * x + y * y))

def angV (x y z : Int) : Value := if okV x y z = true then (if x = 0 ∧ y = 0 ∧ z = 0 then .tuple #[.int .i64 0, .int .i64 0, .int .i64 6] else .tuple #[.int .i64 (lonI x y), .int .i64 (latI x y z), .int .i64 0]) else .tuple #[.int .i64 0, .int .i64 0, .int .i64 1]
theorem angV_form (x y z : Int) : ∃ a b c : Int, angV x y z = .tuple #[.int .i64 a, .int .i64 b, .int .i64 c] := by
  unfold angV
  split
  · split <;> exact ⟨_, _, _, rfl⟩
  · exact ⟨_, _, _, rfl⟩
theorem keepV1 {w W W' : World} {g : Nat} {x y z : Int} (h : W.cell? ⟨g, 0, none⟩ = some (.int .i64 x) ∧ W.cell? ⟨g, 1, none⟩ = some (.int .i64 y) ∧ W.cell? ⟨g, 2, none⟩ = some (.int .i64 z) ∧ Below w.heap.size w W) (hb : Below W.heap.size W W') :
    W'.cell? ⟨g, 0, none⟩ = some (.int .i64 x) ∧ W'.cell? ⟨g, 1, none⟩ = some (.int .i64 y) ∧ W'.cell? ⟨g, 2, none⟩ = some (.int .i64 z) ∧ Below w.heap.size w W' := by
  have hg := World.block_lt_of_cell? W ⟨g, 0, none⟩ h.1
  obtain ⟨k1, _⟩ := bcell hb
  exact ⟨(k1 _ _ hg).trans h.1, (k1 _ _ hg).trans h.2.1, (k1 _ _ hg).trans h.2.2.1, h.2.2.2.trans (hb.mono h.2.2.2.size)⟩
theorem undrewV {W u : World} (h : Below W.drew.heap.size W.drew u) : Below W.heap.size W u := ⟨h.os, h.tape, h.output, h.size, h.block⟩

end Go.Proofs.YtlklcpnnaolbeaaGreatDoor
