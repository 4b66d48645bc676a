/-
  The angle of a direction: the contracts of firstArc, directionAngle, ArcTangent (package impl).
-/
import Derived.Test.YtpldjkgmpdagpaaDoorLeast
import Derived.Test.YtpldjkgmpdagpaaDoorNrm
namespace Go.Proofs.YtpldjkgmpdagpaaDoor
open Go.RowKit
set_option linter.unusedVariables false

theorem ab_bd (x m : Int) (h : -m ≤ x) (h' : x ≤ m) : 0 ≤ ab x ∧ ab x ≤ m := by unfold ab; split <;> omega
/-- What ArcTangent answers. -/
def atanV (y x : Int) : Value := if inR (-1000000000000) 1000000000000 [y, x] = true then (if y = 0 ∧ x = 0 then .tuple #[.int .i64 0, .int .i64 6] else .tuple #[.int .i64 (dirI y x), .int .i64 0]) else .tuple #[.int .i64 0, .int .i64 2]
theorem atanV_form (y x : Int) : ∃ a b : Int, atanV y x = .tuple #[.int .i64 a, .int .i64 b] := by
  unfold atanV
  split
  · split <;> exact ⟨_, _, rfl⟩
  · exact ⟨_, _, rfl⟩
theorem inR_two (lo hi a b : Int) : inR lo hi [a, b] = true ↔ (lo ≤ a ∧ a ≤ hi) ∧ lo ≤ b ∧ b ≤ hi := by simp [inR]
end Go.Proofs.YtpldjkgmpdagpaaDoor
