/-
  Vectors of package spec: the contracts of LengthOf, DotOf, CrossOf.
-/
import Derived.Test.YtjghopepgfgebaaGreatDoorVecS
namespace Go.Proofs.YtjghopepgfgebaaGreatDoor
open Go.RowKit
set_option linter.unusedVariables false

theorem lenV_form (x y z : Int) : ∃ a b : Int, lenV x y z = .tuple #[.int .i64 a, .int .i64 b] := by
  unfold lenV
  split <;> exact ⟨_, _, rfl⟩
theorem dotV_form (x y z x' y' z' : Int) : ∃ a b : Int, dotV x y z x' y' z' = .tuple #[.int .i64 a, .int .i64 b] := by
  unfold dotV
  split
  · split <;> exact ⟨_, _, rfl⟩
  · exact ⟨_, _, rfl⟩
theorem crossV_form (x y z x' y' z' : Int) : ∃ a b c d : Int, crossV x y z x' y' z' = .tuple #[.agg #[.int .i64 a, .int .i64 b, .int .i64 c], .int .i64 d] := by
  unfold crossV
  split
  · split
    · exact doneV_form _ _ _
    · exact ⟨_, _, _, _, rfl⟩
  · exact ⟨_, _, _, _, rfl⟩
end Go.Proofs.YtjghopepgfgebaaGreatDoor
