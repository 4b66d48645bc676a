/-
  NearestStar (package impl).
-/
import Derived.Test.YtikfcadookimeaaGreatDoorNear4
namespace Go.Proofs.YtikfcadookimeaaGreatDoor
open Go.RowKit
set_option linter.unusedVariables false

def nearV (zs : List StarV) (p q : Int) : Value :=
  if okL zs = true then if dirB p q = true then if zs.length = 0 then .tuple #[.int .i64 0, .int .i64 0, .int .i64 3] else .tuple #[.int .i64 ((bestF (distF zs p q) (zs.length - 1)).1 : Int), .int .i64 (bestF (distF zs p q) (zs.length - 1)).2, .int .i64 0]
    else .tuple #[.int .i64 0, .int .i64 0, .int .i64 2] else .tuple #[.int .i64 0, .int .i64 0, .int .i64 1]
theorem nearV_form (zs : List StarV) (p q : Int) : ∃ a b c : Int, nearV zs p q = .tuple #[.int .i64 a, .int .i64 b, .int .i64 c] := by
  unfold nearV
  split
  · split
    · split
      · exact ⟨_, _, _, rfl⟩
      · exact ⟨_, _, _, rfl⟩
    · exact ⟨_, _, _, rfl⟩
  · exact ⟨_, _, _, rfl⟩

end Go.Proofs.YtikfcadookimeaaGreatDoor
