/-
  Absolute values: the contracts of l02Abs (package spec) and absoluteDifference (package impl).
-/
import Derived.Test.YtjghopepgfgebaaGreatDoorCore
import Derived.Test.YtjghopepgfgebaaGreatDoorAngMath
namespace Go.Proofs.YtjghopepgfgebaaGreatDoor
open Go.RowKit
set_option linter.unusedVariables false

set_option maxHeartbeats 400000 in
theorem l02Abs_any (x : Int) (x0 : -1000000000000000 ≤ x) (x1 : x ≤ 1000000000000000) (w : World) :
    Calls Tryz.prog 115 #[.int .i64 x] w fun e w' => e = .returned (.int .i64 (ab x)) ∧ w = w' := by
  unfold ab
  by_cases c : x < 0
  · rw [if_pos c]
    go_enter Tryz.func115, Tryz.ntmps115
    go_wp2_with fail
    go_ret
    exact ⟨rfl, rfl⟩
  · rw [if_neg c]
    go_enter Tryz.func115, Tryz.ntmps115
    go_wp2_with fail
    go_ret
    exact ⟨rfl, rfl⟩

end Go.Proofs.YtjghopepgfgebaaGreatDoor
