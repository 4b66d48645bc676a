/-
  Absolute values: the contracts of l02Abs (package spec) and absoluteDifference (package impl).
-/
import Derived.Test.YtfjhlapcopjfiaaCore
import Derived.Test.YtfjhlapcopjfiaaAngMath
namespace Go.Proofs.Ytfjhlapcopjfiaa
open Go.RowKit
set_option linter.unusedVariables false

set_option maxHeartbeats 400000 in
theorem l02Abs_any (x : Int) (x0 : -1000000000000000 ≤ x) (x1 : x ≤ 1000000000000000) (w : World) :
    Calls Try.prog 74 #[.int .i64 x] w fun e w' => e = .returned (.int .i64 (ab x)) ∧ w = w' := by
  unfold ab
  by_cases c : x < 0
  · rw [if_pos c]
    go_enter Try.func74, Try.ntmps74
    go_wp2_with fail
    go_ret
    exact ⟨rfl, rfl⟩
  · rw [if_neg c]
    go_enter Try.func74, Try.ntmps74
    go_wp2_with fail
    go_ret
    exact ⟨rfl, rfl⟩

set_option maxHeartbeats 1000000 in
theorem absDiff_any (a b : Int) (w : World) (a0 : -1000000000 ≤ a) (a1 : a ≤ 1000000000) (b0 : -1000000000 ≤ b) (b1 : b ≤ 1000000000) :
    Calls Try.prog 76 #[.int .i64 a, .int .i64 b] w fun e w' => e = .returned (.int .i64 (ab (a - b))) ∧ w = w' := by
  unfold ab
  by_cases c : a - b < 0
  · rw [if_pos c]
    have c' : b - a ≥ a - b := by omega
    have c2 : a - b ≤ b - a := by omega
    go_enter Try.func76, Try.ntmps76
    go_wp2_with fail
    go_ret
    exact ⟨ret_int (by first | omega | (split <;> omega) | (simp; omega)), rfl⟩
  · rw [if_neg c]
    go_enter Try.func76, Try.ntmps76
    go_wp2_with fail
    go_ret
    exact ⟨ret_int (by first | omega | (split <;> omega) | (simp; omega)), rfl⟩
end Go.Proofs.Ytfjhlapcopjfiaa
