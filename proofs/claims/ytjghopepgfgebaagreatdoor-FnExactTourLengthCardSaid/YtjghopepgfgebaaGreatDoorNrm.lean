/-
  Normal angles: the contracts of angle.normal and angle.forwardsTo (package impl) and of l02Normal (package spec).
-/
import Derived.Test.YtjghopepgfgebaaGreatDoorCore
import Derived.Test.YtjghopepgfgebaaGreatDoorAngMath
namespace Go.Proofs.YtjghopepgfgebaaGreatDoor
open Go.RowKit

set_option maxHeartbeats 400000 in
theorem normal_any (a : Int) (w : World) (h0 : -9223372036854775808 ≤ a) (h1 : a ≤ 9223372036854775807) :
    Calls Tryz.prog 130 #[.int .i64 a] w fun e w' => e = .returned (.int .i64 (nrm a)) ∧ w = w' := by
  by_cases c : 0 ≤ a
  · have b := nrm_bd a
    have e : nrm a = a % 360000 := rfl
    rw [e] at b ⊢
    clear e
    go_enter Tryz.func130, Tryz.ntmps130
    go_wp2
    all_goals first | (go_ret; exact ⟨rfl, rfl⟩) | omega
  · have e1 := tmod_neg a (by omega)
    have e2 := nrm_neg a (by omega)
    have b0 : 0 ≤ (-a) % 360000 := by omega
    have b1 : (-a) % 360000 < 360000 := by omega
    generalize (-a) % 360000 = r at *
    rw [e2]
    clear e2
    by_cases hr : r = 0
    · subst hr
      rw [if_pos rfl]
      simp only [Int.neg_zero] at e1
      go_enter Tryz.func130, Tryz.ntmps130
      go_wp2
      go_ret
      exact ⟨rfl, rfl⟩
    · rw [if_neg hr]
      go_enter Tryz.func130, Tryz.ntmps130
      go_wp2
      all_goals first | (go_ret; exact ⟨ret_int (by omega), rfl⟩) | omega

set_option maxHeartbeats 400000 in
theorem l02Normal_any (a : Int) (w : World) (h0 : -9223372036854775808 ≤ a) (h1 : a ≤ 9223372036854775807) :
    Calls Tryz.prog 119 #[.int .i64 a] w fun e w' => e = .returned (.int .i64 (nrm a)) ∧ w = w' := by
  by_cases c : 0 ≤ a
  · go_enter Tryz.func119, Tryz.ntmps119
    go_wp2
    go_ret
    exact ⟨ret_int (by unfold nrm; omega), rfl⟩
  · have e1 := tmod_neg a (by omega)
    have e2 := nrm_neg a (by omega)
    have b0 : 0 ≤ (-a) % 360000 := by omega
    have b1 : (-a) % 360000 < 360000 := by omega
    generalize (-a) % 360000 = r at *
    generalize hz : (if r = 0 then 0 else 360000 - r) = z at *
    rw [e2]
    have HZ := Lib.hid hz
    clear e2 hz
    go_enter Tryz.func119, Tryz.ntmps119
    go_wp2
    go_ret
    exact ⟨ret_int (by rw [← HZ.out]; split <;> omega), rfl⟩

end Go.Proofs.YtjghopepgfgebaaGreatDoor
