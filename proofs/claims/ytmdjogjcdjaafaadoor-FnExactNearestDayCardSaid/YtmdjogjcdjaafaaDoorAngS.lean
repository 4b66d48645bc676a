/-
  Angles without a table, package spec: l00Min, l00Max, l02Between, l02Signed, NormalAngle, AngleBetween, SignedBetween, TurnTowards, AngleOfHours.
-/
import Derived.Test.YtmdjogjcdjaafaaDoorAngP
namespace Go.Proofs.YtmdjogjcdjaafaaDoor
open Go.RowKit

set_option maxHeartbeats 400000 in
theorem l00Min_any (a b : Int) (w : World) :
    Calls Tryd.prog 70 #[.int .i64 a, .int .i64 b] w fun e w' => e = .returned (.int .i64 (if a < b then a else b)) ∧ w = w' := by
  by_cases c : a < b
  · rw [if_pos c]
    go_enter Tryd.func70, Tryd.ntmps70
    go_wp2_with fail
    go_ret
    exact ⟨rfl, rfl⟩
  · rw [if_neg c]
    have c' : decide (a < b) = false := by simpa using c
    go_enter Tryd.func70, Tryd.ntmps70
    go_wp2_with fail
    go_ret
    exact ⟨rfl, rfl⟩
set_option maxHeartbeats 400000 in
theorem l00Max_any (a b : Int) (w : World) :
    Calls Tryd.prog 88 #[.int .i64 a, .int .i64 b] w fun e w' => e = .returned (.int .i64 (if b < a then a else b)) ∧ w = w' := by
  by_cases c : b < a
  · rw [if_pos c]
    go_enter Tryd.func88, Tryd.ntmps88
    go_wp2_with fail
    go_ret
    exact ⟨rfl, rfl⟩
  · rw [if_neg c]
    have c' : decide (b < a) = false := by simpa using c
    go_enter Tryd.func88, Tryd.ntmps88
    go_wp2_with fail
    go_ret
    exact ⟨rfl, rfl⟩
set_option maxHeartbeats 400000 in
theorem l02Between_any (a b : Int) (w : World) (h0 : -9223372036854775808 ≤ a) (h1 : a ≤ 9223372036854775807) (k0 : -9223372036854775808 ≤ b) (k1 : b ≤ 9223372036854775807) :
    Calls Tryd.prog 40 #[.int .i64 a, .int .i64 b] w fun e w' => e = .returned (.int .i64 (btw a b)) ∧ w = w' := by
  have hf := fwd_bd a b
  rw [btw_eq]
  unfold fwd at *
  obtain ⟨x0, x1⟩ := nrm_bd a
  obtain ⟨y0, y1⟩ := nrm_bd b
  have FN := Lib.hid (l02Normal_any (nrm b - nrm a) w (by omega) (by omega))
  generalize nrm (nrm b - nrm a) = d at *
  have FM := Lib.hid (l00Min_any d (360000 - d) w)
  have hm : (if d < 360000 - d then d else 360000 - d) = mn2 d (360000 - d) := by unfold mn2; split <;> split <;> omega
  rw [hm] at FM
  generalize mn2 d (360000 - d) = r at *
  clear hm
  go_enter Tryd.func40, Tryd.ntmps40
  go_wp2_with fail
  refine (l02Normal_any _ _ k0 k1).mono ?_
  rintro e w' ⟨rfl, rfl⟩
  go_wp2_with fail
  refine (l02Normal_any _ _ h0 h1).mono ?_
  rintro e w' ⟨rfl, rfl⟩
  go_wp2_with fail
  refine FN.out.mono ?_
  rintro e w' ⟨rfl, rfl⟩
  go_wp2_with fail
  refine FM.out.mono ?_
  rintro e w' ⟨rfl, rfl⟩
  go_wp2_with fail
  go_ret
  exact ⟨rfl, rfl⟩
set_option maxHeartbeats 400000 in
theorem l02Signed_any (a b : Int) (w : World) (h0 : -9223372036854775808 ≤ a) (h1 : a ≤ 9223372036854775807) (k0 : -9223372036854775808 ≤ b) (k1 : b ≤ 9223372036854775807) :
    Calls Tryd.prog 49 #[.int .i64 a, .int .i64 b] w fun e w' => e = .returned (.int .i64 (sgn a b)) ∧ w = w' := by
  have hf := fwd_bd a b
  unfold sgn
  unfold fwd at *
  obtain ⟨x0, x1⟩ := nrm_bd a
  obtain ⟨y0, y1⟩ := nrm_bd b
  have FN := Lib.hid (l02Normal_any (nrm b - nrm a) w (by omega) (by omega))
  generalize nrm (nrm b - nrm a) = d at *
  by_cases c : 180000 < d
  · rw [if_pos c]
    go_enter Tryd.func49, Tryd.ntmps49
    go_wp2_with fail
    refine (l02Normal_any _ _ k0 k1).mono ?_
    rintro e w' ⟨rfl, rfl⟩
    go_wp2_with fail
    refine (l02Normal_any _ _ h0 h1).mono ?_
    rintro e w' ⟨rfl, rfl⟩
    go_wp2_with fail
    refine FN.out.mono ?_
    rintro e w' ⟨rfl, rfl⟩
    go_wp2_with fail
    go_ret
    exact ⟨rfl, rfl⟩
  · rw [if_neg c]
    go_enter Tryd.func49, Tryd.ntmps49
    go_wp2_with fail
    refine (l02Normal_any _ _ k0 k1).mono ?_
    rintro e w' ⟨rfl, rfl⟩
    go_wp2_with fail
    refine (l02Normal_any _ _ h0 h1).mono ?_
    rintro e w' ⟨rfl, rfl⟩
    go_wp2_with fail
    refine FN.out.mono ?_
    rintro e w' ⟨rfl, rfl⟩
    go_wp2_with fail
    go_ret
    exact ⟨rfl, rfl⟩
theorem clamp_eq (s d : Int) (h : 0 ≤ s) : (if (if s < d then s else d) < -s then -s else (if s < d then s else d)) = clampI s d := by
  unfold clampI
  split <;> split <;> (try split) <;> omega
end Go.Proofs.YtmdjogjcdjaafaaDoor
