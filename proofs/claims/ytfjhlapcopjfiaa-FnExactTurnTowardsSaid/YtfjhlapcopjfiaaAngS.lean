/-
  Angles without a table, package spec: l00Min, l00Max, l02Between, l02Signed, NormalAngle, AngleBetween, SignedBetween, TurnTowards, AngleOfHours.
-/
import Derived.Test.YtfjhlapcopjfiaaAngP
namespace Go.Proofs.Ytfjhlapcopjfiaa
open Go.RowKit

set_option maxHeartbeats 400000 in
theorem l00Min_any (a b : Int) (w : World) :
    Calls Try.prog 68 #[.int .i64 a, .int .i64 b] w fun e w' => e = .returned (.int .i64 (if a < b then a else b)) ∧ w = w' := by
  by_cases c : a < b
  · rw [if_pos c]
    go_enter Try.func68, Try.ntmps68
    go_wp2_with fail
    go_ret
    exact ⟨rfl, rfl⟩
  · rw [if_neg c]
    have c' : decide (a < b) = false := by simpa using c
    go_enter Try.func68, Try.ntmps68
    go_wp2_with fail
    go_ret
    exact ⟨rfl, rfl⟩
set_option maxHeartbeats 400000 in
theorem l00Max_any (a b : Int) (w : World) :
    Calls Try.prog 67 #[.int .i64 a, .int .i64 b] w fun e w' => e = .returned (.int .i64 (if b < a then a else b)) ∧ w = w' := by
  by_cases c : b < a
  · rw [if_pos c]
    go_enter Try.func67, Try.ntmps67
    go_wp2_with fail
    go_ret
    exact ⟨rfl, rfl⟩
  · rw [if_neg c]
    have c' : decide (b < a) = false := by simpa using c
    go_enter Try.func67, Try.ntmps67
    go_wp2_with fail
    go_ret
    exact ⟨rfl, rfl⟩
set_option maxHeartbeats 400000 in
theorem l02Signed_any (a b : Int) (w : World) (h0 : -9223372036854775808 ≤ a) (h1 : a ≤ 9223372036854775807) (k0 : -9223372036854775808 ≤ b) (k1 : b ≤ 9223372036854775807) :
    Calls Try.prog 69 #[.int .i64 a, .int .i64 b] w fun e w' => e = .returned (.int .i64 (sgn a b)) ∧ w = w' := by
  have hf := fwd_bd a b
  unfold sgn
  unfold fwd at *
  obtain ⟨x0, x1⟩ := nrm_bd a
  obtain ⟨y0, y1⟩ := nrm_bd b
  have FN := Lib.hid (l02Normal_any (nrm b - nrm a) w (by omega) (by omega))
  generalize nrm (nrm b - nrm a) = d at *
  by_cases c : 180000 < d
  · rw [if_pos c]
    go_enter Try.func69, Try.ntmps69
    go_wp2_with fail
    refine (l02Normal_any _ _ k0 k1).mono ?_
    rintro e w' ⟨rfl, rfl⟩
    go_wp2_with fail
    refine (l02Normal_any _ _ h0 h1).mono ?_
    rintro e w' ⟨rfl, rfl⟩
    go_wp2_with fail
    refine FN.out.mono ?_
    rintro e w' ⟨rfl, rfl⟩
    go_wp2_with fail
    go_ret
    exact ⟨rfl, rfl⟩
  · rw [if_neg c]
    go_enter Try.func69, Try.ntmps69
    go_wp2_with fail
    refine (l02Normal_any _ _ k0 k1).mono ?_
    rintro e w' ⟨rfl, rfl⟩
    go_wp2_with fail
    refine (l02Normal_any _ _ h0 h1).mono ?_
    rintro e w' ⟨rfl, rfl⟩
    go_wp2_with fail
    refine FN.out.mono ?_
    rintro e w' ⟨rfl, rfl⟩
    go_wp2_with fail
    go_ret
    exact ⟨rfl, rfl⟩
theorem clamp_eq (s d : Int) (h : 0 ≤ s) : (if (if s < d then s else d) < -s then -s else (if s < d then s else d)) = clampI s d := by
  unfold clampI
  split <;> split <;> (try split) <;> omega
set_option maxHeartbeats 400000 in
theorem specTurn_any (a b s : Int) (w : World) (h0 : -9223372036854775808 ≤ a) (h1 : a ≤ 9223372036854775807) (k0 : -9223372036854775808 ≤ b) (k1 : b ≤ 9223372036854775807) (s1 : s ≤ 9223372036854775807) :
    Calls Try.prog 27 #[.int .i64 a, .int .i64 b, .int .i64 s] w fun e w' => e = .returned (if s < 0 then .tuple #[.int .i64 0, .int .i64 2] else .tuple #[.int .i64 (turnI a b s), .int .i64 0]) ∧ w = w' := by
  by_cases cs : s < 0
  · rw [if_pos cs]
    go_enter Try.func27, Try.ntmps27
    go_wp2_with fail
    go_ret2
    exact ⟨rfl, rfl⟩
  · rw [if_neg cs]
    have s0 : 0 ≤ s := by omega
    obtain ⟨x0, x1⟩ := sgn_bd a b
    obtain ⟨n0, n1⟩ := nrm_bd a
    have F1 := Lib.hid (l02Signed_any a b w h0 h1 k0 k1)
    have cb := clamp_bd s (sgn a b) s0 x0 x1
    unfold turnI
    have F2 := Lib.hid (l00Min_any s (sgn a b) w)
    have F3 := Lib.hid (l00Max_any (-s) (if s < sgn a b then s else sgn a b) w)
    rw [clamp_eq s (sgn a b) s0] at F3
    generalize clampI s (sgn a b) = x at *
    generalize (if s < sgn a b then s else sgn a b) = m at *
    generalize sgn a b = d at *
    go_enter Try.func27, Try.ntmps27
    go_wp2_with fail
    refine F1.out.mono ?_
    rintro e w' ⟨rfl, rfl⟩
    go_wp2_with fail
    refine F2.out.mono ?_
    rintro e w' ⟨rfl, rfl⟩
    go_wp2_with fail
    refine F3.out.mono ?_
    rintro e w' ⟨rfl, rfl⟩
    go_wp2_with fail
    refine (l02Normal_any _ _ h0 h1).mono ?_
    rintro e w' ⟨rfl, rfl⟩
    go_wp2_with fail
    refine (l02Normal_any _ _ (by omega) (by omega)).mono ?_
    rintro e w' ⟨rfl, rfl⟩
    go_wp2_with fail
    go_ret2
    exact ⟨rfl, rfl⟩
end Go.Proofs.Ytfjhlapcopjfiaa
