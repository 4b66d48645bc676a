/-
  Angles without a table: the contracts of SignedBetween, NormalAngle, TurnTowards, AngleOfHours (package impl) and of l02Between, l02Signed, TurnTowards, AngleOfHours and their like (package spec).
-/
import Derived.Test.YtfjhlapcopjfiaaBtw
namespace Go.Proofs.Ytfjhlapcopjfiaa
open Go.RowKit

set_option maxHeartbeats 400000 in
theorem implNrm_any (a : Int) (w : World) (h0 : -9223372036854775808 ≤ a) (h1 : a ≤ 9223372036854775807) :
    Calls Try.prog 72 #[.int .i64 a] w fun e w' => e = .returned (.int .i64 (nrm a)) ∧ w = w' := by
  go_enter Try.func72, Try.ntmps72
  go_wp2_with fail
  refine (normal_any _ _ h0 h1).mono ?_
  rintro e w' ⟨rfl, rfl⟩
  go_wp2_with fail
  go_ret
  exact ⟨rfl, rfl⟩
set_option maxHeartbeats 400000 in
theorem implSgn_any (a b : Int) (w : World) (h0 : -9223372036854775808 ≤ a) (h1 : a ≤ 9223372036854775807) (k0 : -9223372036854775808 ≤ b) (k1 : b ≤ 9223372036854775807) :
    Calls Try.prog 71 #[.int .i64 a, .int .i64 b] w fun e w' => e = .returned (.int .i64 (sgn a b)) ∧ w = w' := by
  obtain ⟨x0, x1⟩ := fwd_bd a b
  have F1 := Lib.hid (forwards_any a b w h0 h1 k0 k1)
  unfold sgn
  generalize fwd a b = x at *
  by_cases c : 180000 < x
  · rw [if_pos c]
    go_enter Try.func71, Try.ntmps71
    go_wp2_with fail
    refine F1.out.mono ?_
    rintro e w' ⟨rfl, rfl⟩
    go_wp2_with fail
    go_ret
    exact ⟨rfl, rfl⟩
  · rw [if_neg c]
    go_enter Try.func71, Try.ntmps71
    go_wp2_with fail
    refine F1.out.mono ?_
    rintro e w' ⟨rfl, rfl⟩
    go_wp2_with fail
    go_ret
    exact ⟨rfl, rfl⟩
/-- The turn that is made. -/
def clampI (s d : Int) : Int := if d < -s then -s else if s < d then s else d
def turnI (a b step : Int) : Int := nrm (nrm a + clampI step (sgn a b))
theorem clamp_bd (s d : Int) (h : 0 ≤ s) (d0 : -180000 < d) (d1 : d ≤ 180000) : -180000 ≤ clampI s d ∧ clampI s d ≤ 180000 := by
  unfold clampI; split
  · omega
  · split <;> omega
set_option maxHeartbeats 400000 in
theorem implTurn_any (a b s : Int) (w : World) (h0 : -9223372036854775808 ≤ a) (h1 : a ≤ 9223372036854775807) (k0 : -9223372036854775808 ≤ b) (k1 : b ≤ 9223372036854775807) (s1 : s ≤ 9223372036854775807) :
    Calls Try.prog 28 #[.int .i64 a, .int .i64 b, .int .i64 s] w fun e w' => e = .returned (if s < 0 then .tuple #[.int .i64 0, .int .i64 2] else .tuple #[.int .i64 (turnI a b s), .int .i64 0]) ∧ w = w' := by
  by_cases cs : s < 0
  · rw [if_pos cs]
    go_enter Try.func28, Try.ntmps28
    go_wp2_with fail
    go_ret2
    exact ⟨rfl, rfl⟩
  · rw [if_neg cs]
    have s0 : 0 ≤ s := by omega
    obtain ⟨x0, x1⟩ := sgn_bd a b
    obtain ⟨n0, n1⟩ := nrm_bd a
    have F1 := Lib.hid (implSgn_any a b w h0 h1 k0 k1)
    have cb := clamp_bd s (sgn a b) s0 x0 x1
    unfold turnI
    generalize sgn a b = d at *
    unfold clampI at *
    by_cases c1 : d < -s
    · rw [if_pos c1] at *
      have c1' : ¬ -s ≤ d := by omega
      have c2 : -s ≤ s := by omega
      go_enter Try.func28, Try.ntmps28
      go_wp2_with fail
      refine F1.out.mono ?_
      rintro e w' ⟨rfl, rfl⟩
      go_wp2_with fail
      refine (implNrm_any _ _ h0 h1).mono ?_
      rintro e w' ⟨rfl, rfl⟩
      go_wp2_with fail
      refine (implNrm_any _ _ (by omega) (by omega)).mono ?_
      rintro e w' ⟨rfl, rfl⟩
      go_wp2_with fail
      go_ret2
      exact ⟨rfl, rfl⟩
    · rw [if_neg c1] at *
      have c1' : -s ≤ d := by omega
      by_cases c2 : s < d
      · rw [if_pos c2] at *
        have c2' : ¬ d ≤ s := by omega
        go_enter Try.func28, Try.ntmps28
        go_wp2_with fail
        refine F1.out.mono ?_
        rintro e w' ⟨rfl, rfl⟩
        go_wp2_with fail
        refine (implNrm_any _ _ h0 h1).mono ?_
        rintro e w' ⟨rfl, rfl⟩
        go_wp2_with fail
        refine (implNrm_any _ _ (by omega) (by omega)).mono ?_
        rintro e w' ⟨rfl, rfl⟩
        go_wp2_with fail
        go_ret2
        exact ⟨rfl, rfl⟩
      · rw [if_neg c2] at *
        have c2' : d ≤ s := by omega
        go_enter Try.func28, Try.ntmps28
        go_wp2_with fail
        refine F1.out.mono ?_
        rintro e w' ⟨rfl, rfl⟩
        go_wp2_with fail
        refine (implNrm_any _ _ h0 h1).mono ?_
        rintro e w' ⟨rfl, rfl⟩
        go_wp2_with fail
        refine (implNrm_any _ _ (by omega) (by omega)).mono ?_
        rintro e w' ⟨rfl, rfl⟩
        go_wp2_with fail
        go_ret2
        exact ⟨rfl, rfl⟩
end Go.Proofs.Ytfjhlapcopjfiaa
