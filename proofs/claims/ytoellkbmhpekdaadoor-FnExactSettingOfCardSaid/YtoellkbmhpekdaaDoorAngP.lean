/-
  Angles without a table: the contracts of SignedBetween, NormalAngle, TurnTowards, AngleOfHours (package impl) and of l02Between, l02Signed, TurnTowards, AngleOfHours and their like (package spec).
-/
import Derived.Test.YtoellkbmhpekdaaDoorBtw
namespace Go.Proofs.YtoellkbmhpekdaaDoor
open Go.RowKit

set_option maxHeartbeats 400000 in
theorem implNrm_any (a : Int) (w : World) (h0 : -9223372036854775808 ≤ a) (h1 : a ≤ 9223372036854775807) :
    Calls Tryd.prog 46 #[.int .i64 a] w fun e w' => e = .returned (.int .i64 (nrm a)) ∧ w = w' := by
  go_enter Tryd.func46, Tryd.ntmps46
  go_wp2_with fail
  refine (normal_any _ _ h0 h1).mono ?_
  rintro e w' ⟨rfl, rfl⟩
  go_wp2_with fail
  go_ret
  exact ⟨rfl, rfl⟩
/-- The turn that is made. -/
def clampI (s d : Int) : Int := if d < -s then -s else if s < d then s else d
def turnI (a b step : Int) : Int := nrm (nrm a + clampI step (sgn a b))
theorem clamp_bd (s d : Int) (h : 0 ≤ s) (d0 : -180000 < d) (d1 : d ≤ 180000) : -180000 ≤ clampI s d ∧ clampI s d ≤ 180000 := by
  unfold clampI; split
  · omega
  · split <;> omega
end Go.Proofs.YtoellkbmhpekdaaDoor
