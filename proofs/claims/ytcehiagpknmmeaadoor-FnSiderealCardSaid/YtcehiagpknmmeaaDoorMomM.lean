/-
  All milliseconds of a moment: the contracts of millis (package impl) and l03All (package spec).
-/
import Derived.Test.YtcehiagpknmmeaaDoorMomA
namespace Go.Proofs.YtcehiagpknmmeaaDoor
open Go.RowKit
set_option linter.unusedVariables false

set_option maxHeartbeats 400000 in
theorem millis_any (d m : Int) (d0 : 0 ≤ d) (d1 : d ≤ 99999) (m0 : 0 ≤ m) (m1 : m ≤ 86399999) (w : World) :
    Calls Tryd.prog 20 #[.agg #[.int .i64 d, .int .i64 m]] w fun e w' => e = .returned (.int .i64 (d * 86400000 + m)) ∧ Below w.heap.size w w' := by
  go_enter Tryd.func20, Tryd.ntmps20
  go_wp2_with fail
  go_ret
  refine ⟨rfl, ?_⟩
  repeat (first | exact Below.refl _ _ | refine Below.setCell ?_ (by first | (simp; done) | omega | (simp; omega)) _ | refine Below.alloc ?_ (by first | (simp; done) | omega | (simp; omega)) _)

set_option maxHeartbeats 400000 in
theorem l03All_any (d m : Int) (d0 : 0 ≤ d) (d1 : d ≤ 99999) (m0 : 0 ≤ m) (m1 : m ≤ 86399999) (w : World) :
    Calls Tryd.prog 25 #[.agg #[.int .i64 d, .int .i64 m]] w fun e w' => e = .returned (.int .i64 (d * 86400000 + m)) ∧ Below w.heap.size w w' := by
  go_enter Tryd.func25, Tryd.ntmps25
  go_wp2_with fail
  go_ret
  refine ⟨rfl, ?_⟩
  repeat (first | exact Below.refl _ _ | refine Below.setCell ?_ (by first | (simp; done) | omega | (simp; omega)) _ | refine Below.alloc ?_ (by first | (simp; done) | omega | (simp; omega)) _)
end Go.Proofs.YtcehiagpknmmeaaDoor
