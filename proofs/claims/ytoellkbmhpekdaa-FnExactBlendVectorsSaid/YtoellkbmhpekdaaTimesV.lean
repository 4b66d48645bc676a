/-
  A vector times a number: the contract of times (package impl).
-/
import Derived.Test.YtoellkbmhpekdaaCore
import Derived.Test.YtoellkbmhpekdaaVec0
import Derived.IntWalk
namespace Go.Proofs.Ytoellkbmhpekdaa
open Go.RowKit
set_option linter.unusedVariables false

set_option maxHeartbeats 1000000 in
theorem times_any (x y z f : Int) (hx : -100000000000000 ≤ x * f ∧ x * f ≤ 100000000000000) (hy : -100000000000000 ≤ y * f ∧ y * f ≤ 100000000000000) (hz : -100000000000000 ≤ z * f ∧ z * f ≤ 100000000000000) (w : World) :
    Calls Try.prog 75 #[.agg #[.int .i64 x, .int .i64 y, .int .i64 z], .int .i64 f] w fun e w' => e = .returned (.agg #[.int .i64 (x * f), .int .i64 (y * f), .int .i64 (z * f)]) ∧ Below w.heap.size w w' := by
  have e1 : wrap64 (x * f) = x * f := IntWalk.wrap64_in _ (by omega)
  have e2 : wrap64 (y * f) = y * f := IntWalk.wrap64_in _ (by omega)
  have e3 : wrap64 (z * f) = z * f := IntWalk.wrap64_in _ (by omega)
  go_enter Try.func75, Try.ntmps75
  go_wp2_with fail
  refine bodyPost_ret (v := .agg #[.int .i64 (x * f), .int .i64 (y * f), .int .i64 (z * f)]) (by first | (simp [results, Try.results75, go_sem]; done) | (simp [results, Try.results75, go_sem, *]; done)) rfl ⟨rfl, ?_⟩
  repeat (first | exact Below.refl _ _ | refine Below.setCell ?_ (by first | (simp; done) | omega | (simp; omega)) _ | refine Below.alloc ?_ (by first | (simp; done) | omega | (simp; omega)) _ | refine bel_drew ?_)

end Go.Proofs.Ytoellkbmhpekdaa
