/-
  Directions: the contracts of isTurnAngle, isElevation and of a direction's isValid (package impl).
-/
import Derived.Test.YtleaoemckdkndaaNam
import Derived.Test.YtleaoemckdkndaaVec0
import Derived.Test.YtleaoemckdkndaaArg0
import Derived.RegionTactic
import Derived.Deep.QuietTactic
import Derived.BigQuiet
import Derived.Deep.Draws
namespace Go.Proofs.Ytleaoemckdkndaa
open Go.RowKit
set_option linter.unusedVariables false

def dirB (a b : Int) : Bool := inR 0 359999 [a] && inR (-90000) 90000 [b]

set_option maxHeartbeats 400000 in
theorem isTurn_any (a : Int) (w : World) :
    Calls Try.prog 142 #[.int .i64 a] w fun e w' => e = .returned (.bool (inR 0 359999 [a])) ∧ Below w.heap.size w w' := by
  go_enter Try.func142, Try.ntmps142
  go_wp2_with fail
  refine (within1 _ _ a _ _ _ (by simp)).mono ?_
  rintro e w' ⟨rfl, rfl⟩
  go_wp2_with fail
  go_ret
  refine ⟨rfl, ?_⟩
  repeat (first | exact Below.refl _ _ | refine Below.setCell ?_ (by first | (simp; done) | omega | (simp; omega)) _ | refine Below.alloc ?_ (by first | (simp; done) | omega | (simp; omega)) _ | refine bel_drew ?_)
end Go.Proofs.Ytleaoemckdkndaa
