/-
  Vectors: the contracts of toVector, eqVector (package laws), ValidVector (package impl), l04Ok, ValidVector (package spec).
-/
import Derived.Test.YtjghopepgfgebaaGreatDoorCore
import Derived.Test.YtjghopepgfgebaaGreatDoorVec0
namespace Go.Proofs.YtjghopepgfgebaaGreatDoor
open Go.RowKit
set_option linter.unusedVariables false

def okV (x y z : Int) : Bool := inR (-2000000) 2000000 [x, y, z]
theorem okV_eq (x y z : Int) : okV x y z = (inR (-2000000) 2000000 [x] && (inR (-2000000) 2000000 [y] && inR (-2000000) 2000000 [z])) := by simp [okV, inR]
theorem okV_bd (x y z : Int) : okV x y z = true ↔ (-2000000 ≤ x ∧ x ≤ 2000000) ∧ (-2000000 ≤ y ∧ y ≤ 2000000) ∧ (-2000000 ≤ z ∧ z ≤ 2000000) := by simp [okV, inR]
theorem within3 (lo hi a a' a'' : Int) (b cap : Nat) (w : World) (hc : w.cell? ⟨b, 0, none⟩ = some (.int .i64 a)) (hc' : w.cell? ⟨b, 1, none⟩ = some (.int .i64 a')) (hc'' : w.cell? ⟨b, 2, none⟩ = some (.int .i64 a'')) :
    Calls Tryz.prog 50 #[.int .i64 lo, .int .i64 hi, .slice (some ⟨b, 0, none⟩) 3 cap] w fun e w' => e = .returned (.bool (inR lo hi [a, a', a''])) ∧ w = w' :=
  within64 lo hi b 0 3 cap [a, a', a''] w rfl (by omega) (fun j hj => by
    match j, hj with
    | 0, _ => simpa using hc
    | 1, _ => simpa using hc'
    | 2, _ => simpa using hc'')

set_option maxHeartbeats 400000 in
theorem validV_any (x y z : Int) (w : World) :
    Calls Tryz.prog 124 #[.agg #[.int .i64 x, .int .i64 y, .int .i64 z]] w fun e w' => e = .returned (.bool (okV x y z)) ∧ Below w.heap.size w w' := by
  unfold okV
  go_enter Tryz.func124, Tryz.ntmps124
  go_wp2_with fail
  refine (within3 _ _ x y z _ _ _ (by simp) (by simp) (by simp)).mono ?_
  rintro e w' ⟨rfl, rfl⟩
  go_wp2_with fail
  go_ret
  refine ⟨rfl, ?_⟩
  repeat (first | exact Below.refl _ _ | refine Below.setCell ?_ (by first | (simp; done) | omega | (simp; omega)) _ | refine Below.alloc ?_ (by first | (simp; done) | omega | (simp; omega)) _)

end Go.Proofs.YtjghopepgfgebaaGreatDoor
