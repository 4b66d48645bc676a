/-
  Directions that are up: the contract of isUp (package impl).
-/
import Derived.Test.YtleaoemckdkndaaDirV
import Derived.IntWalk
namespace Go.Proofs.Ytleaoemckdkndaa
open Go.RowKit
set_option linter.unusedVariables false

/-- A direction that is up. -/
def upB (a h : Int) : Bool := inR 0 359999 [a] && inR 0 90000 [h]
theorem upB_eq (a h : Int) : upB a h = (dirB a h && decide (0 ≤ h)) := by
  rw [Bool.eq_iff_iff]
  unfold upB dirB
  simp only [Bool.and_eq_true, inR_1, decide_eq_true_eq]
  constructor
  · rintro ⟨h1, h2⟩; exact ⟨⟨h1, by omega⟩, by omega⟩
  · rintro ⟨⟨h1, h2⟩, h3⟩; exact ⟨h1, by omega⟩
theorem upB_bd {a h : Int} (H : upB a h = true) : (0 ≤ a ∧ a ≤ 359999) ∧ 0 ≤ h ∧ h ≤ 90000 := by
  unfold upB at H
  simp only [Bool.and_eq_true, inR_1] at H
  exact H
end Go.Proofs.Ytleaoemckdkndaa
