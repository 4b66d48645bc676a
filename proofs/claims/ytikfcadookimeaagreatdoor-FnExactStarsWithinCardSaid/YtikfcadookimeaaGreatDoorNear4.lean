/-
  The least of a row of numbers and its first place: slices.Min, slices.Index.
-/
import Derived.Test.YtikfcadookimeaaGreatDoorNear3
namespace Go.Proofs.YtikfcadookimeaaGreatDoor
open Go.RowKit
set_option linter.unusedVariables false

def bestF (f : Nat → Int) : Nat → Nat × Int
  | 0 => (0, f 0)
  | j + 1 => if f (j + 1) < (bestF f j).2 then (j + 1, f (j + 1)) else bestF f j
theorem bestF_spec (f : Nat → Int) (j : Nat) : (bestF f j).1 ≤ j ∧ f (bestF f j).1 = (bestF f j).2 ∧ (∀ k, k < (bestF f j).1 → (bestF f j).2 < f k) ∧ ∀ k, k ≤ j → (bestF f j).2 ≤ f k := by
  induction j with
  | zero => exact ⟨Nat.le_refl _, rfl, fun k hk => absurd hk (Nat.not_lt_zero _), fun k hk => by rw [show k = 0 by omega]; exact Int.le_refl _⟩
  | succ j ih =>
    obtain ⟨h1, h2, h3, h4⟩ := ih
    unfold bestF
    split
    · next hlt =>
      refine ⟨Nat.le_refl _, rfl, fun k hk => ?_, fun k hk => ?_⟩
      · have := h4 k (by simp only at hk; omega)
        show f (j + 1) < f k
        omega
      · show f (j + 1) ≤ f k
        by_cases e : k = j + 1
        · rw [e]; exact Int.le_refl _
        · have := h4 k (by omega)
          omega
    · next hlt =>
      refine ⟨by omega, h2, h3, fun k hk => ?_⟩
      by_cases e : k = j + 1
      · rw [e]; omega
      · exact h4 k (by omega)

theorem bestF_min (f : Nat → Int) (j : Nat) : (bestF f (j + 1)).2 = min (bestF f j).2 (f (j + 1)) := by
  show (if f (j + 1) < (bestF f j).2 then (j + 1, f (j + 1)) else bestF f j).2 = _
  by_cases c : f (j + 1) < (bestF f j).2
  · rw [if_pos c]
    show f (j + 1) = _
    omega
  · rw [if_neg c]
    omega

end Go.Proofs.YtikfcadookimeaaGreatDoor
