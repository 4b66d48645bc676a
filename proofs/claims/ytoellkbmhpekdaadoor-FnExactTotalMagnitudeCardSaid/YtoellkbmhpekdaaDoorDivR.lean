/-
  The nearest quotient within its limits: the contract of DivRound (package impl).
-/
import Derived.Test.YtoellkbmhpekdaaDoorQ2
namespace Go.Proofs.YtoellkbmhpekdaaDoor
open Go.RowKit

/-- What both DivRound come to. -/
def divR (a b : Int) : Int := if inR (-1000000000000) 1000000000000 [a, b] = true then nearQ a b else 0

set_option maxHeartbeats 400000 in
theorem implDiv_any (a b : Int) (w : World) :
    Calls Tryd.prog 96 #[.int .i64 a, .int .i64 b] w fun e w' => e = .returned (.int .i64 (divR a b)) ∧ Below w.heap.size w w' := by
  unfold divR
  by_cases h : inR (-1000000000000) 1000000000000 [a, b] = true
  · rw [if_pos h]
    have h2 := h
    rw [inR_2, Bool.and_eq_true, inR_1, inR_1] at h2
    have H := Lib.hid h
    clear h
    obtain ⟨⟨ha, ha'⟩, hb, hb'⟩ := h2
    go_enter Tryd.func96, Tryd.ntmps96
    go_wp2_with fail
    refine (within64 _ _ _ _ _ _ [a, b] _ rfl (by simp) (cells_2 _ _ _ _)).mono ?_
    rintro e w' ⟨rfl, rfl⟩
    rw [H.out]
    go_wp2_with fail
    refine (nearest_any _ _ _ (by omega) (by omega) (by omega) (by omega)).mono ?_
    rintro e w' ⟨rfl, hg⟩
    go_wp2_with fail
    go_ret
    exact ⟨rfl, ((Below.refl _ _).alloc (Nat.le_refl _) _).trans (hg.mono (by simp))⟩
  · rw [if_neg h]
    have h' : inR (-1000000000000) 1000000000000 [a, b] = false := by simpa using h
    have H := Lib.hid h'
    clear h h'
    go_enter Tryd.func96, Tryd.ntmps96
    go_wp2_with fail
    refine (within64 _ _ _ _ _ _ [a, b] _ rfl (by simp) (cells_2 _ _ _ _)).mono ?_
    rintro e w' ⟨rfl, rfl⟩
    rw [H.out]
    go_wp2_with fail
    go_ret
    exact ⟨rfl, (Below.refl _ _).alloc (Nat.le_refl _) _⟩

end Go.Proofs.YtoellkbmhpekdaaDoor
