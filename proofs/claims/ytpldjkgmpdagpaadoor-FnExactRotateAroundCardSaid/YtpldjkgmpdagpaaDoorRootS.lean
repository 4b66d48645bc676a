/-
  Square roots: the contract of l01Root (package spec), and both roots as a function of the number.
-/
import Derived.Test.YtpldjkgmpdagpaaDoorRootD
import Derived.Test.YtpldjkgmpdagpaaDoorVecMath
namespace Go.Proofs.YtpldjkgmpdagpaaDoor
open Go.RowKit

/-- What holds at the head of the search by halves. -/
structure HalfInv (n lo hi : Int) : Prop where
  ord : lo ≤ hi
  low0 : 0 ≤ lo
  top : hi ≤ 3037000499
  low : lo = 0 ∨ lo * lo ≤ n
  high : n < (hi + 1) * (hi + 1)

theorem sq_top (m : Int) (h0 : 0 ≤ m) (h1 : m ≤ 3037000499) : 0 ≤ m * m ∧ m * m ≤ 9223372030926249001 := by
  have a : m * m ≤ 3037000499 * 3037000499 := Int.mul_le_mul h1 h1 h0 (by omega)
  exact ⟨Int.mul_nonneg h0 h0, by omega⟩
theorem HalfInv.done {n lo : Int} (h : HalfInv n lo lo) : IsRoot n lo := by
  by_cases c : n < 0
  · refine .inl ⟨c, ?_⟩
    rcases h.low with h1 | h1
    · exact h1
    · have := Int.mul_nonneg h.low0 h.low0
      omega
  · refine .inr ⟨by omega, h.low0, ?_, h.high⟩
    rcases h.low with h1 | h1
    · rw [h1]; omega
    · exact h1

end Go.Proofs.YtpldjkgmpdagpaaDoor
