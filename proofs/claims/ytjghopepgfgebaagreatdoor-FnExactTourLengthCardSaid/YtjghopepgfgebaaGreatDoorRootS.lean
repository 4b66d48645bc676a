/-
  Square roots: the contract of l01Root (package spec), and both roots as a function of the number.
-/
import Derived.Test.YtjghopepgfgebaaGreatDoorRootD
import Derived.Test.YtjghopepgfgebaaGreatDoorVecMath
namespace Go.Proofs.YtjghopepgfgebaaGreatDoor
open Go.RowKit

/-- What holds at the head of the search by halves. -/
structure HalfInv (n lo hi : Int) : Prop where
  ord : lo ≤ hi
  low0 : 0 ≤ lo
  top : hi ≤ 3037000499
  low : lo = 0 ∨ lo * lo ≤ n
  high : n < (hi + 1) * (hi + 1)

theorem sq_top (m : Int) (h0 : 0 ≤ m) (h1 : m ≤ 3037000499) : 0 ≤ m * m ∧ m * m ≤ 9223372030926249001 := by
  have a : m * m ≤ 3037000499 * 3037000499 := Int.mul_le_mul h1 h1 h0 (by omega)
  exact ⟨Int.mul_nonneg h0 h0, by omega⟩
theorem HalfInv.done {n lo : Int} (h : HalfInv n lo lo) : IsRoot n lo := by
  by_cases c : n < 0
  · refine .inl ⟨c, ?_⟩
    rcases h.low with h1 | h1
    · exact h1
    · have := Int.mul_nonneg h.low0 h.low0
      omega
  · refine .inr ⟨by omega, h.low0, ?_, h.high⟩
    rcases h.low with h1 | h1
    · rw [h1]; omega
    · exact h1

set_option maxHeartbeats 800000 in
theorem l01Root_any (n : Int) (w : World) (h1 : n ≤ 9223372036854775807) :
    Calls Tryz.prog 73 #[.int .i64 n] w (RootPost n w) := by
  go_enter Tryz.func73, Tryz.ntmps73
  go_wp2_with fail
  go_loop [3, 4] (fun a b => ∃ lo hi : Int, a = .int .i64 lo ∧ b = .int .i64 hi ∧ HalfInv n lo hi) (fun a b => (intOf b - intOf a).toNat)
  case atStart => exact ⟨0, 3037000499, rfl, rfl, by omega, by omega, by omega, .inl rfl, by omega⟩
  case round =>
    obtain ⟨lo, hi, rfl, rfl, hinv⟩ := hrel
    have g1 := hinv.ord
    have g2 := hinv.low0
    have g3 := hinv.top
    by_cases hz : lo < hi
    · have m1 : lo < (lo + hi + 1) / 2 := by omega
      have m2 : (lo + hi + 1) / 2 ≤ hi := by omega
      obtain ⟨s1, s2⟩ := sq_top ((lo + hi + 1) / 2) (by omega) (by omega)
      by_cases c : (lo + hi + 1) / 2 * ((lo + hi + 1) / 2) ≤ n
      · have hn : HalfInv n ((lo + hi + 1) / 2) hi := ⟨by omega, by omega, g3, .inr c, hinv.high⟩
        have HN := Lib.hid hn
        clear hn hinv
        go_wp2_with fail
        go_round
        case rel => exact ⟨_, hi, rfl, rfl, HN.out⟩
        case measure => (simp [intOf] <;> omega)
      · have hn : HalfInv n lo ((lo + hi + 1) / 2 - 1) := ⟨by omega, g2, by omega, hinv.low, by rw [show (lo + hi + 1) / 2 - 1 + 1 = (lo + hi + 1) / 2 by omega]; omega⟩
        have HN := Lib.hid hn
        clear hn hinv
        go_wp2_with fail
        go_round
        case rel => exact ⟨lo, _, rfl, rfl, HN.out⟩
        case measure => (simp [intOf] <;> omega)
    · obtain rfl : lo = hi := by omega
      have HR := Lib.hid hinv.done
      clear hinv
      go_wp2_with fail
      go_ret
      exact ⟨lo, HR.out, rfl, rfl⟩

theorem implRootI_any (n : Int) (w : World) (h1 : n ≤ 9223372036854775807) :
    Calls Tryz.prog 85 #[.int .i64 n] w fun e w' => e = .returned (.int .i64 (rootI n)) ∧ w = w' := by
  refine (implRoot_any n w h1).mono ?_
  rintro e w' ⟨r, hr, rfl, rfl⟩
  exact ⟨by rw [IsRoot.unique hr (rootI_is n)], rfl⟩
theorem l01RootI_any (n : Int) (w : World) (h1 : n ≤ 9223372036854775807) :
    Calls Tryz.prog 73 #[.int .i64 n] w fun e w' => e = .returned (.int .i64 (rootI n)) ∧ w = w' := by
  refine (l01Root_any n w h1).mono ?_
  rintro e w' ⟨r, hr, rfl, rfl⟩
  exact ⟨by rw [IsRoot.unique hr (rootI_is n)], rfl⟩
end Go.Proofs.YtjghopepgfgebaaGreatDoor
