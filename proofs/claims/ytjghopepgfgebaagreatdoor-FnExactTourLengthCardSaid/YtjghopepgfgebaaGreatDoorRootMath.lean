/-
  Plain mathematics of square roots that are rounded down: no program is named here.
-/
import Derived.Lib.BitFns
import Derived.Laws.BitsLemmas
namespace Go.Proofs.YtjghopepgfgebaaGreatDoor

/-- r is the square root of n, rounded down; 0 for a negative n. -/
def IsRoot (n r : Int) : Prop := (n < 0 ∧ r = 0) ∨ (0 ≤ n ∧ 0 ≤ r ∧ r * r ≤ n ∧ n < (r + 1) * (r + 1))

theorem sq_lt (a b : Int) (ha : 0 ≤ a) (h : a * a < b * b) (hb : 0 ≤ b) : a < b := by
  by_cases c : a < b
  · exact c
  · have : b * b ≤ a * a := Int.mul_le_mul (by omega) (by omega) hb ha
    omega
theorem IsRoot.unique {n r s : Int} (h : IsRoot n r) (k : IsRoot n s) : r = s := by
  rcases h with ⟨h1, h2⟩ | ⟨h1, h2, h3, h4⟩ <;> rcases k with ⟨k1, k2⟩ | ⟨k1, k2, k3, k4⟩
  · omega
  · omega
  · omega
  · have a := sq_lt r (s + 1) h2 (by omega) (by omega)
    have b := sq_lt s (r + 1) k2 (by omega) (by omega)
    omega

theorem aux_bd : ∀ (f x : Nat), x < 2 ^ f → x < 2 ^ (Lib.bitLenAux f x) ∧ Lib.bitLenAux f x ≤ f
  | 0, x, h => by simp at h; subst h; simp [Lib.bitLenAux]
  | f + 1, x, h => by
    unfold Lib.bitLenAux
    by_cases c : x = 0
    · rw [if_pos c]; simp; omega
    · rw [if_neg c]
      obtain ⟨i1, i2⟩ := aux_bd f (x / 2) (by rw [Nat.pow_succ] at h; omega)
      refine ⟨?_, by omega⟩
      rw [Nat.pow_add]
      omega
theorem bitLen_bd (x : Nat) (h : x < 2 ^ 63) : x < 2 ^ Lib.bitLen x ∧ Lib.bitLen x ≤ 63 := by
  have e : Lib.bitLen x = Lib.bitLenAux 63 x := Lib.bitLenAux_fuel 63 x h 64 (by omega)
  rw [e]
  exact aux_bd 63 x h

/-- What holds at the head of the loop over the bits, k of which are still to be tried. -/
structure RootInv (m r k : Nat) : Prop where
  div : r % 2 ^ k = 0
  low : r * r ≤ m
  high : m < (r + 2 ^ k) * (r + 2 ^ k)
  fits : r + 2 ^ k ≤ 4294967296

theorem two_succ (j : Nat) : 2 ^ (j + 1) = 2 ^ j + 2 ^ j := by rw [Nat.pow_succ]; omega

theorem RootInv.start (m L : Nat) (h0 : 1 ≤ L) (h1 : L ≤ 63) (h : m < 2 ^ L) : RootInv m 0 ((L - 1) / 2 + 1) := by
  refine ⟨Nat.zero_mod _, by omega, ?_, ?_⟩
  · rw [Nat.zero_add, ← Nat.pow_add]
    exact Nat.lt_of_lt_of_le h (Nat.pow_le_pow_right (by omega) (by omega))
  · rw [Nat.zero_add]
    have : 2 ^ ((L - 1) / 2 + 1) ≤ 2 ^ 32 := Nat.pow_le_pow_right (by omega) (by omega)
    omega
theorem RootInv.yes {m r j : Nat} (h : RootInv m r (j + 1)) (c : (r + 2 ^ j) * (r + 2 ^ j) ≤ m) : RootInv m (r + 2 ^ j) j := by
  have e := two_succ j
  refine ⟨?_, c, ?_, ?_⟩
  · have hd := h.div
    rw [e] at hd
    have : r % 2 ^ j = 0 := by
      rw [show 2 ^ j + 2 ^ j = 2 ^ j * 2 by omega] at hd
      exact Nat.mod_eq_zero_of_dvd (Nat.dvd_trans (Nat.dvd_mul_right (2 ^ j) 2) (Nat.dvd_of_mod_eq_zero hd))
    rw [Nat.add_mod_right]
    exact this
  · have hh := h.high
    rw [e] at hh
    rw [Nat.add_assoc]
    exact hh
  · have := h.fits
    omega
theorem RootInv.no {m r j : Nat} (h : RootInv m r (j + 1)) (c : m < (r + 2 ^ j) * (r + 2 ^ j)) : RootInv m r j := by
  have e := two_succ j
  refine ⟨?_, h.low, c, ?_⟩
  · have hd := h.div
    rw [e, show 2 ^ j + 2 ^ j = 2 ^ j * 2 by omega] at hd
    exact Nat.mod_eq_zero_of_dvd (Nat.dvd_trans (Nat.dvd_mul_right (2 ^ j) 2) (Nat.dvd_of_mod_eq_zero hd))
  · have hf := h.fits
    have hp := Nat.two_pow_pos j
    omega
theorem RootInv.done {m r : Nat} (h : RootInv m r 0) : IsRoot (m : Int) (r : Int) := by
  have h1 := h.low
  have h2 := h.high
  rw [Nat.pow_zero] at h2
  refine .inr ⟨by omega, by omega, ?_, ?_⟩
  · have : ((r * r : Nat) : Int) ≤ (m : Int) := by omega
    simpa using this
  · have : (m : Int) < (((r + 1) * (r + 1) : Nat) : Int) := by omega
    simpa using this
theorem RootInv.tried {m r j : Nat} (h : RootInv m r (j + 1)) : bits .or .i64 (r : Int) ((2 : Int) ^ j) = ((r + 2 ^ j : Nat) : Int) := by
  have e := two_succ j
  have hf := h.fits
  have hp : 0 < 2 ^ j := Nat.two_pow_pos j
  have hc : ((2 : Int) ^ j) = ((2 ^ j : Nat) : Int) := by simp
  have hj : bits .or .i64 (r : Int) ((2 : Int) ^ j) = (r : Int) + (2 : Int) ^ j := by
    refine bits_join .i64 63 (by decide) (fun n h0 h1 => ?_) (j + 1) _ _ (by omega) ?_ ?_ ?_ ?_ ?_
    · rw [IntKind.wrap_i64]
      have : (2 : Int) ^ 63 = 9223372036854775808 := by decide
      omega
    · have := h.div
      have h2 : ((r % 2 ^ (j + 1) : Nat) : Int) = 0 := by omega
      simpa using h2
    · have : (2 : Int) ^ 63 = 9223372036854775808 := by decide
      omega
    · rw [hc]; omega
    · rw [hc]
      have : ((2 : Int) ^ (j + 1)) = ((2 ^ (j + 1) : Nat) : Int) := by simp
      rw [this]
      omega
    · have : (2 : Int) ^ 63 = 9223372036854775808 := by decide
      rw [hc, this]
      omega
  rw [hj, hc]
  omega
theorem le_div_sq (x m : Nat) (h : 1 ≤ x) : x ≤ m / x ↔ x * x ≤ m := Nat.le_div_iff_mul_le (by omega)
end Go.Proofs.YtjghopepgfgebaaGreatDoor
