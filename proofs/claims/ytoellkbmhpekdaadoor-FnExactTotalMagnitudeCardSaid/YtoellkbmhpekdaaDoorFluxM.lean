/-
  Fluxes: the table, a whole magnitude brighter, bounds, and that they rise.
-/
import Derived.Test.YtoellkbmhpekdaaDoorQ2
import Derived.Test.YtoellkbmhpekdaaDoorAngMath
namespace Go.Proofs.YtoellkbmhpekdaaDoor
open Go.RowKit
set_option linter.unusedVariables false

def fluxT : List Int := [1000, 1096, 1202, 1318, 1445, 1585, 1738, 1905, 2089, 2291, 2512]
def fT (j : Nat) : Int := fluxT.getD j 0
def fluxUp (b : Int) : Nat → Int
  | 0 => b
  | i + 1 => nearQ (2512 * fluxUp b i) 1000
def fB (m : Nat) : Int := fT (m / 10) + nearQ ((fT (m / 10 + 1) - fT (m / 10)) * ((m % 10 : Nat) : Int)) 10
def fluxN (n : Nat) : Int := fluxUp (fB (n % 100)) (n / 100)
theorem nearQ_3 (f : Int) (h : 1000 ≤ f) : 1000 ≤ nearQ (2512 * f) 1000 ∧ nearQ (2512 * f) 1000 ≤ 3 * f := by
  rw [nearQ_pp _ _ (by omega) (by omega)]; omega
theorem fluxUp_bd (b : Int) (h0 : 1000 ≤ b) (h1 : b ≤ 2512) : ∀ i : Nat, 1000 ≤ fluxUp b i ∧ fluxUp b i ≤ 2512 * ((3 ^ i : Nat) : Int)
  | 0 => by simp [fluxUp]; omega
  | i + 1 => by
    have ih := fluxUp_bd b h0 h1 i
    have h := nearQ_3 (fluxUp b i) ih.1
    have e : ((3 ^ (i + 1) : Nat) : Int) = 3 * ((3 ^ i : Nat) : Int) := by rw [Nat.pow_succ]; omega
    rw [e]
    show 1000 ≤ nearQ (2512 * fluxUp b i) 1000 ∧ nearQ (2512 * fluxUp b i) 1000 ≤ _
    omega
theorem fluxUp_le (b : Int) (h0 : 1000 ≤ b) (h1 : b ≤ 2512) (i : Nat) (hi : i ≤ 10) : 1000 ≤ fluxUp b i ∧ fluxUp b i ≤ 148331088 := by
  have h := fluxUp_bd b h0 h1 i
  have h3 : 3 ^ i ≤ 3 ^ 10 := Nat.pow_le_pow_right (by omega) hi
  have e : (3 : Nat) ^ 10 = 59049 := by decide
  omega
theorem fT_bd : ∀ j, j < 11 → 1000 ≤ fT j ∧ fT j ≤ 2512 := by decide +kernel
theorem fT_step : ∀ j, j < 10 → fT j ≤ fT (j + 1) := by decide +kernel
theorem fB_bd : ∀ m, m < 100 → 1000 ≤ fB m ∧ fB m ≤ 2512 := by decide +kernel
theorem fB_blend : ∀ m, m < 100 → blendI 0 (fT (m / 10)) 10 (fT (m / 10 + 1)) ((m % 10 : Nat) : Int) = fB m := by decide +kernel
theorem fluxN_bd (n : Nat) (h : n ≤ 1000) : 1000 ≤ fluxN n ∧ fluxN n ≤ 148331088 := by
  have hb := fB_bd (n % 100) (by omega)
  exact fluxUp_le _ hb.1 hb.2 _ (by omega)
set_option maxRecDepth 100000 in
theorem fluxN_next : ∀ n, n < 1000 → fluxN n < fluxN (n + 1) := by decide +kernel
theorem fluxN_mono (a b : Nat) (h : a ≤ b) (hb : b ≤ 1000) : fluxN a ≤ fluxN b := by
  induction b with
  | zero => obtain rfl : a = 0 := by omega
            exact Int.le_refl _
  | succ b ih =>
    by_cases c : a = b + 1
    · subst c; exact Int.le_refl _
    · have h1 := ih (by omega) (by omega)
      have h2 := fluxN_next b (by omega)
      omega
def magN (f : Int) : Nat := cnt 1001 fun n => decide (f ≤ fluxN n)
theorem mag_mono (f : Int) (a b : Nat) (h : a ≤ b) (hb : b < 1001) (ha : decide (f ≤ fluxN a) = true) : decide (f ≤ fluxN b) = true := by
  rw [decide_eq_true_eq] at *
  have := fluxN_mono a b h (by omega)
  omega
theorem mag_iff (f : Int) (i : Nat) (hi : i < 1001) : f ≤ fluxN i ↔ magN f ≤ i := by
  have h := cnt_iff 1001 (fun n => decide (f ≤ fluxN n)) (mag_mono f) i hi
  rw [decide_eq_true_eq] at h
  exact h
theorem magN_le (f : Int) : magN f ≤ 1001 := cnt_le _ _
end Go.Proofs.YtoellkbmhpekdaaDoor
