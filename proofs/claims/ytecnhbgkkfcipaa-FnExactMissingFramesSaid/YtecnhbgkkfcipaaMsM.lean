/-
  The mathematics of frames that are missing in an increasing list.
-/
import Derived.Test.YtecnhbgkkfcipaaCore
namespace Go.Proofs.Ytecnhbgkkfcipaa.Ms
open Go.RowKit
set_option linter.unusedVariables false

def gz (zs : List Int) (j : Nat) : Int := zs.getD j 0
theorem gz_at (zs : List Int) (j : Nat) (h : j < zs.length) : zs[j] = gz zs j := by
  unfold gz
  rw [List.getD_eq_getElem?_getD, List.getElem?_eq_getElem h]
  rfl
def rng (a : Int) (k : Nat) : List Int := (List.range k).map (fun (i : Nat) => a + (i : Int))
theorem rng_len (a : Int) (k : Nat) : (rng a k).length = k := by simp [rng]
theorem rng_succ (a : Int) (k : Nat) : rng a (k + 1) = rng a k ++ [a + (k : Int)] := by simp [rng, List.range_succ]
def gapN (zs : List Int) (j : Nat) : Nat := if j = 0 then 0 else (gz zs j - gz zs (j - 1) - 1).toNat
def gapL (zs : List Int) : Nat → List Int
  | 0 => []
  | j + 1 => gapL zs j ++ rng (gz zs (j - 1) + 1) (gapN zs j)
theorem gapL_next (zs : List Int) (j : Nat) : gapL zs (j + 1) = gapL zs j ++ rng (gz zs (j - 1) + 1) (gapN zs j) := rfl
theorem gapL_one (zs : List Int) : gapL zs 1 = [] := by
  rw [gapL_next]
  rfl
theorem gapL_len_next (zs : List Int) (j : Nat) : (gapL zs (j + 1)).length = (gapL zs j).length + gapN zs j := by
  rw [gapL_next, List.length_append, rng_len]
theorem gapL_mono (zs : List Int) (j : Nat) : ∀ k, j ≤ k → (gapL zs j).length ≤ (gapL zs k).length := by
  intro k hk
  induction k with
  | zero => have : j = 0 := by omega
            subst this; exact Nat.le_refl _
  | succ k ih =>
    by_cases c : j = k + 1
    · subst c; exact Nat.le_refl _
    · have := ih (by omega)
      rw [gapL_len_next]
      omega
def stepB (zs : List Int) (j : Nat) : Bool := inR 0 8640000 [gz zs j] && (decide (j = 0) || decide (gz zs (j - 1) < gz zs j))
def risB (zs : List Int) : Nat → Bool
  | 0 => true
  | j + 1 => risB zs j && stepB zs j
theorem risB_next (zs : List Int) (j : Nat) : risB zs (j + 1) = (risB zs j && stepB zs j) := rfl
theorem risB_stop (zs : List Int) (j : Nat) (h : stepB zs j = false) : ∀ n, j < n → risB zs n = false := by
  intro n hn
  induction n with
  | zero => omega
  | succ n ih =>
    rw [risB_next]
    by_cases c : j = n
    · subst c; rw [h, Bool.and_false]
    · rw [ih (by omega), Bool.false_and]
theorem risB_at (zs : List Int) (n : Nat) (h : risB zs n = true) (j : Nat) (hj : j < n) : stepB zs j = true := by
  cases hs : stepB zs j with
  | true => rfl
  | false => rw [risB_stop zs j hs n hj] at h; cases h
theorem step_bd (zs : List Int) (j : Nat) (h : stepB zs j = true) : (0 ≤ gz zs j ∧ gz zs j ≤ 8640000) ∧ (j = 0 ∨ gz zs (j - 1) < gz zs j) := by
  unfold stepB at h
  rw [Bool.and_eq_true, inR_1, Bool.or_eq_true, decide_eq_true_eq, decide_eq_true_eq] at h
  exact h
def missV (zs : List Int) : List Int × Int := if risB zs zs.length = true then (if (gapL zs zs.length).length ≤ 64 then (gapL zs zs.length, 0) else ([], 5)) else ([], 2)
theorem missV_len (zs : List Int) : (missV zs).1.length ≤ 64 := by
  unfold missV
  split
  · split
    · assumption
    · exact Nat.zero_le _
  · exact Nat.zero_le _
end Go.Proofs.Ytecnhbgkkfcipaa.Ms
