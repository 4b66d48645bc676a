/-
  Days and dates: leap years, the lengths of months and years, and the year, month and rest of a day.
-/
import Derived.Test.YtnadgldgdmppkaaDoorCore
import Derived.Test.YtnadgldgdmppkaaDoorAngMath
namespace Go.Proofs.YtnadgldgdmppkaaDoor
open Go.RowKit
set_option linter.unusedVariables false

def leapB (y : Int) : Bool := (decide (y % 4 = 0) && !decide (y % 100 = 0)) || decide (y % 400 = 0)
def comT : List Int := [31, 28, 31, 30, 31, 30, 31, 31, 30, 31, 30, 31]
/-- The length of month m (from 0 on) of a year. -/
def mlen (y : Int) (m : Nat) : Int := comT.getD m 0 + if m = 1 ∧ leapB y = true then 1 else 0
def ylen (y : Int) : Int := if leapB y = true then 366 else 365
def mb (y : Int) : Nat → Int
  | 0 => 0
  | m + 1 => mb y m + mlen y m
def yb : Nat → Int
  | 0 => 0
  | k + 1 => yb k + ylen (2000 + (k : Int))
theorem comT_bd : ∀ m, m < 12 → 28 ≤ comT.getD m 0 ∧ comT.getD m 0 ≤ 31 := by decide
theorem mlen_bd (y : Int) (m : Nat) (h : m < 12) : 28 ≤ mlen y m ∧ mlen y m ≤ 31 := by
  have hc := comT_bd m h
  unfold mlen
  by_cases c : m = 1
  · subst c
    have : comT.getD 1 0 = 28 := rfl
    rw [this]
    split <;> omega
  · rw [if_neg (by intro hh; exact c hh.1)]
    omega
theorem mb_12 (y : Int) : mb y 12 = ylen y := by
  unfold ylen
  cases h : leapB y <;> simp [mb, mlen, comT, h]
theorem mb_le (y : Int) (a b : Nat) (h : a ≤ b) (hb : b ≤ 12) : mb y a ≤ mb y b := by
  induction b with
  | zero => obtain rfl : a = 0 := by omega
            exact Int.le_refl _
  | succ b ih =>
    by_cases c : a = b + 1
    · subst c; exact Int.le_refl _
    · have h1 := ih (by omega) (by omega)
      have h2 := mlen_bd y b (by omega)
      have e : mb y (b + 1) = mb y b + mlen y b := rfl
      omega
theorem mb_nonneg (y : Int) (a : Nat) (h : a ≤ 12) : 0 ≤ mb y a := mb_le y 0 a (by omega) h
theorem ylen_bd (y : Int) : 365 ≤ ylen y ∧ ylen y ≤ 366 := by unfold ylen; split <;> omega
theorem yb_le (a b : Nat) (h : a ≤ b) : yb a ≤ yb b := by
  induction b with
  | zero => obtain rfl : a = 0 := by omega
            exact Int.le_refl _
  | succ b ih =>
    by_cases c : a = b + 1
    · subst c; exact Int.le_refl _
    · have h1 := ih (by omega)
      have h2 := ylen_bd (2000 + (b : Int))
      have e : yb (b + 1) = yb b + ylen (2000 + (b : Int)) := rfl
      omega
theorem yb_nonneg (a : Nat) : 0 ≤ yb a := yb_le 0 a (by omega)
theorem yb_bd (k : Nat) : yb k ≤ 366 * (k : Int) := by
  induction k with
  | zero => simp [yb]
  | succ k ih =>
    have h2 := ylen_bd (2000 + (k : Int))
    have e : yb (k + 1) = yb k + ylen (2000 + (k : Int)) := rfl
    omega
set_option maxRecDepth 10000 in
theorem yb_274 : yb 274 = 100077 := by decide +kernel

/-- The year (from 2000 on), the month (from 0 on) and the rest of a day. -/
def yearN (d : Int) : Nat := cnt 274 fun k => decide (d < yb (k + 1))
theorem year_iff (d : Int) (k : Nat) (hk : k < 274) : d < yb (k + 1) ↔ yearN d ≤ k := by
  have h := cnt_iff 274 (fun k => decide (d < yb (k + 1))) (by
    intro a b hab hb ha
    rw [decide_eq_true_eq] at *
    have := yb_le (a + 1) (b + 1) (by omega)
    omega) k hk
  rw [decide_eq_true_eq] at h
  exact h
theorem year_lt (d : Int) (h : d ≤ 99999) : yearN d < 274 := by
  have := (year_iff d 273 (by omega)).1 (by rw [yb_274]; omega)
  omega
theorem year_low (d : Int) (h0 : 0 ≤ d) (h : d ≤ 99999) : yb (yearN d) ≤ d := by
  have hlt := year_lt d h
  cases hy : yearN d with
  | zero => exact h0
  | succ k =>
    have := mt (year_iff d k (by omega)).1 (by omega)
    omega
theorem year_up (d : Int) (h : d ≤ 99999) : d < yb (yearN d + 1) := (year_iff d (yearN d) (year_lt d h)).2 (Nat.le_refl _)
def monN (d : Int) : Nat := cnt 12 fun m => decide (d - yb (yearN d) < mb (2000 + (yearN d : Int)) (m + 1))
theorem mon_iff (d : Int) (m : Nat) (hm : m < 12) : d - yb (yearN d) < mb (2000 + (yearN d : Int)) (m + 1) ↔ monN d ≤ m := by
  have h := cnt_iff 12 (fun m => decide (d - yb (yearN d) < mb (2000 + (yearN d : Int)) (m + 1))) (by
    intro a b hab hb ha
    rw [decide_eq_true_eq] at *
    have := mb_le (2000 + (yearN d : Int)) (a + 1) (b + 1) (by omega) (by omega)
    omega) m hm
  rw [decide_eq_true_eq] at h
  exact h
theorem mon_lt (d : Int) (h : d ≤ 99999) : monN d < 12 := by
  have hu := year_up d h
  have e : yb (yearN d + 1) = yb (yearN d) + ylen (2000 + (yearN d : Int)) := rfl
  have := (mon_iff d 11 (by omega)).1 (by rw [mb_12]; omega)
  omega
theorem mon_low (d : Int) (h0 : 0 ≤ d) (h : d ≤ 99999) : mb (2000 + (yearN d : Int)) (monN d) ≤ d - yb (yearN d) := by
  have hlt := mon_lt d h
  have hy := year_low d h0 h
  cases hm : monN d with
  | zero => show 0 ≤ _; omega
  | succ m =>
    have := mt (mon_iff d m (by omega)).1 (by omega)
    omega
theorem mon_up (d : Int) (h : d ≤ 99999) : d - yb (yearN d) < mb (2000 + (yearN d : Int)) (monN d + 1) := (mon_iff d (monN d) (mon_lt d h)).2 (Nat.le_refl _)
def dayR (d : Int) : Int := d - yb (yearN d) - mb (2000 + (yearN d : Int)) (monN d)
theorem dayR_bd (d : Int) (h0 : 0 ≤ d) (h : d ≤ 99999) : 0 ≤ dayR d ∧ dayR d < mlen (2000 + (yearN d : Int)) (monN d) := by
  have h1 := mon_low d h0 h
  have h2 := mon_up d h
  have e : mb (2000 + (yearN d : Int)) (monN d + 1) = mb (2000 + (yearN d : Int)) (monN d) + mlen (2000 + (yearN d : Int)) (monN d) := rfl
  unfold dayR
  omega
/-- A date leads to its day. -/
theorem day_date (k m : Nat) (r : Int) (hk : k < 274) (hm : m < 12) (r0 : 0 ≤ r) (r1 : r < mlen (2000 + (k : Int)) m) (hd : yb k + mb (2000 + (k : Int)) m + r ≤ 99999) :
    yearN (yb k + mb (2000 + (k : Int)) m + r) = k ∧ monN (yb k + mb (2000 + (k : Int)) m + r) = m := by
  have hmn := mb_nonneg (2000 + (k : Int)) m (by omega)
  have hle := mb_le (2000 + (k : Int)) (m + 1) 12 (by omega) (by omega)
  have e1 : mb (2000 + (k : Int)) (m + 1) = mb (2000 + (k : Int)) m + mlen (2000 + (k : Int)) m := rfl
  have e2 := mb_12 (2000 + (k : Int))
  have e3 : yb (k + 1) = yb k + ylen (2000 + (k : Int)) := rfl
  have hy : yearN (yb k + mb (2000 + (k : Int)) m + r) = k := by
    have h1 := (year_iff (yb k + mb (2000 + (k : Int)) m + r) k hk).1 (by omega)
    have h2 : ¬ yearN (yb k + mb (2000 + (k : Int)) m + r) < k := by
      intro c
      have h3 := (year_iff (yb k + mb (2000 + (k : Int)) m + r) (yearN (yb k + mb (2000 + (k : Int)) m + r)) (by omega)).2 (Nat.le_refl _)
      have h4 := yb_le (yearN (yb k + mb (2000 + (k : Int)) m + r) + 1) k (by omega)
      omega
    omega
  refine ⟨hy, ?_⟩
  have h1 := (mon_iff (yb k + mb (2000 + (k : Int)) m + r) m hm).1 (by rw [hy]; omega)
  have h2 : ¬ monN (yb k + mb (2000 + (k : Int)) m + r) < m := by
    intro c
    have h3 := (mon_iff (yb k + mb (2000 + (k : Int)) m + r) (monN (yb k + mb (2000 + (k : Int)) m + r)) (by omega)).2 (Nat.le_refl _)
    rw [hy] at h3
    have h4 := mb_le (2000 + (k : Int)) (monN (yb k + mb (2000 + (k : Int)) m + r) + 1) m (by omega) (by omega)
    omega
  omega
end Go.Proofs.YtnadgldgdmppkaaDoor
