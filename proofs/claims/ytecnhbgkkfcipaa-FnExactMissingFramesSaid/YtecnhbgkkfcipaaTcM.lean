/-
  The mathematics of time codes: which codes exist, their numbers, the minute of a number, and the frames at a time.
-/
import Derived.Test.YtecnhbgkkfcipaaCore
import Derived.Test.YtecnhbgkkfcipaaAngMath
namespace Go.Proofs.Ytecnhbgkkfcipaa.Tc
open Go.RowKit
set_option linter.unusedVariables false

def isR (r : Int) : Bool := decide (r = 24) || decide (r = 25) || decide (r = 30)
theorem isR_cases {r : Int} (h : isR r = true) : r = 24 ∨ r = 25 ∨ r = 30 := by
  unfold isR at h
  simpa [or_assoc] using h
theorem isR_no {r : Int} (h : isR r = false) : r ≠ 24 ∧ r ≠ 25 ∧ r ≠ 30 := by
  unfold isR at h
  simpa [and_assoc] using h
def leftN (r m : Int) : Int := if r = 30 then (if m % 10 = 0 then 0 else 2) else 0
def codesN (r m : Int) : Int := if r = 30 then m * 60 * 30 - 2 * (m - (m + 9) / 10) else m * 60 * r
def okT (h m s f r : Int) : Bool := isR r && (inR 0 23 [h] && (inR 0 59 [m] && (inR 0 59 [s] && (inR 0 (r - 1) [f] && (!decide (r = 30) || (decide (m % 10 = 0) || (decide (0 < s) || decide (1 < f))))))))
theorem okT_bd {h m s f r : Int} (k : okT h m s f r = true) : isR r = true ∧ (0 ≤ h ∧ h ≤ 23) ∧ (0 ≤ m ∧ m ≤ 59) ∧ (0 ≤ s ∧ s ≤ 59) ∧ (0 ≤ f ∧ f ≤ r - 1) := by
  unfold okT at k
  simp only [Bool.and_eq_true, inR_1] at k
  exact ⟨k.1, k.2.1, k.2.2.1, k.2.2.2.1, k.2.2.2.2.1⟩
def frN (h m s f r : Int) : Int := (60 * (60 * h + m) + s) * r + f - if r = 30 then 2 * ((60 * h + m) - (60 * h + m) / 10) else 0
theorem fr_impl {h m s f r : Int} (k : okT h m s f r = true) : codesN r (h * 60 + m) + s * r + f - leftN r (h * 60 + m) = frN h m s f r := by
  obtain ⟨hr, ⟨h0, h1⟩, ⟨m0, m1⟩, _⟩ := okT_bd k
  unfold codesN leftN frN
  rcases isR_cases hr with rfl | rfl | rfl
  · simp only [if_neg (show ¬ (24 : Int) = 30 by decide)]; omega
  · simp only [if_neg (show ¬ (25 : Int) = 30 by decide)]; omega
  · simp only [if_true]; split <;> omega
theorem codes_mono {r : Int} (hr : isR r = true) {a b : Int} (ha : 0 ≤ a) (h : a ≤ b) : codesN r a ≤ codesN r b := by
  unfold codesN
  rcases isR_cases hr with rfl | rfl | rfl
  · simp only [if_neg (show ¬ (24 : Int) = 30 by decide)]; omega
  · simp only [if_neg (show ¬ (25 : Int) = 30 by decide)]; omega
  · simp only [if_true]; omega
theorem codes_bd {r : Int} (hr : isR r = true) {a : Int} (ha : 0 ≤ a) (h : a ≤ 1440) : 0 ≤ codesN r a ∧ codesN r a ≤ 2592000 := by
  unfold codesN
  rcases isR_cases hr with rfl | rfl | rfl
  · simp only [if_neg (show ¬ (24 : Int) = 30 by decide)]; omega
  · simp only [if_neg (show ¬ (25 : Int) = 30 by decide)]; omega
  · simp only [if_true]; omega
/-- The frames of a code's seconds, as the specification counts. -/
def wide (n r : Int) : Int := if r = 30 then n + 18 * (n / 17982) + (if 1800 ≤ n % 17982 then 2 * ((n % 17982 - 1800) / 1798 + 1) else 0) else n
def secN (n r : Int) : Int := wide n r / r
def minuteN (n r : Int) : Nat := cnt 1439 fun i => decide (n < codesN r ((i : Int) + 1))
theorem minute_mono {r : Int} (hr : isR r = true) (n : Int) (a b : Nat) (h : a ≤ b) (_ : b < 1439) (ha : decide (n < codesN r ((a : Int) + 1)) = true) : decide (n < codesN r ((b : Int) + 1)) = true := by
  rw [decide_eq_true_eq] at *
  have := codes_mono hr (show 0 ≤ (a : Int) + 1 by omega) (show (a : Int) + 1 ≤ (b : Int) + 1 by omega)
  omega
theorem minute_at {r : Int} (hr : isR r = true) {n : Int} (h0 : 0 ≤ n) (h1 : n < codesN r 1440) : codesN r (minuteN n r) ≤ n ∧ n < codesN r ((minuteN n r : Int) + 1) ∧ minuteN n r ≤ 1439 := by
  have hle : minuteN n r ≤ 1439 := cnt_le _ _
  have I := fun i hi => cnt_iff 1439 (fun i => decide (n < codesN r ((i : Int) + 1))) (minute_mono hr n) i hi
  simp only [decide_eq_true_eq] at I
  change ∀ i : Nat, i < 1439 → (n < codesN r ((i : Int) + 1) ↔ minuteN n r ≤ i) at I
  refine ⟨?_, ?_, hle⟩
  · by_cases c : minuteN n r = 0
    · rw [c]
      have : codesN r ((0 : Nat) : Int) = 0 := by
        unfold codesN; split <;> simp
      omega
    · have h := I (minuteN n r - 1) (by omega)
      have : ¬ n < codesN r (((minuteN n r - 1 : Nat) : Int) + 1) := fun x => by have := h.1 x; omega
      rw [show (((minuteN n r - 1 : Nat) : Int) + 1) = (minuteN n r : Int) by omega] at this
      omega
  · by_cases c : minuteN n r = 1439
    · rw [c]; exact h1
    · exact (I (minuteN n r) (by omega)).2 (Nat.le_refl _)
theorem wide_at {r : Int} (hr : isR r = true) {n m : Int} (h0 : 0 ≤ n) (m0 : 0 ≤ m) (hm : codesN r m ≤ n) (hm' : n < codesN r (m + 1)) : wide n r = 60 * r * m + (n - codesN r m + leftN r m) ∧ 0 ≤ n - codesN r m + leftN r m ∧ n - codesN r m + leftN r m < 60 * r := by
  unfold codesN leftN wide at *
  rcases isR_cases hr with rfl | rfl | rfl
  · simp only [if_neg (show ¬ (24 : Int) = 30 by decide)] at *; omega
  · simp only [if_neg (show ¬ (25 : Int) = 30 by decide)] at *; omega
  · simp only [if_true] at *
    obtain ⟨t, u, rfl, hu0, hu1⟩ : ∃ t u : Int, m = 10 * t + u ∧ 0 ≤ u ∧ u ≤ 9 := ⟨m / 10, m % 10, by omega, by omega, by omega⟩
    have e1 : (10 * t + u + 9) / 10 = t + (u + 9) / 10 := by omega
    have e2 : (10 * t + u + 1 + 9) / 10 = t + 1 := by omega
    have e3 : (10 * t + u) % 10 = u := by omega
    rw [e1] at hm ⊢
    rw [e2] at hm'
    rw [e3]
    have hn : n / 17982 = t := by omega
    have hq : n % 17982 = n - 17982 * t := by omega
    rw [hn, hq]
    by_cases hu : u = 0
    · subst hu
      simp only [if_true]
      rw [if_neg (by omega)]
      omega
    · rw [if_neg hu, if_pos (by omega)]
      omega

def hN (n r : Int) : Int := secN n r / 3600
def mN (n r : Int) : Int := secN n r / 60 % 60
def sN (n r : Int) : Int := secN n r % 60
def fN (n r : Int) : Int := wide n r % r
theorem wide_big {r : Int} (hr : isR r = true) {n : Int} (h0 : 0 ≤ n) (h : codesN r 1440 ≤ n) : 86400 * r ≤ wide n r := by
  unfold codesN wide at *
  rcases isR_cases hr with rfl | rfl | rfl
  · simp only [if_neg (show ¬ (24 : Int) = 30 by decide)] at *; omega
  · simp only [if_neg (show ¬ (25 : Int) = 30 by decide)] at *; omega
  · simp only [if_true] at *
    split <;> omega
theorem minute_parts {r : Int} (hr : isR r = true) {n : Int} (h0 : 0 ≤ n) (h1 : n < codesN r 1440) :
    hN n r = (minuteN n r : Int) / 60 ∧ mN n r = (minuteN n r : Int) % 60 ∧ sN n r = (n - codesN r (minuteN n r) + leftN r (minuteN n r)) / r ∧ fN n r = (n - codesN r (minuteN n r) + leftN r (minuteN n r)) % r ∧ 0 ≤ n - codesN r (minuteN n r) + leftN r (minuteN n r) ∧ n - codesN r (minuteN n r) + leftN r (minuteN n r) < 60 * r := by
  obtain ⟨a, b, c⟩ := minute_at hr h0 h1
  obtain ⟨e, p, q⟩ := wide_at hr h0 (by omega) a b
  unfold hN mN sN fN secN
  generalize (minuteN n r : Int) = m at *
  generalize n - codesN r m + leftN r m = x at *
  rw [e]
  rcases isR_cases hr with rfl | rfl | rfl <;> omega
theorem left_mod (m : Int) : leftN 30 m = leftN 30 (m % 60) := by
  unfold leftN
  have : m % 60 % 10 = m % 10 := by omega
  rw [this]
theorem code_ok {r : Int} (hr : isR r = true) {n : Int} (h0 : 0 ≤ n) : okT (hN n r) (mN n r) (sN n r) (fN n r) r = decide (n < codesN r 1440) := by
  by_cases h1 : n < codesN r 1440
  · rw [decide_eq_true h1]
    obtain ⟨e1, e2, e3, e4, p, q⟩ := minute_parts hr h0 h1
    have hc := (minute_at hr h0 h1).2.2
    rw [e1, e2, e3, e4]
    have hx : 0 ≤ n - codesN r (minuteN n r) := by have := (minute_at hr h0 h1).1; omega
    generalize codesN r (minuteN n r) = z at *
    have hc' : (minuteN n r : Int) ≤ 1439 := by omega
    have hc0 : 0 ≤ (minuteN n r : Int) := by omega
    generalize (minuteN n r : Int) = m at *
    unfold okT
    rw [hr, Bool.true_and]
    rw [(inR_1 _ _ _).2 (by omega), Bool.true_and, (inR_1 _ _ _).2 (by omega), Bool.true_and]
    unfold leftN at *
    rcases isR_cases hr with rfl | rfl | rfl
    · simp only [if_neg (show ¬ (24 : Int) = 30 by decide)] at *
      rw [(inR_1 _ _ _).2 (by omega), (inR_1 _ _ _).2 (by omega)]; rfl
    · simp only [if_neg (show ¬ (25 : Int) = 30 by decide)] at *
      rw [(inR_1 _ _ _).2 (by omega), (inR_1 _ _ _).2 (by omega)]; rfl
    · simp only [if_true] at *
      by_cases hm : m % 10 = 0
      · rw [if_pos hm] at *
        rw [(inR_1 _ _ _).2 (by omega), (inR_1 _ _ _).2 (by omega)]
        have : m % 60 % 10 = 0 := by omega
        simp [this]
      · rw [if_neg hm] at *
        rw [(inR_1 _ _ _).2 (by omega), (inR_1 _ _ _).2 (by omega)]
        simp only [decide_true, Bool.not_true, Bool.false_or, Bool.true_and, Bool.or_eq_true, decide_eq_true_eq]
        omega
  · rw [decide_eq_false h1]
    have hw := wide_big hr h0 (by omega)
    cases hk : okT (hN n r) (mN n r) (sN n r) (fN n r) r with
    | false => rfl
    | true =>
      exfalso
      have h2 := (okT_bd hk).2.1.2
      unfold hN secN at h2
      generalize wide n r = x at *
      rcases isR_cases hr with rfl | rfl | rfl <;> omega
def milN (n r : Int) : Int := if r = 30 then n * 1001 / 30 else n * 1000 / r
def atN (milli r : Int) : Int := if r = 30 then ((milli + 1) * 30 - 1) / 1001 else ((milli + 1) * r - 1) / 1000
def at0 (milli r : Int) : Int := if r = 30 then milli * 30 / 1001 else milli * r / 1000
theorem at0_le {r : Int} (hr : isR r = true) {milli : Int} (h0 : 0 ≤ milli) : 0 ≤ at0 milli r ∧ at0 milli r ≤ atN milli r ∧ atN milli r ≤ at0 milli r + 1 := by
  unfold at0 atN
  rcases isR_cases hr with rfl | rfl | rfl
  · simp only [if_neg (show ¬ (24 : Int) = 30 by decide)]; omega
  · simp only [if_neg (show ¬ (25 : Int) = 30 by decide)]; omega
  · simp only [if_true]; omega
theorem at_step {r : Int} (hr : isR r = true) {milli x : Int} (h0 : 0 ≤ x) : milN (x + 1) r ≤ milli ↔ x < atN milli r := by
  unfold milN atN
  rcases isR_cases hr with rfl | rfl | rfl
  · simp only [if_neg (show ¬ (24 : Int) = 30 by decide)]; omega
  · simp only [if_neg (show ¬ (25 : Int) = 30 by decide)]; omega
  · simp only [if_true]; omega
end Go.Proofs.Ytecnhbgkkfcipaa.Tc
