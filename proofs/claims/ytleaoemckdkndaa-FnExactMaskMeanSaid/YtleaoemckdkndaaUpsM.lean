/-
  All directions that are up whose angles are multiples of a step, as a list: altitude by altitude.
-/
import Derived.Test.YtleaoemckdkndaaCore
namespace Go.Proofs.Ytleaoemckdkndaa
open Go.RowKit
set_option linter.unusedVariables false

/-- How many azimuths there are, and how many altitudes. -/
def azN (t : Int) : Nat := (359999 / t + 1).toNat
def alN (t : Int) : Nat := (90000 / t + 1).toNat
def rowU (t h : Int) (n : Nat) : List (Int × Int) := (List.range n).map (fun i : Nat => ((i : Int) * t, h))
def upsN (t : Int) (k : Nat) : List (Int × Int) := (List.range k).flatMap (fun j : Nat => rowU t ((j : Int) * t) (azN t))
def upsL (t : Int) : List (Int × Int) := upsN t (alN t)
theorem rowU_next (t h : Int) (n : Nat) : rowU t h (n + 1) = rowU t h n ++ [((n : Int) * t, h)] := by
  unfold rowU
  rw [List.range_succ, List.map_append]
  rfl
theorem upsN_next (t : Int) (k : Nat) : upsN t (k + 1) = upsN t k ++ rowU t ((k : Int) * t) (azN t) := by
  unfold upsN
  rw [List.range_succ, List.flatMap_append]
  simp
theorem rowU_len (t h : Int) (n : Nat) : (rowU t h n).length = n := by simp [rowU]
theorem upsN_len (t : Int) (k : Nat) : (upsN t k).length = k * azN t := by
  induction k with
  | zero => simp [upsN]
  | succ k ih => rw [upsN_next, List.length_append, ih, rowU_len, Nat.succ_mul]
theorem mul_next (t : Int) (i : Nat) : (i : Int) * t + t = ((i + 1 : Nat) : Int) * t := by rw [Int.natCast_add, Int.add_mul]; simp
theorem az_lt (t : Int) (t0 : 0 < t) (i : Nat) : (i : Int) * t < 360000 ↔ i < azN t := by
  have h := Int.le_ediv_iff_mul_le (a := (i : Int)) (b := 359999) t0
  have h0 : 0 ≤ 359999 / t := Int.ediv_nonneg (by omega) (by omega)
  unfold azN
  generalize (i : Int) * t = a at *
  generalize 359999 / t = q at *
  constructor
  · intro hl
    have := h.2 (by omega)
    omega
  · intro hl
    have := h.1 (by omega)
    omega
theorem al_le (t : Int) (t0 : 0 < t) (i : Nat) : (i : Int) * t ≤ 90000 ↔ i < alN t := by
  have h := Int.le_ediv_iff_mul_le (a := (i : Int)) (b := 90000) t0
  have h0 : 0 ≤ 90000 / t := Int.ediv_nonneg (by omega) (by omega)
  unfold alN
  generalize (i : Int) * t = a at *
  generalize 90000 / t = q at *
  constructor
  · intro hl
    have := h.2 (by omega)
    omega
  · intro hl
    have := h.1 (by omega)
    omega
theorem azN_bd (t : Int) (t0 : 10000 ≤ t) : 0 < azN t ∧ azN t ≤ 36 := by
  have h0 : 0 ≤ 359999 / t := Int.ediv_nonneg (by omega) (by omega)
  have h1 : 359999 / t ≤ 35 := by
    have := Int.ediv_lt_of_lt_mul (a := 359999) (b := 36) (c := t) (by omega) (by omega)
    omega
  unfold azN
  omega
theorem alN_bd (t : Int) (t0 : 10000 ≤ t) : 0 < alN t ∧ alN t ≤ 10 := by
  have h0 : 0 ≤ 90000 / t := Int.ediv_nonneg (by omega) (by omega)
  have h1 : 90000 / t ≤ 9 := by
    have := Int.ediv_lt_of_lt_mul (a := 90000) (b := 10) (c := t) (by omega) (by omega)
    omega
  unfold alN
  omega
theorem az_bd (t : Int) (t0 : 0 < t) (t1 : t ≤ 90000) (i : Nat) (hi : i ≤ azN t) : 0 ≤ (i : Int) * t ∧ (i : Int) * t < 450000 := by
  refine ⟨Int.mul_nonneg (by omega) (by omega), ?_⟩
  rcases Nat.eq_zero_or_pos i with rfl | hp
  · simp
  · obtain ⟨k, rfl⟩ : ∃ k, i = k + 1 := ⟨i - 1, by omega⟩
    have := (az_lt t t0 k).2 (by omega)
    rw [← mul_next]
    omega
theorem al_bd (t : Int) (t0 : 0 < t) (t1 : t ≤ 90000) (i : Nat) (hi : i ≤ alN t) : 0 ≤ (i : Int) * t ∧ (i : Int) * t ≤ 180000 := by
  refine ⟨Int.mul_nonneg (by omega) (by omega), ?_⟩
  rcases Nat.eq_zero_or_pos i with rfl | hp
  · simp
  · obtain ⟨k, rfl⟩ : ∃ k, i = k + 1 := ⟨i - 1, by omega⟩
    have := (al_le t t0 k).2 (by omega)
    rw [← mul_next]
    omega
theorem upsN_bd (t : Int) (t0 : 10000 ≤ t) (k : Nat) (hk : k ≤ alN t) : (upsN t k).length ≤ 360 := by
  have h1 := azN_bd t t0
  have h2 := alN_bd t t0
  rw [upsN_len]
  have := Nat.mul_le_mul (show k ≤ 10 by omega) h1.2
  omega
theorem upsL_pos (t : Int) (t0 : 10000 ≤ t) : 0 < (upsL t).length := by
  have h1 := azN_bd t t0
  have h2 := alN_bd t t0
  unfold upsL
  rw [upsN_len]
  exact Nat.mul_pos h2.1 h1.1
/-- Where they lie. -/
theorem upsL_in (t : Int) (t0 : 0 < t) (p : Int × Int) (hp : p ∈ upsL t) : (0 ≤ p.1 ∧ p.1 ≤ 359999) ∧ 0 ≤ p.2 ∧ p.2 ≤ 90000 := by
  unfold upsL upsN rowU at hp
  simp only [List.mem_flatMap, List.mem_range, List.mem_map] at hp
  obtain ⟨k, hk, i, hi, rfl⟩ := hp
  have h1 := (az_lt t t0 i).2 hi
  have h2 := (al_le t t0 k).2 hk
  have h3 : 0 ≤ (i : Int) * t := Int.mul_nonneg (by omega) (by omega)
  have h4 : 0 ≤ (k : Int) * t := Int.mul_nonneg (by omega) (by omega)
  exact ⟨⟨h3, by show (i : Int) * t ≤ 359999; omega⟩, h4, h2⟩
theorem mem_upsL (t : Int) (t0 : 0 < t) (p : Int × Int) : p ∈ upsL t ↔ (∃ i : Nat, p.1 = (i : Int) * t) ∧ (∃ i : Nat, p.2 = (i : Int) * t) ∧ p.1 < 360000 ∧ p.2 ≤ 90000 := by
  unfold upsL upsN rowU
  simp only [List.mem_flatMap, List.mem_range, List.mem_map]
  constructor
  · rintro ⟨k, hk, i, hi, rfl⟩
    exact ⟨⟨i, rfl⟩, ⟨k, rfl⟩, (az_lt t t0 i).2 hi, (al_le t t0 k).2 hk⟩
  · obtain ⟨a, h⟩ := p
    rintro ⟨⟨i, ha⟩, ⟨k, hh⟩, hl, hm⟩
    simp only at ha hh hl hm
    subst ha hh
    exact ⟨k, (al_le t t0 k).1 hm, i, (az_lt t t0 i).1 hl, rfl⟩
end Go.Proofs.Ytleaoemckdkndaa
