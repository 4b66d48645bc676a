/-
  Quotients and lines: the contracts of sizeOf, nearestQuotient, lineAt, Blend (package impl) and of l01Div (package spec).
-/
import Derived.Test.YtecnhbgkkfcipaaCore
import Derived.RegionTactic
import Derived.Deep.QuietTactic
import Derived.BigQuiet
import Derived.PlainAid
namespace Go.Proofs.Ytecnhbgkkfcipaa
open Go.RowKit

theorem bel_drewN {B : Nat} {a w : World} (h : Below B a w) (n : Nat) : Below B a (w.drewN n) := ⟨h.os, h.tape, h.output, h.size, h.block⟩

/-- The nearest quotient, halves away from 0; 0 for the divisor 0. -/
def sz (n : Int) : Int := if n < 0 then -n else n
def nqUp (a b : Int) : Int := (2 * sz a + sz b) / (2 * sz b)
def nearQ (a b : Int) : Int := if b = 0 then 0 else if (decide (a < 0)) = (decide (b < 0)) then nqUp a b else -nqUp a b

theorem sz_nonneg (n : Int) : 0 ≤ sz n := by unfold sz; split <;> omega
theorem sz_le (n m : Int) (h : -m ≤ n) (h' : n ≤ m) : sz n ≤ m := by unfold sz; split <;> omega
theorem sz_pos (n : Int) (h : n ≠ 0) : 1 ≤ sz n := by unfold sz; split <;> omega

set_option maxHeartbeats 400000 in
theorem sizeOf_any (n : Int) (w : World) (hl : -2100000000000000000 ≤ n) (hu : n ≤ 2100000000000000000) :
    Calls Try.prog 79 #[.int .i64 n] w fun e w' => e = .returned (.int .u64 (sz n)) ∧ w = w' := by
  by_cases h : n < 0
  · have e1 : IntKind.u64.wrap (-IntKind.u64.wrap n) = -n := by
      rw [IntKind.wrap_u64, IntKind.wrap_u64]; omega
    have E1 := Lib.hid e1
    clear e1
    go_enter Try.func79, Try.ntmps79
    go_wp2
    go_ret
    exact ⟨ret_int (by rw [E1.out]; unfold sz; rw [if_pos h]), rfl⟩
  · have h' : 0 ≤ n := by omega
    go_enter Try.func79, Try.ntmps79
    go_wp2
    go_ret
    exact ⟨ret_int (by unfold sz; rw [if_neg (by omega)]), rfl⟩

theorem up_of (D d : Int) (h : 1 ≤ d) (h0 : 0 ≤ D) : (2 * D + d) / (2 * d) = D / d + if d - D % d ≤ D % d then 1 else 0 := by
  have e := Int.mul_ediv_add_emod D d
  have m0 := Int.emod_nonneg D (show d ≠ 0 by omega)
  have m1 := Int.emod_lt_of_pos D (show 0 < d by omega)
  generalize D / d = q at *
  generalize D % d = r at *
  subst e
  split
  · rename_i hh
    have : 2 * (d * q + r) + d = (2 * r - d) + (2 * d) * (q + 1) := by
      rw [Int.mul_add, Int.mul_add, Int.mul_assoc]; omega
    rw [this, Int.add_mul_ediv_left _ _ (by omega), Int.ediv_eq_zero_of_lt (by omega) (by omega)]; omega
  · rename_i hh
    have : 2 * (d * q + r) + d = (2 * r + d) + (2 * d) * q := by
      rw [Int.mul_add, Int.mul_assoc]; omega
    rw [this, Int.add_mul_ediv_left _ _ (by omega), Int.ediv_eq_zero_of_lt (by omega) (by omega)]; omega

set_option maxHeartbeats 800000 in
theorem nearest_any (a b : Int) (w : World) (ha : -2100000000000000000 ≤ a) (ha' : a ≤ 2100000000000000000) (hb : -2100000000000000000 ≤ b) (hb' : b ≤ 2100000000000000000) :
    Calls Try.prog 69 #[.int .i64 a, .int .i64 b] w fun e w' => e = .returned (.int .i64 (nearQ a b)) ∧ Below w.heap.size w w' := by
  by_cases h0 : b = 0
  · subst h0
    go_enter Try.func69, Try.ntmps69
    go_wp2
    go_ret
    exact ⟨ret_int (by simp [nearQ]), Below.refl _ _⟩
  · have hD0 := sz_nonneg a
    have hD1 := sz_le a 2100000000000000000 (by omega) ha'
    have hd0 := sz_pos b h0
    have hd1 := sz_le b 2100000000000000000 (by omega) hb'
    have hup := up_of (sz a) (sz b) hd0 hD0
    have hfin : nearQ a b = if (decide (a < 0)) = (decide (b < 0)) then nqUp a b else -nqUp a b := by unfold nearQ; rw [if_neg h0]
    unfold nqUp at hfin
    rw [hup] at hfin
    have s1 := sizeOf_any a w ha ha'
    have s2 := sizeOf_any b w hb hb'
    have S1 := Lib.hid s1
    have S2 := Lib.hid s2
    have FIN := Lib.hid hfin
    clear s1 s2 hfin hup
    have hne : (b == 0) = false := by simpa using h0
    generalize hDD : sz a = D at *
    generalize hdd : sz b = d at *
    clear hDD hdd h0
    have hm0 := Int.emod_nonneg D (show d ≠ 0 by omega)
    have hm1 := Int.emod_lt_of_pos D (show 0 < d by omega)
    have hq0 : 0 ≤ D / d := Int.ediv_nonneg hD0 (by omega)
    have hq1 : D / d ≤ D := Int.ediv_le_self _ hD0
    have hdz : ¬ d = 0 := by omega
    go_enter Try.func69, Try.ntmps69
    go_wp2_with fail
    refine S1.out.mono ?_
    rintro e w' ⟨rfl, rfl⟩
    go_wp2_with fail
    refine S2.out.mono ?_
    rintro e w' ⟨rfl, rfl⟩
    go_wp2_with fail
    go_quiet (fail)
    go_wp2_with fail
    all_goals
      go_ret
      refine ⟨ret_int ?_, bel_drewN (Below.refl _ _) _⟩
      rw [FIN.out]
      split <;> (try split) <;> first | rfl | omega | (exfalso; simp_all; done)

theorem nearQ_pp (a b : Int) (ha : 0 ≤ a) (hb : 0 < b) : nearQ a b = (2 * a + b) / (2 * b) := by
  unfold nearQ nqUp
  rw [if_neg (by omega), if_pos (by simp; omega)]
  have : sz a = a := by unfold sz; rw [if_neg (by omega)]
  have : sz b = b := by unfold sz; rw [if_neg (by omega)]
  simp [*]
theorem nearQ_np (a b : Int) (ha : a < 0) (hb : 0 < b) : nearQ a b = -((b - 2 * a) / (2 * b)) := by
  unfold nearQ nqUp
  rw [if_neg (by omega), if_neg (by simp; omega)]
  have e1 : sz a = -a := by unfold sz; rw [if_pos (by omega)]
  have e2 : sz b = b := by unfold sz; rw [if_neg (by omega)]
  rw [e1, e2, show 2 * -a + b = b - 2 * a by omega]
theorem nearQ_pn (a b : Int) (ha : 0 < a) (hb : b < 0) : nearQ a b = -((-b - 2 * -a) / (2 * -b)) := by
  unfold nearQ nqUp
  rw [if_neg (by omega), if_neg (by simp; omega)]
  have e1 : sz a = a := by unfold sz; rw [if_neg (by omega)]
  have e2 : sz b = -b := by unfold sz; rw [if_pos (by omega)]
  rw [e1, e2, show 2 * a + -b = -b - 2 * -a by omega]
theorem nearQ_nn (a b : Int) (ha : a ≤ 0) (hb : b < 0) : nearQ a b = (2 * -a + -b) / (2 * -b) := by
  have e2 : sz b = -b := by unfold sz; rw [if_pos (by omega)]
  by_cases h : a = 0
  · subst h
    unfold nearQ nqUp
    rw [if_neg (by omega), if_neg (by simp; omega), e2]
    have : sz 0 = 0 := rfl
    rw [this]
    have e3 : (2 * 0 + -b) / (2 * -b) = 0 := Int.ediv_eq_zero_of_lt (by omega) (by omega)
    have e4 : (2 * -0 + -b) / (2 * -b) = 0 := Int.ediv_eq_zero_of_lt (by omega) (by omega)
    rw [e3, e4]; rfl
  · unfold nearQ nqUp
    have e1 : sz a = -a := by unfold sz; rw [if_pos (by omega)]
    rw [if_neg (by omega), if_pos (by simp; omega), e1, e2]
def lineI (x0 y0 x1 y1 x : Int) : Int := if x ≤ x0 ∨ x1 ≤ x0 then y0 else if x1 ≤ x then y1 else y0 + nearQ ((y1 - y0) * (x - x0)) (x1 - x0)
def blendI (x0 y0 x1 y1 x : Int) : Int := if inR (-1000000) 1000000 [x0, y0, x1, y1] = true then lineI x0 y0 x1 y1 x else 0

theorem mul_bd (a b m : Int) (ha : -m ≤ a) (ha' : a ≤ m) (hb : 0 ≤ b) (hb' : b ≤ m) : -(m * m) ≤ a * b ∧ a * b ≤ m * m := by
  have hm : 0 ≤ m := by omega
  have h1 : a * b ≤ m * b := Int.mul_le_mul_of_nonneg_right ha' hb
  have h2 : (-m) * b ≤ a * b := Int.mul_le_mul_of_nonneg_right ha hb
  have h3 : m * b ≤ m * m := Int.mul_le_mul_of_nonneg_left hb' hm
  rw [Int.neg_mul] at h2
  omega
theorem nearQ_bd (a b m : Int) (ha : -m ≤ a) (ha' : a ≤ m) (hb : 1 ≤ b) : -(m + 1) ≤ nearQ a b ∧ nearQ a b ≤ m + 1 := by
  have h : ∀ x : Int, 0 ≤ x → x ≤ m → 0 ≤ (2 * x + b) / (2 * b) ∧ (2 * x + b) / (2 * b) ≤ m + 1 := by
    intro x hx hx'
    refine ⟨Int.ediv_nonneg (by omega) (by omega), ?_⟩
    have h1 : (2 * x + b) / (2 * b) < x + 1 + 1 := by
      apply Int.ediv_lt_of_lt_mul (by omega)
      have h2 : (x + 1) * 1 ≤ (x + 1) * b := Int.mul_le_mul_of_nonneg_left hb (by omega)
      have h3 : (x + 1 + 1) * (2 * b) = 2 * ((x + 1) * b) + 2 * b := by
        rw [Int.add_mul (x + 1), Int.one_mul, Int.mul_left_comm]
      omega
    omega
  by_cases h0 : a < 0
  · rw [nearQ_np a b h0 (by omega), show b - 2 * a = 2 * (-a) + b by omega]
    have := h (-a) (by omega) (by omega)
    omega
  · rw [nearQ_pp a b (by omega) (by omega)]
    have := h a (by omega) (by omega)
    omega
theorem inR_4 (lo hi a b c d : Int) : inR lo hi [a, b, c, d] = true ↔ (lo ≤ a ∧ a ≤ hi) ∧ (lo ≤ b ∧ b ≤ hi) ∧ (lo ≤ c ∧ c ≤ hi) ∧ (lo ≤ d ∧ d ≤ hi) := by simp [inR]

theorem quo_fits (x y : Int) (hx : 0 ≤ x) (hx' : x ≤ 9000000000000000000) (hy : 0 < y) : wrap64 (-(x / y)) = -(x / y) := by
  have h0 : 0 ≤ x / y := Int.ediv_nonneg hx (by omega)
  have h1 : x / y ≤ x := Int.ediv_le_self _ hx
  exact IntWalk.wrap64_in _ (by omega)

set_option maxHeartbeats 400000 in
theorem l01Div_any (a b : Int) (w : World) (ha : -2100000000000000000 ≤ a) (ha' : a ≤ 2100000000000000000) (hb : -2100000000000000000 ≤ b) (hb' : b ≤ 2100000000000000000) (hz : b ≠ 0) :
    Calls Try.prog 64 #[.int .i64 a, .int .i64 b] w fun e w' => e = .returned (.int .i64 (nearQ a b)) ∧ w = w' := by
  by_cases h1 : b < 0
  · by_cases h2 : a ≤ 0
    · have h3 : decide (0 < a) = false := by simpa using h2
      go_enter Try.func64, Try.ntmps64
      go_wp2
      go_ret
      exact ⟨ret_int (nearQ_nn a b h2 h1).symm, rfl⟩
    · have h2' : 0 < a := by omega
      clear h2
      go_enter Try.func64, Try.ntmps64
      go_wp2
      go_ret
      exact ⟨ret_int (by rw [nearQ_pn a b h2' h1]; exact quo_fits _ _ (by omega) (by omega) (by omega)), rfl⟩
  · have h1' : 0 < b := by omega
    clear h1
    by_cases h2 : a < 0
    · go_enter Try.func64, Try.ntmps64
      go_wp2
      go_ret
      exact ⟨ret_int (by rw [nearQ_np a b h2 h1']; exact quo_fits _ _ (by omega) (by omega) (by omega)), rfl⟩
    · have h2' : 0 ≤ a := by omega
      clear h2
      go_enter Try.func64, Try.ntmps64
      go_wp2
      go_ret
      exact ⟨ret_int (nearQ_pp a b h2' h1').symm, rfl⟩
end Go.Proofs.Ytecnhbgkkfcipaa
