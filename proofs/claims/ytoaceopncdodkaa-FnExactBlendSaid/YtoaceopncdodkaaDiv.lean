/-
  The nearest quotient: the contracts of sizeOf, nearestQuotient, DivRound (package impl) and of l00In, l01Div, DivRound (package spec); the law FnExactDivRound.
-/
import Derived.Test.YtoaceopncdodkaaBase
import Derived.Outline
import Derived.RegionTactic
import Derived.Deep.QuietTactic
import Derived.BigQuiet
import Derived.PlainAid
namespace Go.Proofs.Ytoaceopncdodkaa
open Go.RowKit

theorem grown_trans {a b c : World} (h : Grown a b) (k : Grown b c) : Grown a c :=
  ⟨World.keptBut_trans h.1 k.1, fun x => (k.2.1 x).trans (h.2.1 x), Nat.le_trans h.2.2 k.2.2⟩
theorem grown_drewN {a b : World} (h : Grown a b) : ∀ n, Grown a (b.drewN n) := fun _ => h

/-- The nearest quotient, halves away from 0; 0 for the divisor 0. -/
def sz (n : Int) : Int := if n < 0 then -n else n
def nqUp (a b : Int) : Int := (2 * sz a + sz b) / (2 * sz b)
def nearQ (a b : Int) : Int := if b = 0 then 0 else if (decide (a < 0)) = (decide (b < 0)) then nqUp a b else -nqUp a b

theorem sz_nonneg (n : Int) : 0 ≤ sz n := by unfold sz; split <;> omega
theorem sz_le (n m : Int) (h : -m ≤ n) (h' : n ≤ m) : sz n ≤ m := by unfold sz; split <;> omega
theorem sz_pos (n : Int) (h : n ≠ 0) : 1 ≤ sz n := by unfold sz; split <;> omega

set_option maxHeartbeats 400000 in
theorem sizeOf_any (n : Int) (w : World) (hl : -1000000000000000 ≤ n) (hu : n ≤ 1000000000000000) :
    Calls Try.prog 39 #[.int .i64 n] w fun e w' => e = .returned (.int .u64 (sz n)) ∧ w = w' := by
  by_cases h : n < 0
  · have e1 : IntKind.u64.wrap (-IntKind.u64.wrap n) = -n := by
      rw [IntKind.wrap_u64, IntKind.wrap_u64]; omega
    have E1 := Lib.hid e1
    clear e1
    go_enter Try.func39, Try.ntmps39
    go_wp2
    go_ret
    exact ⟨ret_int (by rw [E1.out]; unfold sz; rw [if_pos h]), rfl⟩
  · have h' : 0 ≤ n := by omega
    go_enter Try.func39, Try.ntmps39
    go_wp2
    go_ret
    exact ⟨ret_int (by unfold sz; rw [if_neg (by omega)]), rfl⟩

theorem up_of (D d : Int) (h : 1 ≤ d) (h0 : 0 ≤ D) : (2 * D + d) / (2 * d) = D / d + if d - D % d ≤ D % d then 1 else 0 := by
  have e := Int.mul_ediv_add_emod D d
  have m0 := Int.emod_nonneg D (show d ≠ 0 by omega)
  have m1 := Int.emod_lt_of_pos D (show 0 < d by omega)
  generalize D / d = q at *
  generalize D % d = r at *
  subst e
  split
  · rename_i hh
    have : 2 * (d * q + r) + d = (2 * r - d) + (2 * d) * (q + 1) := by
      rw [Int.mul_add, Int.mul_add, Int.mul_assoc]; omega
    rw [this, Int.add_mul_ediv_left _ _ (by omega), Int.ediv_eq_zero_of_lt (by omega) (by omega)]; omega
  · rename_i hh
    have : 2 * (d * q + r) + d = (2 * r + d) + (2 * d) * q := by
      rw [Int.mul_add, Int.mul_assoc]; omega
    rw [this, Int.add_mul_ediv_left _ _ (by omega), Int.ediv_eq_zero_of_lt (by omega) (by omega)]; omega

set_option maxHeartbeats 800000 in
theorem nearest_any (a b : Int) (w : World) (ha : -1000000000000000 ≤ a) (ha' : a ≤ 1000000000000000) (hb : -1000000000000000 ≤ b) (hb' : b ≤ 1000000000000000) :
    Calls Try.prog 29 #[.int .i64 a, .int .i64 b] w fun e w' => e = .returned (.int .i64 (nearQ a b)) ∧ Grown w w' := by
  by_cases h0 : b = 0
  · subst h0
    go_enter Try.func29, Try.ntmps29
    go_wp2
    go_ret
    exact ⟨ret_int (by simp [nearQ]), Grown.refl _⟩
  · have hD0 := sz_nonneg a
    have hD1 := sz_le a 1000000000000000 (by omega) ha'
    have hd0 := sz_pos b h0
    have hd1 := sz_le b 1000000000000000 (by omega) hb'
    have hup := up_of (sz a) (sz b) hd0 hD0
    have hfin : nearQ a b = if (decide (a < 0)) = (decide (b < 0)) then nqUp a b else -nqUp a b := by unfold nearQ; rw [if_neg h0]
    unfold nqUp at hfin
    rw [hup] at hfin
    have s1 := sizeOf_any a w ha ha'
    have s2 := sizeOf_any b w hb hb'
    have S1 := Lib.hid s1
    have S2 := Lib.hid s2
    have FIN := Lib.hid hfin
    clear s1 s2 hfin hup
    have hne : (b == 0) = false := by simpa using h0
    generalize hDD : sz a = D at *
    generalize hdd : sz b = d at *
    clear hDD hdd h0
    have hm0 := Int.emod_nonneg D (show d ≠ 0 by omega)
    have hm1 := Int.emod_lt_of_pos D (show 0 < d by omega)
    have hq0 : 0 ≤ D / d := Int.ediv_nonneg hD0 (by omega)
    have hq1 : D / d ≤ D := Int.ediv_le_self _ hD0
    have hdz : ¬ d = 0 := by omega
    go_enter Try.func29, Try.ntmps29
    go_wp2_with fail
    refine S1.out.mono ?_
    rintro e w' ⟨rfl, rfl⟩
    go_wp2_with fail
    refine S2.out.mono ?_
    rintro e w' ⟨rfl, rfl⟩
    go_wp2_with fail
    go_quiet (fail)
    go_wp2_with fail
    all_goals
      go_ret
      refine ⟨ret_int ?_, grown_drewN (Grown.refl _) _⟩
      rw [FIN.out]
      split <;> (try split) <;> first | rfl | omega | (exfalso; simp_all; done)

set_option maxHeartbeats 400000 in
theorem l00In_any (n lo hi : Int) (w : World) :
    Calls Try.prog 22 #[.int .i64 n, .int .i64 lo, .int .i64 hi] w fun e w' => e = .returned (.bool (inR lo hi [n])) ∧ w = w' := by
  have e1 : inR lo hi [n] = (decide (lo ≤ n) && decide (n ≤ hi)) := by simp [inR]
  rw [e1]
  by_cases c : lo ≤ n
  · have c' : decide (lo ≤ n) = true := by simpa using c
    rw [c', Bool.true_and]
    go_enter Try.func22, Try.ntmps22
    go_wp2
    go_ret
    exact ⟨rfl, rfl⟩
  · have c' : decide (lo ≤ n) = false := by simpa using c
    rw [c', Bool.false_and]
    go_enter Try.func22, Try.ntmps22
    go_wp2
    go_ret
    exact ⟨rfl, rfl⟩

theorem nearQ_pp (a b : Int) (ha : 0 ≤ a) (hb : 0 < b) : nearQ a b = (2 * a + b) / (2 * b) := by
  unfold nearQ nqUp
  rw [if_neg (by omega), if_pos (by simp; omega)]
  have : sz a = a := by unfold sz; rw [if_neg (by omega)]
  have : sz b = b := by unfold sz; rw [if_neg (by omega)]
  simp [*]
theorem nearQ_np (a b : Int) (ha : a < 0) (hb : 0 < b) : nearQ a b = -((b - 2 * a) / (2 * b)) := by
  unfold nearQ nqUp
  rw [if_neg (by omega), if_neg (by simp; omega)]
  have e1 : sz a = -a := by unfold sz; rw [if_pos (by omega)]
  have e2 : sz b = b := by unfold sz; rw [if_neg (by omega)]
  rw [e1, e2, show 2 * -a + b = b - 2 * a by omega]
theorem nearQ_pn (a b : Int) (ha : 0 < a) (hb : b < 0) : nearQ a b = -((-b - 2 * -a) / (2 * -b)) := by
  unfold nearQ nqUp
  rw [if_neg (by omega), if_neg (by simp; omega)]
  have e1 : sz a = a := by unfold sz; rw [if_neg (by omega)]
  have e2 : sz b = -b := by unfold sz; rw [if_pos (by omega)]
  rw [e1, e2, show 2 * a + -b = -b - 2 * -a by omega]
theorem nearQ_nn (a b : Int) (ha : a ≤ 0) (hb : b < 0) : nearQ a b = (2 * -a + -b) / (2 * -b) := by
  have e2 : sz b = -b := by unfold sz; rw [if_pos (by omega)]
  by_cases h : a = 0
  · subst h
    unfold nearQ nqUp
    rw [if_neg (by omega), if_neg (by simp; omega), e2]
    have : sz 0 = 0 := rfl
    rw [this]
    have e3 : (2 * 0 + -b) / (2 * -b) = 0 := Int.ediv_eq_zero_of_lt (by omega) (by omega)
    have e4 : (2 * -0 + -b) / (2 * -b) = 0 := Int.ediv_eq_zero_of_lt (by omega) (by omega)
    rw [e3, e4]; rfl
  · unfold nearQ nqUp
    have e1 : sz a = -a := by unfold sz; rw [if_pos (by omega)]
    rw [if_neg (by omega), if_pos (by simp; omega), e1, e2]
theorem quo_fits (x y : Int) (hx : 0 ≤ x) (hx' : x ≤ 9000000000000000000) (hy : 0 < y) : wrap64 (-(x / y)) = -(x / y) := by
  have h0 : 0 ≤ x / y := Int.ediv_nonneg hx (by omega)
  have h1 : x / y ≤ x := Int.ediv_le_self _ hx
  exact IntWalk.wrap64_in _ (by omega)

set_option maxHeartbeats 400000 in
theorem l01Div_any (a b : Int) (w : World) (ha : -1000000000000000 ≤ a) (ha' : a ≤ 1000000000000000) (hb : -1000000000000000 ≤ b) (hb' : b ≤ 1000000000000000) (hz : b ≠ 0) :
    Calls Try.prog 28 #[.int .i64 a, .int .i64 b] w fun e w' => e = .returned (.int .i64 (nearQ a b)) ∧ w = w' := by
  by_cases h1 : b < 0
  · by_cases h2 : a ≤ 0
    · have h3 : decide (0 < a) = false := by simpa using h2
      go_enter Try.func28, Try.ntmps28
      go_wp2
      go_ret
      exact ⟨ret_int (nearQ_nn a b h2 h1).symm, rfl⟩
    · have h2' : 0 < a := by omega
      clear h2
      go_enter Try.func28, Try.ntmps28
      go_wp2
      go_ret
      exact ⟨ret_int (by rw [nearQ_pn a b h2' h1]; exact quo_fits _ _ (by omega) (by omega) (by omega)), rfl⟩
  · have h1' : 0 < b := by omega
    clear h1
    by_cases h2 : a < 0
    · go_enter Try.func28, Try.ntmps28
      go_wp2
      go_ret
      exact ⟨ret_int (by rw [nearQ_np a b h2 h1']; exact quo_fits _ _ (by omega) (by omega) (by omega)), rfl⟩
    · have h2' : 0 ≤ a := by omega
      clear h2
      go_enter Try.func28, Try.ntmps28
      go_wp2
      go_ret
      exact ⟨ret_int (nearQ_pp a b h2' h1').symm, rfl⟩

/-- What both DivRound come to. -/
def divR (a b : Int) : Int := if inR (-1000000000000) 1000000000000 [a, b] = true then nearQ a b else 0

theorem inR_2 (lo hi a b : Int) : inR lo hi [a, b] = (inR lo hi [a] && inR lo hi [b]) := by simp [inR]
theorem inR_1 (lo hi a : Int) : inR lo hi [a] = true ↔ lo ≤ a ∧ a ≤ hi := by simp [inR]

theorem cells_2 (w : World) (T : TypeId) (a b : Int) : ∀ j, j < [a, b].length →
    (w.alloc (Obj.cells #[.int .i64 a, .int .i64 b] T)).cell? ⟨w.heap.size, 0 + j, none⟩ = some (.int .i64 ([a, b].getD j 0)) := by
  intro j hj
  match j, hj with
  | 0, _ => simp
  | 1, _ => simp

set_option maxHeartbeats 400000 in
theorem implDiv_any (a b : Int) (w : World) :
    Calls Try.prog 15 #[.int .i64 a, .int .i64 b] w fun e w' => e = .returned (.int .i64 (divR a b)) ∧ Grown w w' := by
  unfold divR
  by_cases h : inR (-1000000000000) 1000000000000 [a, b] = true
  · rw [if_pos h]
    have h2 := h
    rw [inR_2, Bool.and_eq_true, inR_1, inR_1] at h2
    have H := Lib.hid h
    clear h
    obtain ⟨⟨ha, ha'⟩, hb, hb'⟩ := h2
    go_enter Try.func15, Try.ntmps15
    go_wp2_with fail
    refine (within64 _ _ _ _ _ _ [a, b] _ rfl (by simp) (cells_2 _ _ _ _)).mono ?_
    rintro e w' ⟨rfl, rfl⟩
    rw [H.out]
    go_wp2_with fail
    refine (nearest_any _ _ _ (by omega) (by omega) (by omega) (by omega)).mono ?_
    rintro e w' ⟨rfl, hg⟩
    go_wp2_with fail
    go_ret
    exact ⟨rfl, grown_trans ((Grown.refl _).alloc _ _) hg⟩
  · rw [if_neg h]
    have h' : inR (-1000000000000) 1000000000000 [a, b] = false := by simpa using h
    have H := Lib.hid h'
    clear h h'
    go_enter Try.func15, Try.ntmps15
    go_wp2_with fail
    refine (within64 _ _ _ _ _ _ [a, b] _ rfl (by simp) (cells_2 _ _ _ _)).mono ?_
    rintro e w' ⟨rfl, rfl⟩
    rw [H.out]
    go_wp2_with fail
    go_ret
    exact ⟨rfl, (Grown.refl _).alloc _ _⟩

set_option maxHeartbeats 400000 in
theorem specDiv_any (a b : Int) (w : World) :
    Calls Try.prog 14 #[.int .i64 a, .int .i64 b] w fun e w' => e = .returned (.int .i64 (divR a b)) ∧ w = w' := by
  unfold divR
  rw [inR_2]
  by_cases hz : b = 0
  · subst hz
    have e : (if (inR (-1000000000000) 1000000000000 [a] && inR (-1000000000000) 1000000000000 [0]) = true then nearQ a 0 else 0) = 0 := by
      split <;> simp [nearQ]
    rw [e]
    go_enter Try.func14, Try.ntmps14
    go_wp2_with fail
    go_ret
    exact ⟨rfl, rfl⟩
  · have hz' : (b == 0) = false := by simpa using hz
    have Z := Lib.hid hz
    clear hz
    cases h1 : inR (-1000000000000) 1000000000000 [a] with
    | false =>
      have H1 := Lib.hid h1
      clear h1
      simp only [Bool.false_and, Bool.false_eq_true, if_false]
      go_enter Try.func14, Try.ntmps14
      go_wp2_with fail
      refine (l00In_any _ _ _ _).mono ?_
      rintro e w' ⟨rfl, rfl⟩
      rw [H1.out]
      go_wp2_with fail
      go_ret
      exact ⟨rfl, rfl⟩
    | true =>
      have H1 := Lib.hid h1
      cases h2 : inR (-1000000000000) 1000000000000 [b] with
      | false =>
        have H2 := Lib.hid h2
        clear h1 h2
        simp only [Bool.true_and, Bool.false_eq_true, if_false]
        go_enter Try.func14, Try.ntmps14
        go_wp2_with fail
        refine (l00In_any _ _ _ _).mono ?_
        rintro e w' ⟨rfl, rfl⟩
        rw [H1.out]
        go_wp2_with fail
        refine (l00In_any _ _ _ _).mono ?_
        rintro e w' ⟨rfl, rfl⟩
        rw [H2.out]
        go_wp2_with fail
        go_ret
        exact ⟨rfl, rfl⟩
      | true =>
        have H2 := Lib.hid h2
        have b1 := (inR_1 _ _ _).1 h1
        have b2 := (inR_1 _ _ _).1 h2
        obtain ⟨ha, ha'⟩ := b1
        obtain ⟨hb, hb'⟩ := b2
        clear h1 h2
        simp only [Bool.and_self, if_true]
        go_enter Try.func14, Try.ntmps14
        go_wp2_with fail
        refine (l00In_any _ _ _ _).mono ?_
        rintro e w' ⟨rfl, rfl⟩
        rw [H1.out]
        go_wp2_with fail
        refine (l00In_any _ _ _ _).mono ?_
        rintro e w' ⟨rfl, rfl⟩
        rw [H2.out]
        go_wp2_with fail
        refine (l01Div_any _ _ _ (by omega) (by omega) (by omega) (by omega) Z.out).mono ?_
        rintro e w' ⟨rfl, rfl⟩
        go_wp2_with fail
        go_ret
        exact ⟨rfl, rfl⟩
end Go.Proofs.Ytoaceopncdodkaa
