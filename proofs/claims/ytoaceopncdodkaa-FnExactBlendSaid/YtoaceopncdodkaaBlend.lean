/-
  A number on a line through two points: the contracts of lineAt, Blend (package impl) and of l01Line, Blend (package spec).
-/
import Derived.Test.YtoaceopncdodkaaDiv
namespace Go.Proofs.Ytoaceopncdodkaa
open Go.RowKit

def lineI (x0 y0 x1 y1 x : Int) : Int := if x ≤ x0 ∨ x1 ≤ x0 then y0 else if x1 ≤ x then y1 else y0 + nearQ ((y1 - y0) * (x - x0)) (x1 - x0)
def blendI (x0 y0 x1 y1 x : Int) : Int := if inR (-1000000) 1000000 [x0, y0, x1, y1] = true then lineI x0 y0 x1 y1 x else 0

theorem mul_bd (a b m : Int) (ha : -m ≤ a) (ha' : a ≤ m) (hb : 0 ≤ b) (hb' : b ≤ m) : -(m * m) ≤ a * b ∧ a * b ≤ m * m := by
  have hm : 0 ≤ m := by omega
  have h1 : a * b ≤ m * b := Int.mul_le_mul_of_nonneg_right ha' hb
  have h2 : (-m) * b ≤ a * b := Int.mul_le_mul_of_nonneg_right ha hb
  have h3 : m * b ≤ m * m := Int.mul_le_mul_of_nonneg_left hb' hm
  rw [Int.neg_mul] at h2
  omega
theorem nearQ_bd (a b m : Int) (ha : -m ≤ a) (ha' : a ≤ m) (hb : 1 ≤ b) : -(m + 1) ≤ nearQ a b ∧ nearQ a b ≤ m + 1 := by
  have h : ∀ x : Int, 0 ≤ x → x ≤ m → 0 ≤ (2 * x + b) / (2 * b) ∧ (2 * x + b) / (2 * b) ≤ m + 1 := by
    intro x hx hx'
    refine ⟨Int.ediv_nonneg (by omega) (by omega), ?_⟩
    have h1 : (2 * x + b) / (2 * b) < x + 1 + 1 := by
      apply Int.ediv_lt_of_lt_mul (by omega)
      have h2 : (x + 1) * 1 ≤ (x + 1) * b := Int.mul_le_mul_of_nonneg_left hb (by omega)
      have h3 : (x + 1 + 1) * (2 * b) = 2 * ((x + 1) * b) + 2 * b := by
        rw [Int.add_mul (x + 1), Int.one_mul, Int.mul_left_comm]
      omega
    omega
  by_cases h0 : a < 0
  · rw [nearQ_np a b h0 (by omega), show b - 2 * a = 2 * (-a) + b by omega]
    have := h (-a) (by omega) (by omega)
    omega
  · rw [nearQ_pp a b (by omega) (by omega)]
    have := h a (by omega) (by omega)
    omega
theorem inR_4 (lo hi a b c d : Int) : inR lo hi [a, b, c, d] = true ↔ (lo ≤ a ∧ a ≤ hi) ∧ (lo ≤ b ∧ b ≤ hi) ∧ (lo ≤ c ∧ c ≤ hi) ∧ (lo ≤ d ∧ d ≤ hi) := by simp [inR]

set_option maxHeartbeats 400000 in
theorem lineAt_any (x0 y0 x1 y1 x : Int) (w : World) (h1 : -1000000 ≤ x0) (h1' : x0 ≤ 1000000) (h2 : -1000000 ≤ y0) (h2' : y0 ≤ 1000000)
    (h3 : -1000000 ≤ x1) (h3' : x1 ≤ 1000000) (h4 : -1000000 ≤ y1) (h4' : y1 ≤ 1000000) :
    Calls Try.prog 31 #[.int .i64 x0, .int .i64 y0, .int .i64 x1, .int .i64 y1, .int .i64 x] w fun e w' => e = .returned (.int .i64 (lineI x0 y0 x1 y1 x)) ∧ Grown w w' := by
  by_cases c1 : x ≤ x0
  · go_enter Try.func31, Try.ntmps31
    go_wp2_with fail
    go_ret
    exact ⟨ret_int (by unfold lineI; rw [if_pos (by omega)]), Grown.refl _⟩
  · have c1' : decide (x ≤ x0) = false := by simpa using c1
    by_cases c2 : x1 ≤ x0
    · go_enter Try.func31, Try.ntmps31
      go_wp2_with fail
      go_ret
      exact ⟨ret_int (by unfold lineI; rw [if_pos (by omega)]), Grown.refl _⟩
    · have c2' : decide (x1 ≤ x0) = false := by simpa using c2
      by_cases c3 : x1 ≤ x
      · go_enter Try.func31, Try.ntmps31
        go_wp2_with fail
        go_ret
        exact ⟨ret_int (by unfold lineI; rw [if_neg (by omega), if_pos (by omega)]), Grown.refl _⟩
      · have c3' : decide (x1 ≤ x) = false := by simpa using c3
        obtain ⟨p1, p2⟩ := mul_bd (y1 - y0) (x - x0) 2000000 (by omega) (by omega) (by omega) (by omega)
        obtain ⟨q1, q2⟩ := nearQ_bd ((y1 - y0) * (x - x0)) (x1 - x0) (2000000 * 2000000) (by omega) (by omega) (by omega)
        have e : lineI x0 y0 x1 y1 x = y0 + nearQ ((y1 - y0) * (x - x0)) (x1 - x0) := by unfold lineI; rw [if_neg (by omega), if_neg (by omega)]
        rw [e]
        clear e
        go_enter Try.func31, Try.ntmps31
        go_wp2_with fail
        refine (nearest_any _ _ _ (by omega) (by omega) (by omega) (by omega)).mono ?_
        rintro e w' ⟨rfl, hg⟩
        go_wp2_with fail
        go_ret
        exact ⟨rfl, hg⟩

set_option maxHeartbeats 400000 in
theorem l01Line_any (x0 y0 x1 y1 x : Int) (w : World) (h1 : -1000000 ≤ x0) (h1' : x0 ≤ 1000000) (h2 : -1000000 ≤ y0) (h2' : y0 ≤ 1000000)
    (h3 : -1000000 ≤ x1) (h3' : x1 ≤ 1000000) (h4 : -1000000 ≤ y1) (h4' : y1 ≤ 1000000) :
    Calls Try.prog 30 #[.int .i64 x0, .int .i64 y0, .int .i64 x1, .int .i64 y1, .int .i64 x] w fun e w' => e = .returned (.int .i64 (lineI x0 y0 x1 y1 x)) ∧ w = w' := by
  by_cases c1 : x ≤ x0
  · go_enter Try.func30, Try.ntmps30
    go_wp2_with fail
    go_ret
    exact ⟨ret_int (by unfold lineI; rw [if_pos (by omega)]), rfl⟩
  · have c1' : decide (x ≤ x0) = false := by simpa using c1
    by_cases c2 : x1 ≤ x0
    · go_enter Try.func30, Try.ntmps30
      go_wp2_with fail
      go_ret
      exact ⟨ret_int (by unfold lineI; rw [if_pos (by omega)]), rfl⟩
    · have c2' : decide (x1 ≤ x0) = false := by simpa using c2
      by_cases c3 : x1 ≤ x
      · go_enter Try.func30, Try.ntmps30
        go_wp2_with fail
        go_ret
        exact ⟨ret_int (by unfold lineI; rw [if_neg (by omega), if_pos (by omega)]), rfl⟩
      · have c3' : decide (x1 ≤ x) = false := by simpa using c3
        obtain ⟨p1, p2⟩ := mul_bd (y1 - y0) (x - x0) 2000000 (by omega) (by omega) (by omega) (by omega)
        obtain ⟨q1, q2⟩ := nearQ_bd ((y1 - y0) * (x - x0)) (x1 - x0) (2000000 * 2000000) (by omega) (by omega) (by omega)
        have e : lineI x0 y0 x1 y1 x = y0 + nearQ ((y1 - y0) * (x - x0)) (x1 - x0) := by unfold lineI; rw [if_neg (by omega), if_neg (by omega)]
        rw [e]
        clear e
        go_enter Try.func30, Try.ntmps30
        go_wp2_with fail
        refine (l01Div_any _ _ _ (by omega) (by omega) (by omega) (by omega) (by omega)).mono ?_
        rintro e w' ⟨rfl, rfl⟩
        go_wp2_with fail
        go_ret
        exact ⟨rfl, rfl⟩

theorem cells_4 (w : World) (T : TypeId) (a b c d : Int) : ∀ j, j < [a, b, c, d].length →
    (w.alloc (Obj.cells #[.int .i64 a, .int .i64 b, .int .i64 c, .int .i64 d] T)).cell? ⟨w.heap.size, 0 + j, none⟩ = some (.int .i64 ([a, b, c, d].getD j 0)) := by
  intro j hj
  match j, hj with
  | 0, _ => simp
  | 1, _ => simp
  | 2, _ => simp
  | 3, _ => simp

set_option maxHeartbeats 400000 in
theorem implBlend_any (x0 y0 x1 y1 x : Int) (w : World) :
    Calls Try.prog 17 #[.int .i64 x0, .int .i64 y0, .int .i64 x1, .int .i64 y1, .int .i64 x] w fun e w' => e = .returned (.int .i64 (blendI x0 y0 x1 y1 x)) ∧ Grown w w' := by
  unfold blendI
  by_cases h : inR (-1000000) 1000000 [x0, y0, x1, y1] = true
  · rw [if_pos h]
    obtain ⟨⟨h1, h1'⟩, ⟨h2, h2'⟩, ⟨h3, h3'⟩, h4, h4'⟩ := (inR_4 _ _ _ _ _ _).1 h
    have H := Lib.hid h
    clear h
    go_enter Try.func17, Try.ntmps17
    go_wp2_with fail
    refine (within64 _ _ _ _ _ _ [x0, y0, x1, y1] _ rfl (by simp) (cells_4 _ _ _ _ _ _)).mono ?_
    rintro e w' ⟨rfl, rfl⟩
    rw [H.out]
    go_wp2_with fail
    refine (lineAt_any _ _ _ _ _ _ h1 h1' h2 h2' h3 h3' h4 h4').mono ?_
    rintro e w' ⟨rfl, hg⟩
    go_wp2_with fail
    go_ret
    exact ⟨rfl, grown_trans ((Grown.refl _).alloc _ _) hg⟩
  · rw [if_neg h]
    have h' : inR (-1000000) 1000000 [x0, y0, x1, y1] = false := by simpa using h
    have H := Lib.hid h'
    clear h h'
    go_enter Try.func17, Try.ntmps17
    go_wp2_with fail
    refine (within64 _ _ _ _ _ _ [x0, y0, x1, y1] _ rfl (by simp) (cells_4 _ _ _ _ _ _)).mono ?_
    rintro e w' ⟨rfl, rfl⟩
    rw [H.out]
    go_wp2_with fail
    go_ret
    exact ⟨rfl, (Grown.refl _).alloc _ _⟩

theorem inR_4' (lo hi a b c d : Int) : inR lo hi [a, b, c, d] = (inR lo hi [a] && (inR lo hi [c] && (inR lo hi [b] && inR lo hi [d]))) := by
  simp [inR]
  cases decide (lo ≤ a) <;> cases decide (a ≤ hi) <;> cases decide (lo ≤ b) <;> cases decide (b ≤ hi) <;> cases decide (lo ≤ c) <;> cases decide (c ≤ hi) <;> simp

set_option maxHeartbeats 1000000 in
theorem specBlend_any (x0 y0 x1 y1 x : Int) (w : World) :
    Calls Try.prog 16 #[.int .i64 x0, .int .i64 y0, .int .i64 x1, .int .i64 y1, .int .i64 x] w fun e w' => e = .returned (.int .i64 (blendI x0 y0 x1 y1 x)) ∧ w = w' := by
  unfold blendI
  rw [inR_4']
  cases k1 : inR (-1000000) 1000000 [x0] with
  | false =>
    have K1 := Lib.hid k1
    clear k1
    simp only [Bool.false_and, Bool.false_eq_true, if_false]
    go_enter Try.func16, Try.ntmps16
    go_wp2_with fail
    refine (l00In_any _ _ _ _).mono ?_
    rintro e w' ⟨rfl, rfl⟩
    rw [K1.out]
    go_wp2_with fail
    go_ret
    exact ⟨rfl, rfl⟩
  | true =>
    obtain ⟨h1, h1'⟩ := (inR_1 _ _ _).1 k1
    have K1 := Lib.hid k1
    clear k1
    cases k2 : inR (-1000000) 1000000 [x1] with
    | false =>
      have K2 := Lib.hid k2
      clear k2
      simp only [Bool.true_and, Bool.false_and, Bool.false_eq_true, if_false]
      go_enter Try.func16, Try.ntmps16
      go_wp2_with fail
      refine (l00In_any _ _ _ _).mono ?_
      rintro e w' ⟨rfl, rfl⟩
      rw [K1.out]
      go_wp2_with fail
      refine (l00In_any _ _ _ _).mono ?_
      rintro e w' ⟨rfl, rfl⟩
      rw [K2.out]
      go_wp2_with fail
      go_ret
      exact ⟨rfl, rfl⟩
    | true =>
      obtain ⟨h3, h3'⟩ := (inR_1 _ _ _).1 k2
      have K2 := Lib.hid k2
      clear k2
      cases k3 : inR (-1000000) 1000000 [y0] with
      | false =>
        have K3 := Lib.hid k3
        clear k3
        simp only [Bool.true_and, Bool.false_and, Bool.false_eq_true, if_false]
        go_enter Try.func16, Try.ntmps16
        go_wp2_with fail
        refine (l00In_any _ _ _ _).mono ?_
        rintro e w' ⟨rfl, rfl⟩
        rw [K1.out]
        go_wp2_with fail
        refine (l00In_any _ _ _ _).mono ?_
        rintro e w' ⟨rfl, rfl⟩
        rw [K2.out]
        go_wp2_with fail
        refine (l00In_any _ _ _ _).mono ?_
        rintro e w' ⟨rfl, rfl⟩
        rw [K3.out]
        go_wp2_with fail
        go_ret
        exact ⟨rfl, rfl⟩
      | true =>
        obtain ⟨h2, h2'⟩ := (inR_1 _ _ _).1 k3
        have K3 := Lib.hid k3
        clear k3
        cases k4 : inR (-1000000) 1000000 [y1] with
        | false =>
          have K4 := Lib.hid k4
          clear k4
          simp only [Bool.true_and, Bool.false_eq_true, if_false]
          go_enter Try.func16, Try.ntmps16
          go_wp2_with fail
          refine (l00In_any _ _ _ _).mono ?_
          rintro e w' ⟨rfl, rfl⟩
          rw [K1.out]
          go_wp2_with fail
          refine (l00In_any _ _ _ _).mono ?_
          rintro e w' ⟨rfl, rfl⟩
          rw [K2.out]
          go_wp2_with fail
          refine (l00In_any _ _ _ _).mono ?_
          rintro e w' ⟨rfl, rfl⟩
          rw [K3.out]
          go_wp2_with fail
          refine (l00In_any _ _ _ _).mono ?_
          rintro e w' ⟨rfl, rfl⟩
          rw [K4.out]
          go_wp2_with fail
          go_ret
          exact ⟨rfl, rfl⟩
        | true =>
          obtain ⟨h4, h4'⟩ := (inR_1 _ _ _).1 k4
          have K4 := Lib.hid k4
          clear k4
          simp only [Bool.true_and, if_true]
          go_enter Try.func16, Try.ntmps16
          go_wp2_with fail
          refine (l00In_any _ _ _ _).mono ?_
          rintro e w' ⟨rfl, rfl⟩
          rw [K1.out]
          go_wp2_with fail
          refine (l00In_any _ _ _ _).mono ?_
          rintro e w' ⟨rfl, rfl⟩
          rw [K2.out]
          go_wp2_with fail
          refine (l00In_any _ _ _ _).mono ?_
          rintro e w' ⟨rfl, rfl⟩
          rw [K3.out]
          go_wp2_with fail
          refine (l00In_any _ _ _ _).mono ?_
          rintro e w' ⟨rfl, rfl⟩
          rw [K4.out]
          go_wp2_with fail
          refine (l01Line_any _ _ _ _ _ _ h1 h1' h2 h2' h3 h3' h4 h4').mono ?_
          rintro e w' ⟨rfl, rfl⟩
          go_wp2_with fail
          go_ret
          exact ⟨rfl, rfl⟩
end Go.Proofs.Ytoaceopncdodkaa
