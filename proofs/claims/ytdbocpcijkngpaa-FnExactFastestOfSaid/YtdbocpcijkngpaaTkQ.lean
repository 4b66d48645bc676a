/-
  Quotients rounded up, and how fast the values of a track change (both packages): quotientUp, changeTo, l14Up.
-/
import Derived.Test.YtdbocpcijkngpaaTkW
import Derived.Test.YtdbocpcijkngpaaAbs
import Derived.Test.YtdbocpcijkngpaaMnMx
namespace Go.Proofs.Ytdbocpcijkngpaa.Tk
open Go.RowKit
open Ky (V In Own Row At gk)
set_option linter.unusedVariables false

def upQ (a b : Int) : Int := (a + b - 1) / b
theorem upQ_exact (a b : Int) (hb : 1 ≤ b) (h : a % b = 0) : upQ a b = a / b := by
  have e := Int.mul_ediv_add_emod a b
  unfold upQ
  rw [h, Int.add_zero] at e
  rw [show a + b - 1 = (b - 1) + b * (a / b) by omega, Int.add_mul_ediv_left _ _ (by omega), Int.ediv_eq_zero_of_lt (by omega) (by omega)]
  omega
theorem upQ_more (a b : Int) (hb : 1 ≤ b) (h : a % b ≠ 0) : upQ a b = a / b + 1 := by
  have e := Int.mul_ediv_add_emod a b
  have m0 := Int.emod_nonneg a (show b ≠ 0 by omega)
  have m1 := Int.emod_lt_of_pos a (show 0 < b by omega)
  unfold upQ
  rw [show a + b - 1 = (a % b - 1) + b * (a / b + 1) by rw [Int.mul_add]; omega, Int.add_mul_ediv_left _ _ (by omega), Int.ediv_eq_zero_of_lt (by omega) (by omega)]
  omega
theorem upQ_bd (a b m : Int) (ha : 0 ≤ a) (ha' : a ≤ m) (hb : 1 ≤ b) : 0 ≤ upQ a b ∧ upQ a b ≤ m := by
  unfold upQ
  refine ⟨Int.ediv_nonneg (by omega) (by omega), ?_⟩
  rcases Int.lt_or_le 0 a with h | h
  · have h2 : (a + b - 1) / b < a + 1 := by
      apply Int.ediv_lt_of_lt_mul (by omega)
      have h3 : a * 1 ≤ a * b := Int.mul_le_mul_of_nonneg_left hb ha
      rw [Int.add_mul, Int.one_mul]
      omega
    omega
  · obtain rfl : a = 0 := by omega
    rw [Int.ediv_eq_zero_of_lt (by omega) (by omega)]
    exact ha'
set_option maxHeartbeats 1000000 in
theorem quotientUp_any (a b : Int) (w : World) (ha : 0 ≤ a) (ha' : a ≤ 4000000000) (hb : 1 ≤ b) (hb' : b ≤ 4000000000) :
    Calls Try.prog 87 #[.int .i64 a, .int .i64 b] w fun e w' => e = .returned (.int .i64 (upQ a b)) ∧ w = w' := by
  have b0 : 0 < b := by omega
  have bz : ¬ b = 0 := by omega
  have q1 : 0 ≤ a / b := Int.ediv_nonneg ha (by omega)
  have q2 : a / b ≤ a := Int.ediv_le_self _ ha
  by_cases h : a % b = 0
  · have e := upQ_exact a b hb h
    rw [e]
    clear e
    have h1 : (a % b == 0) = true := by rw [h]; rfl
    go_enter Try.func87, Try.ntmps87
    go_wp2_with fail
    go_ret
    exact ⟨rfl, rfl⟩
  · have e := upQ_more a b hb h
    rw [e]
    clear e
    have h1 : (a % b == 0) = false := beq_eq_false_iff_ne.2 h
    have w1 : wrap64 (a / b + 1) = a / b + 1 := IntWalk.wrap64_in _ (by omega)
    have w2 : IntKind.i64.wrap (a / b + 1) = a / b + 1 := IntWalk.i64_in _ (by omega)
    go_enter Try.func87, Try.ntmps87
    go_wp2_with fail
    go_ret
    exact ⟨rfl, rfl⟩
set_option maxHeartbeats 1000000 in
theorem l14Up_any (a b : Int) (w : World) (ha : 0 ≤ a) (ha' : a ≤ 4000000000) (hb : 1 ≤ b) (hb' : b ≤ 4000000000) :
    Calls Try.prog 85 #[.int .i64 a, .int .i64 b] w fun e w' => e = .returned (.int .i64 (upQ a b)) ∧ w = w' := by
  have b0 : 0 < b := by omega
  have bz : ¬ b = 0 := by omega
  have s0 : 0 ≤ a + b - 1 := by omega
  have w1 : wrap64 (a + b) = a + b := IntWalk.wrap64_in _ (by omega)
  have w2 : wrap64 (a + b - 1) = a + b - 1 := IntWalk.wrap64_in _ (by omega)
  go_enter Try.func85, Try.ntmps85
  go_wp2_with fail
  go_ret
  exact ⟨rfl, rfl⟩
theorem ab_sz (x : Int) : ab x = sz x := by unfold ab sz; rfl
set_option maxHeartbeats 1000000 in
theorem changeTo_any (x0 x1 y0 y1 : Int) (hx : -1000000 ≤ x1 ∧ x1 ≤ 1000000) (hy : -1000000 ≤ y1 ∧ y1 ≤ 1000000) (w : World) :
    Calls Try.prog 88 #[.agg #[.int .i64 x0, .int .i64 x1], .agg #[.int .i64 y0, .int .i64 y1]] w fun e w' => e = .returned (.int .i64 (sz (y1 - x1) * 1000)) ∧ Below w.heap.size w w' := by
  have S := Lib.hid (fun w => sizeOf_any (y1 - x1) w (by omega) (by omega))
  have s0 := sz_nonneg (y1 - x1)
  have s1 := sz_le (y1 - x1) 2000000 (by omega) (by omega)
  have w1 : wrap64 (y1 - x1) = y1 - x1 := IntWalk.wrap64_in _ (by omega)
  generalize hz : sz (y1 - x1) = z at *
  have HZ := Lib.hid hz
  clear hz
  have w2 : IntKind.i64.wrap z = z := IntWalk.i64_in _ (by omega)
  have w3 : wrap64 z = z := IntWalk.wrap64_in _ (by omega)
  have w4 : wrap64 (z * 1000) = z * 1000 := IntWalk.wrap64_in _ (by omega)
  go_enter Try.func88, Try.ntmps88
  go_wp2_with fail
  refine (S.out _).mono ?_
  rintro e w' ⟨rfl, rfl⟩
  go_wp2_with fail
  go_ret
  refine ⟨rfl, ?_⟩
  repeat (first | exact Below.refl _ _ | refine Below.setCell ?_ (by first | (simp; done) | omega | (simp; omega)) _ | refine Below.alloc ?_ (by first | (simp; done) | omega | (simp; omega)) _ | refine bel_drew ?_)
/-- How fast a track changes behind a key. -/
def spd (zs : List V) (j : Nat) : Int := upQ (sz ((gk zs (j + 1)).f1 - (gk zs j).f1) * 1000) ((gk zs (j + 1)).f0 - (gk zs j).f0)
theorem spd_bd {zs : List V} (h : Trk zs) (j : Nat) (hj : j + 1 < zs.length) : 0 ≤ spd zs j ∧ spd zs j ≤ 2000000000 := by
  have h1 := h.i j (by omega)
  have h2 := h.i (j + 1) hj
  have h3 := h.s j hj
  have s0 := sz_nonneg ((gk zs (j + 1)).f1 - (gk zs j).f1)
  have s1 := sz_le ((gk zs (j + 1)).f1 - (gk zs j).f1) 2000000 (by omega) (by omega)
  exact upQ_bd _ _ 2000000000 (by omega) (by omega) (by omega)
end Go.Proofs.Ytdbocpcijkngpaa.Tk
