/-
  Domes: directions that are up, the code for a dome and a direction, and the area of a dome (packages impl and spec).
-/
import Derived.Test.YtlklcpnnaolbeaaDoorDome0
import Derived.Test.YtlklcpnnaolbeaaDoorUpB
import Derived.Test.YtlklcpnnaolbeaaDoorQ2
import Derived.IntWalk
namespace Go.Proofs.YtlklcpnnaolbeaaDoor
open Go.RowKit
set_option linter.unusedVariables false

/-- The code for a dome and a direction. -/
def ask9 (s : ByteArray) (a b u v : Int) : Int := if domeB s a b = true then (if upB u v = true then 0 else 2) else 1
theorem ask9_0 (s : ByteArray) (a b u v : Int) : ask9 s a b u v = 0 ↔ domeB s a b = true ∧ upB u v = true := by
  unfold ask9
  by_cases h1 : domeB s a b = true <;> by_cases h2 : upB u v = true <;> simp [h1, h2]
theorem domeB_bd {s : ByteArray} {a b : Int} (H : domeB s a b = true) : (1000 ≤ a ∧ a ≤ 30000) ∧ 0 ≤ b ∧ b ≤ 45000 := by
  unfold domeB at H
  simp only [Bool.and_eq_true, inR_1] at H
  exact H.2

set_option maxHeartbeats 400000 in
theorem l03AngleD_any (a : Int) (w : World) :
    Calls Tryd.prog 80 #[.int .i64 a] w fun e w' => e = .returned (.bool (inR 0 359999 [a])) ∧ w = w' := by
  go_enter Tryd.func80, Tryd.ntmps80
  go_wp2_with fail
  refine (l00In_any _ _ _ _).mono ?_
  rintro e w' ⟨rfl, rfl⟩
  go_wp2_with fail
  go_ret
  exact ⟨rfl, rfl⟩
set_option maxHeartbeats 400000 in
theorem l09Up_any (a b : Int) (w : World) :
    Calls Tryd.prog 46 #[.int .i64 a, .int .i64 b] w fun e w' => e = .returned (.bool (upB a b)) ∧ w = w' := by
  unfold upB
  have I1 := Lib.hid (fun w => l03AngleD_any a w)
  have I2 := Lib.hid (fun w => l00In_any b 0 90000 w)
  generalize inR 0 359999 [a] = p1 at *
  generalize inR 0 90000 [b] = p2 at *
  cases p1 with
  | false =>
    rw [Bool.false_and]
    go_enter Tryd.func46, Tryd.ntmps46
    go_wp2_with fail
    refine (I1.out _).mono ?_
    rintro e w' ⟨rfl, rfl⟩
    go_wp2_with fail
    go_ret
    exact ⟨rfl, rfl⟩
  | true =>
    rw [Bool.true_and]
    go_enter Tryd.func46, Tryd.ntmps46
    go_wp2_with fail
    refine (I1.out _).mono ?_
    rintro e w' ⟨rfl, rfl⟩
    go_wp2_with fail
    refine (I2.out _).mono ?_
    rintro e w' ⟨rfl, rfl⟩
    go_wp2_with fail
    go_ret
    exact ⟨rfl, rfl⟩
set_option maxHeartbeats 1000000 in
theorem l09Ask_at (g o : Nat) (s : ByteArray) (a b u v : Int) (w : World) (c0 : w.cell? ⟨g, o, none⟩ = some (.string s)) (c1 : w.cell? ⟨g, o + 1, none⟩ = some (.int .i64 a)) (c2 : w.cell? ⟨g, o + 2, none⟩ = some (.int .i64 b)) :
    Calls Tryd.prog 20 #[.pointer (some ⟨g, o, none⟩), .int .i64 u, .int .i64 v] w fun e w' => e = .returned (.int .i64 (ask9 s a b u v)) ∧ w = w' := by
  unfold ask9
  have I0 := Lib.hid (fun (_ : Unit) => l09Ok_at g o s a b w c0 c1 c2)
  have I1 := Lib.hid (fun w => l09Up_any u v w)
  clear c0 c1 c2
  generalize domeB s a b = p0 at *
  generalize upB u v = p1 at *
  cases p0 with
  | false =>
    simp only [Bool.false_eq_true, ite_true, ite_false, if_true, if_false]
    go_enter Tryd.func20, Tryd.ntmps20
    go_wp2_with fail
    refine (I0.out ()).mono ?_
    rintro e w' ⟨rfl, rfl⟩
    go_wp2_with fail
    go_ret
    exact ⟨rfl, rfl⟩
  | true =>
    cases p1 with
    | false =>
      simp only [Bool.false_eq_true, ite_true, ite_false, if_true, if_false]
      go_enter Tryd.func20, Tryd.ntmps20
      go_wp2_with fail
      refine (I0.out ()).mono ?_
      rintro e w' ⟨rfl, rfl⟩
      go_wp2_with fail
      refine (I1.out _).mono ?_
      rintro e w' ⟨rfl, rfl⟩
      go_wp2_with fail
      go_ret
      exact ⟨rfl, rfl⟩
    | true =>
      simp only [ite_true, if_true]
      go_enter Tryd.func20, Tryd.ntmps20
      go_wp2_with fail
      refine (I0.out ()).mono ?_
      rintro e w' ⟨rfl, rfl⟩
      go_wp2_with fail
      refine (I1.out _).mono ?_
      rintro e w' ⟨rfl, rfl⟩
      go_wp2_with fail
      go_ret
      exact ⟨rfl, rfl⟩

/-- What DomeArea returns. -/
def areaV (s : ByteArray) (a b : Int) : Value := if domeB s a b = true then .tuple #[.int .i64 (nearQ (628318 * a * a) 100000), .int .i64 0] else .tuple #[.int .i64 0, .int .i64 1]
theorem areaV_form (s : ByteArray) (a b : Int) : ∃ x c : Int, areaV s a b = .tuple #[.int .i64 x, .int .i64 c] := by unfold areaV; split <;> exact ⟨_, _, rfl⟩
theorem area_bd (a : Int) (h0 : 1000 ≤ a) (h1 : a ≤ 30000) : (0 ≤ 628318 * a ∧ 628318 * a ≤ 20000000000) ∧ 0 ≤ 628318 * a * a ∧ 628318 * a * a ≤ 600000000000000 := by
  have h2 : 0 ≤ 628318 * a * a := Int.mul_nonneg (by omega) (by omega)
  have h3 : 628318 * a * a ≤ 628318 * a * 30000 := Int.mul_le_mul_of_nonneg_left h1 (by omega)
  omega

end Go.Proofs.YtlklcpnnaolbeaaDoor
