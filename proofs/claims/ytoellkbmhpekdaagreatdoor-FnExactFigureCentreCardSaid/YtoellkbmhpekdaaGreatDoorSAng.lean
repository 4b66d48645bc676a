/-
  The angles of a vector in package spec: the contracts of l04Angles, AnglesOf.
-/
import Derived.Test.YtoellkbmhpekdaaGreatDoorAng
import Derived.Test.YtoellkbmhpekdaaGreatDoorSArc
namespace Go.Proofs.YtoellkbmhpekdaaGreatDoor
open Go.RowKit
set_option linter.unusedVariables false

set_option maxRecDepth 100000 in
set_option maxHeartbeats 1000000 in
theorem l04Angles_00 (x y z : Int) (h : inV 2000000 x y z) (cx : x = 0) (cy : y = 0) (w : World) :
    Calls Tryz.prog 65 #[.agg #[.int .i64 x, .int .i64 y, .int .i64 z]] w fun e w' => e = .returned (.tuple #[.int .i64 (lonI x y), .int .i64 (latI x y z)]) ∧ Below w.heap.size w w' := by
  obtain ⟨⟨x0, x1⟩, ⟨y0, y1⟩, z0, z1⟩ := h
  have p1 := sq_bd x 2000000 x0 x1
  have p2 := sq_bd y 2000000 y0 y1
  have R := Lib.hid (fun w => l01RootI_any (x * x + y * y) w (by omega))
  have r0 := rootI_nonneg (x * x + y * y)
  have r1 := rootI_le (x * x + y * y) 4000000 (by omega) (by omega)
  have D := Lib.hid (fun w => l02Arc_any z (rootI (x * x + y * y)) (by omega) (by omega) (by omega) (by omega) w)
  have db := dirI_bd z (rootI (x * x + y * y))
  have m1 : IntKind.i64.wrap (x * x) = x * x := IntWalk.i64_in _ (by omega)
  have m2 : IntKind.i64.wrap (y * y) = y * y := IntWalk.i64_in _ (by omega)
  have m3 : IntKind.i64.wrap (x * x + y * y) = x * x + y * y := IntWalk.i64_in _ (by omega)
  have elo : lonI x y = 0 := by unfold lonI; rw [if_pos ⟨cx, cy⟩]
  rw [elo]
  clear elo
  unfold latI
  obtain ⟨q, hq⟩ : ∃ q : Int, q = if 90000 < dirI z (rootI (x * x + y * y)) then dirI z (rootI (x * x + y * y)) - 360000 else dirI z (rootI (x * x + y * y)) := ⟨_, rfl⟩
  rw [← hq]
  have HQ := Lib.hid hq
  clear hq
  generalize dirI z (rootI (x * x + y * y)) = d at *
  generalize rootI (x * x + y * y) = r at *
  obtain ⟨W1, hW1⟩ : ∃ W1, W1 = w.alloc (.cells #[.int .i64 x, .int .i64 y, .int .i64 z] 90) := ⟨_, rfl⟩
  have HB1 : Below w.heap.size w W1 := by rw [hW1]; exact (Below.refl _ _).alloc (Nat.le_refl _) _
  have A : C3 W1 w.heap.size x y z := by rw [hW1]; exact C3.new _ _ _ _ _
  have HW := Lib.hid hW1
  have HB := Lib.hid HB1
  clear hW1 HB1 p1 p2
  obtain ⟨a0, a1, a2, _, _, _⟩ := A
  have hx : (x != 0) = false := by simp [cx]
  have hy : (y != 0) = false := by simp [cy]
  clear cx cy
  go_enter Tryz.func65, Tryz.ntmps65
  go_upto_region 2 with fail
  rw [← HW.out]
  clear HW
  go_wp2_with fail
  refine wp_region_still_tail 14 (by kernel_rfl) (by kernel_rfl) ?_
  simp only [List.take_succ_cons, List.take_zero, List.drop_succ_cons, List.drop_zero]
  clear x0 x1 y0 y1 z0 z1
  repeat still_step
  still_call (quiet_w (R.out _))
  repeat still_step
  refine wpStill_nil ?_
  clear a0 a1 a2
  by_cases hd : 90000 < d
  · go_wp2_with fail
    refine (D.out _).mono ?_
    rintro e w1 ⟨rfl, hb⟩
    have HB2 := Lib.hid (HB.out.trans ((show Below W1.heap.size W1 w1 from ⟨hb.os, hb.tape, hb.output, hb.size, hb.block⟩).mono HB.out.size))
    clear hb
    go_wp2_with fail
    go_ret2
    exact ⟨by rw [HQ.out, if_pos hd]; rfl, HB2.out⟩
  · go_wp2_with fail
    refine (D.out _).mono ?_
    rintro e w1 ⟨rfl, hb⟩
    have HB2 := Lib.hid (HB.out.trans ((show Below W1.heap.size W1 w1 from ⟨hb.os, hb.tape, hb.output, hb.size, hb.block⟩).mono HB.out.size))
    clear hb
    go_wp2_with fail
    go_ret2
    exact ⟨by rw [HQ.out, if_neg (show ¬ 90000 < d by omega)]; rfl, HB2.out⟩
set_option maxRecDepth 100000 in
set_option maxHeartbeats 1000000 in
theorem l04Angles_0y (x y z : Int) (h : inV 2000000 x y z) (cx : x = 0) (cy : ¬ y = 0) (w : World) :
    Calls Tryz.prog 65 #[.agg #[.int .i64 x, .int .i64 y, .int .i64 z]] w fun e w' => e = .returned (.tuple #[.int .i64 (lonI x y), .int .i64 (latI x y z)]) ∧ Below w.heap.size w w' := by
  obtain ⟨⟨x0, x1⟩, ⟨y0, y1⟩, z0, z1⟩ := h
  have p1 := sq_bd x 2000000 x0 x1
  have p2 := sq_bd y 2000000 y0 y1
  have R := Lib.hid (fun w => l01RootI_any (x * x + y * y) w (by omega))
  have r0 := rootI_nonneg (x * x + y * y)
  have r1 := rootI_le (x * x + y * y) 4000000 (by omega) (by omega)
  have D := Lib.hid (fun w => l02Arc_any z (rootI (x * x + y * y)) (by omega) (by omega) (by omega) (by omega) w)
  have db := dirI_bd z (rootI (x * x + y * y))
  have m1 : IntKind.i64.wrap (x * x) = x * x := IntWalk.i64_in _ (by omega)
  have m2 : IntKind.i64.wrap (y * y) = y * y := IntWalk.i64_in _ (by omega)
  have m3 : IntKind.i64.wrap (x * x + y * y) = x * x + y * y := IntWalk.i64_in _ (by omega)
  have L := Lib.hid (fun w => l02Arc_any y x (by omega) (by omega) (by omega) (by omega) w)
  have elo : lonI x y = dirI y x := by unfold lonI; rw [if_neg (by omega)]
  rw [elo]
  generalize dirI y x = lo at *
  clear elo
  unfold latI
  obtain ⟨q, hq⟩ : ∃ q : Int, q = if 90000 < dirI z (rootI (x * x + y * y)) then dirI z (rootI (x * x + y * y)) - 360000 else dirI z (rootI (x * x + y * y)) := ⟨_, rfl⟩
  rw [← hq]
  have HQ := Lib.hid hq
  clear hq
  generalize dirI z (rootI (x * x + y * y)) = d at *
  generalize rootI (x * x + y * y) = r at *
  obtain ⟨W1, hW1⟩ : ∃ W1, W1 = w.alloc (.cells #[.int .i64 x, .int .i64 y, .int .i64 z] 90) := ⟨_, rfl⟩
  have HB1 : Below w.heap.size w W1 := by rw [hW1]; exact (Below.refl _ _).alloc (Nat.le_refl _) _
  have A : C3 W1 w.heap.size x y z := by rw [hW1]; exact C3.new _ _ _ _ _
  have HW := Lib.hid hW1
  clear hW1 p1 p2
  obtain ⟨b0, b1, b2, _, _, _⟩ := A
  have A := Lib.hid (show W1.cell? ⟨w.heap.size, 0, none⟩ = some (.int .i64 x) ∧ W1.cell? ⟨w.heap.size, 1, none⟩ = some (.int .i64 y) ∧ W1.cell? ⟨w.heap.size, 2, none⟩ = some (.int .i64 z) ∧ Below w.heap.size w W1 from ⟨b0, b1, b2, HB1⟩)
  clear HB1
  have hx : (x != 0) = false := by simp [cx]
  have hy : (y != 0) = true := by simp [cy]
  clear cx cy
  go_enter Tryz.func65, Tryz.ntmps65
  go_upto_region 2 with fail
  rw [← HW.out]
  clear HW
  go_wp2_with fail
  refine (L.out _).mono ?_
  rintro e u1 ⟨rfl, hb⟩
  have K := Lib.hid (keepV1 A.out hb)
  clear hb b0 b1 b2
  obtain ⟨a0, a1, a2, a3⟩ := K.out
  have HB := Lib.hid a3
  clear a3
  go_wp2_with fail
  refine wp_region_still_tail 14 (by kernel_rfl) (by kernel_rfl) ?_
  simp only [List.take_succ_cons, List.take_zero, List.drop_succ_cons, List.drop_zero]
  clear x0 x1 y0 y1 z0 z1
  repeat still_step
  still_call (quiet_w (R.out _))
  repeat still_step
  refine wpStill_nil ?_
  clear a0 a1 a2
  by_cases hd : 90000 < d
  · go_wp2_with fail
    refine (D.out _).mono ?_
    rintro e w1 ⟨rfl, hb⟩
    have HB2 := Lib.hid (HB.out.trans ((show Below u1.heap.size u1 w1 from ⟨hb.os, hb.tape, hb.output, hb.size, hb.block⟩).mono HB.out.size))
    clear hb
    go_wp2_with fail
    go_ret2
    exact ⟨by rw [HQ.out, if_pos hd]; rfl, HB2.out⟩
  · go_wp2_with fail
    refine (D.out _).mono ?_
    rintro e w1 ⟨rfl, hb⟩
    have HB2 := Lib.hid (HB.out.trans ((show Below u1.heap.size u1 w1 from ⟨hb.os, hb.tape, hb.output, hb.size, hb.block⟩).mono HB.out.size))
    clear hb
    go_wp2_with fail
    go_ret2
    exact ⟨by rw [HQ.out, if_neg (show ¬ 90000 < d by omega)]; rfl, HB2.out⟩
set_option maxRecDepth 100000 in
set_option maxHeartbeats 1000000 in
theorem l04Angles_x (x y z : Int) (h : inV 2000000 x y z) (cx : ¬ x = 0) (w : World) :
    Calls Tryz.prog 65 #[.agg #[.int .i64 x, .int .i64 y, .int .i64 z]] w fun e w' => e = .returned (.tuple #[.int .i64 (lonI x y), .int .i64 (latI x y z)]) ∧ Below w.heap.size w w' := by
  obtain ⟨⟨x0, x1⟩, ⟨y0, y1⟩, z0, z1⟩ := h
  have p1 := sq_bd x 2000000 x0 x1
  have p2 := sq_bd y 2000000 y0 y1
  have R := Lib.hid (fun w => l01RootI_any (x * x + y * y) w (by omega))
  have r0 := rootI_nonneg (x * x + y * y)
  have r1 := rootI_le (x * x + y * y) 4000000 (by omega) (by omega)
  have D := Lib.hid (fun w => l02Arc_any z (rootI (x * x + y * y)) (by omega) (by omega) (by omega) (by omega) w)
  have db := dirI_bd z (rootI (x * x + y * y))
  have m1 : IntKind.i64.wrap (x * x) = x * x := IntWalk.i64_in _ (by omega)
  have m2 : IntKind.i64.wrap (y * y) = y * y := IntWalk.i64_in _ (by omega)
  have m3 : IntKind.i64.wrap (x * x + y * y) = x * x + y * y := IntWalk.i64_in _ (by omega)
  have L := Lib.hid (fun w => l02Arc_any y x (by omega) (by omega) (by omega) (by omega) w)
  have elo : lonI x y = dirI y x := by unfold lonI; rw [if_neg (by omega)]
  rw [elo]
  generalize dirI y x = lo at *
  clear elo
  unfold latI
  obtain ⟨q, hq⟩ : ∃ q : Int, q = if 90000 < dirI z (rootI (x * x + y * y)) then dirI z (rootI (x * x + y * y)) - 360000 else dirI z (rootI (x * x + y * y)) := ⟨_, rfl⟩
  rw [← hq]
  have HQ := Lib.hid hq
  clear hq
  generalize dirI z (rootI (x * x + y * y)) = d at *
  generalize rootI (x * x + y * y) = r at *
  obtain ⟨W1, hW1⟩ : ∃ W1, W1 = w.alloc (.cells #[.int .i64 x, .int .i64 y, .int .i64 z] 90) := ⟨_, rfl⟩
  have HB1 : Below w.heap.size w W1 := by rw [hW1]; exact (Below.refl _ _).alloc (Nat.le_refl _) _
  have A : C3 W1 w.heap.size x y z := by rw [hW1]; exact C3.new _ _ _ _ _
  have HW := Lib.hid hW1
  clear hW1 p1 p2
  obtain ⟨b0, b1, b2, _, _, _⟩ := A
  have A := Lib.hid (show W1.cell? ⟨w.heap.size, 0, none⟩ = some (.int .i64 x) ∧ W1.cell? ⟨w.heap.size, 1, none⟩ = some (.int .i64 y) ∧ W1.cell? ⟨w.heap.size, 2, none⟩ = some (.int .i64 z) ∧ Below w.heap.size w W1 from ⟨b0, b1, b2, HB1⟩)
  clear HB1
  have hx : (x != 0) = true := by simp [cx]
  clear cx
  go_enter Tryz.func65, Tryz.ntmps65
  go_upto_region 2 with fail
  rw [← HW.out]
  clear HW
  go_wp2_with fail
  refine (L.out _).mono ?_
  rintro e u1 ⟨rfl, hb⟩
  have K := Lib.hid (keepV1 A.out hb)
  clear hb b0 b1 b2
  obtain ⟨a0, a1, a2, a3⟩ := K.out
  have HB := Lib.hid a3
  clear a3
  go_wp2_with fail
  refine wp_region_still_tail 14 (by kernel_rfl) (by kernel_rfl) ?_
  simp only [List.take_succ_cons, List.take_zero, List.drop_succ_cons, List.drop_zero]
  clear x0 x1 y0 y1 z0 z1
  repeat still_step
  still_call (quiet_w (R.out _))
  repeat still_step
  refine wpStill_nil ?_
  clear a0 a1 a2
  by_cases hd : 90000 < d
  · go_wp2_with fail
    refine (D.out _).mono ?_
    rintro e w1 ⟨rfl, hb⟩
    have HB2 := Lib.hid (HB.out.trans ((show Below u1.heap.size u1 w1 from ⟨hb.os, hb.tape, hb.output, hb.size, hb.block⟩).mono HB.out.size))
    clear hb
    go_wp2_with fail
    go_ret2
    exact ⟨by rw [HQ.out, if_pos hd]; rfl, HB2.out⟩
  · go_wp2_with fail
    refine (D.out _).mono ?_
    rintro e w1 ⟨rfl, hb⟩
    have HB2 := Lib.hid (HB.out.trans ((show Below u1.heap.size u1 w1 from ⟨hb.os, hb.tape, hb.output, hb.size, hb.block⟩).mono HB.out.size))
    clear hb
    go_wp2_with fail
    go_ret2
    exact ⟨by rw [HQ.out, if_neg (show ¬ 90000 < d by omega)]; rfl, HB2.out⟩
theorem l04Angles_any (x y z : Int) (h : inV 2000000 x y z) (w : World) :
    Calls Tryz.prog 65 #[.agg #[.int .i64 x, .int .i64 y, .int .i64 z]] w fun e w' => e = .returned (.tuple #[.int .i64 (lonI x y), .int .i64 (latI x y z)]) ∧ Below w.heap.size w w' := by
  by_cases cx : x = 0
  · by_cases cy : y = 0
    · exact l04Angles_00 x y z h cx cy w
    · exact l04Angles_0y x y z h cx cy w
  · exact l04Angles_x x y z h cx w

end Go.Proofs.YtoellkbmhpekdaaGreatDoor
