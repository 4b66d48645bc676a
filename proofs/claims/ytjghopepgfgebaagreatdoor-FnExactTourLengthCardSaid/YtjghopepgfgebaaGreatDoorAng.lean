/-
  The angles of a vector: the contracts of longitude, latitude, AnglesOf (package impl).
-/
import Derived.Test.YtjghopepgfgebaaGreatDoorArct
import Derived.Test.YtjghopepgfgebaaGreatDoorVecS
import Derived.Deep.RegionHeld3
namespace Go.Proofs.YtjghopepgfgebaaGreatDoor
open Go.RowKit
set_option linter.unusedVariables false

def lonI (x y : Int) : Int := if x = 0 ∧ y = 0 then 0 else dirI y x
def latI (x y z : Int) : Int := if 90000 < dirI z (rootI (x * x + y * y)) then dirI z (rootI (x * x + y * y)) - 360000 else dirI z (rootI (x * x + y * y))

set_option maxRecDepth 100000 in
set_option maxHeartbeats 1000000 in
theorem latitude_any (x y z : Int) (h : inV 2000000 x y z) (w : World) (hs : SinesOK w) :
    Calls Tryz.prog 57 #[.agg #[.int .i64 x, .int .i64 y, .int .i64 z]] w fun e w' => e = .returned (.int .i64 (latI x y z)) ∧ Below w.heap.size w w' := by
  obtain ⟨⟨x0, x1⟩, ⟨y0, y1⟩, z0, z1⟩ := h
  unfold latI
  have p1 := sq_bd x 2000000 x0 x1
  have p2 := sq_bd y 2000000 y0 y1
  have R := Lib.hid (fun w => implRootI_any (x * x + y * y) w (by omega))
  have r0 := rootI_nonneg (x * x + y * y)
  have r1 := rootI_le (x * x + y * y) 4000000 (by omega) (by omega)
  have D := Lib.hid (fun w hs => dirA_any z (rootI (x * x + y * y)) (by omega) (by omega) (by omega) (by omega) w hs)
  have db := dirI_bd z (rootI (x * x + y * y))
  have m1 : IntKind.i64.wrap (x * x) = x * x := IntWalk.i64_in _ (by omega)
  have m2 : IntKind.i64.wrap (y * y) = y * y := IntWalk.i64_in _ (by omega)
  have m3 : IntKind.i64.wrap (x * x + y * y) = x * x + y * y := IntWalk.i64_in _ (by omega)
  obtain ⟨q, hq⟩ : ∃ q : Int, q = if 90000 < dirI z (rootI (x * x + y * y)) then dirI z (rootI (x * x + y * y)) - 360000 else dirI z (rootI (x * x + y * y)) := ⟨_, rfl⟩
  rw [← hq]
  have HQ := Lib.hid hq
  clear hq
  generalize dirI z (rootI (x * x + y * y)) = d at *
  generalize rootI (x * x + y * y) = r at *
  obtain ⟨W1, hW1⟩ : ∃ W1, W1 = w.alloc (.cells #[.int .i64 x, .int .i64 y, .int .i64 z] 71) := ⟨_, rfl⟩
  have HB1 : Below w.heap.size w W1 := by rw [hW1]; exact (Below.refl _ _).alloc (Nat.le_refl _) _
  have A : C3 W1 w.heap.size x y z := by rw [hW1]; exact C3.new _ _ _ _ _
  have HS := Lib.hid ((hs.below HB1).below (w' := W1.drew) ⟨rfl, rfl, rfl, Nat.le_refl _, fun _ _ => rfl⟩)
  have HB := Lib.hid HB1
  have HW := Lib.hid hW1
  clear hs hW1 HB1 p1 p2
  obtain ⟨a0, a1, a2, _, _, _⟩ := A
  go_enter Tryz.func57, Tryz.ntmps57
  go_wp2_with fail
  rw [← HW.out]
  refine wp_region_still_tail 14 (by kernel_rfl) (by kernel_rfl) ?_
  simp only [List.take_succ_cons, List.take_zero, List.drop_succ_cons, List.drop_zero]
  repeat still_step
  still_call (quiet_w (R.out _))
  repeat still_step
  refine wpStill_nil ?_
  clear a0 a1 a2
  by_cases hd : 90000 < d
  · go_wp2_with fail
    refine (D.out _ HS.out).mono ?_
    rintro e w1 ⟨rfl, hb⟩
    have HB2 := Lib.hid (HB.out.trans ((show Below W1.heap.size W1 w1 from ⟨hb.os, hb.tape, hb.output, hb.size, hb.block⟩).mono HB.out.size))
    clear hb
    go_wp2_with fail
    go_ret
    exact ⟨ret_int (by rw [HQ.out, if_pos hd]), HB2.out⟩
  · go_wp2_with fail
    refine (D.out _ HS.out).mono ?_
    rintro e w1 ⟨rfl, hb⟩
    have HB2 := Lib.hid (HB.out.trans ((show Below W1.heap.size W1 w1 from ⟨hb.os, hb.tape, hb.output, hb.size, hb.block⟩).mono HB.out.size))
    clear hb
    go_wp2_with fail
    go_ret
    exact ⟨ret_int (by rw [HQ.out, if_neg (show ¬ 90000 < d by omega)]), HB2.out⟩

def angV (x y z : Int) : Value := if okV x y z = true then (if x = 0 ∧ y = 0 ∧ z = 0 then .tuple #[.int .i64 0, .int .i64 0, .int .i64 6] else .tuple #[.int .i64 (lonI x y), .int .i64 (latI x y z), .int .i64 0]) else .tuple #[.int .i64 0, .int .i64 0, .int .i64 1]
theorem angV_form (x y z : Int) : ∃ a b c : Int, angV x y z = .tuple #[.int .i64 a, .int .i64 b, .int .i64 c] := by
  unfold angV
  split
  · split <;> exact ⟨_, _, _, rfl⟩
  · exact ⟨_, _, _, rfl⟩
theorem keepV1 {w W W' : World} {g : Nat} {x y z : Int} (h : W.cell? ⟨g, 0, none⟩ = some (.int .i64 x) ∧ W.cell? ⟨g, 1, none⟩ = some (.int .i64 y) ∧ W.cell? ⟨g, 2, none⟩ = some (.int .i64 z) ∧ Below w.heap.size w W) (hb : Below W.heap.size W W') :
    W'.cell? ⟨g, 0, none⟩ = some (.int .i64 x) ∧ W'.cell? ⟨g, 1, none⟩ = some (.int .i64 y) ∧ W'.cell? ⟨g, 2, none⟩ = some (.int .i64 z) ∧ Below w.heap.size w W' := by
  have hg := World.block_lt_of_cell? W ⟨g, 0, none⟩ h.1
  obtain ⟨k1, _⟩ := bcell hb
  exact ⟨(k1 _ _ hg).trans h.1, (k1 _ _ hg).trans h.2.1, (k1 _ _ hg).trans h.2.2.1, h.2.2.2.trans (hb.mono h.2.2.2.size)⟩
theorem undrewV {W u : World} (h : Below W.drew.heap.size W.drew u) : Below W.heap.size W u := ⟨h.os, h.tape, h.output, h.size, h.block⟩

end Go.Proofs.YtjghopepgfgebaaGreatDoor
