/-
  Turns around an axis in package spec: the contracts of l04Rotated, RotateAround.
-/
import Derived.Test.YtoellkbmhpekdaaDoorSinW
import Derived.Test.YtoellkbmhpekdaaDoorVecS
import Derived.StillTailTactics
namespace Go.Proofs.YtoellkbmhpekdaaDoor
open Go.RowKit
set_option linter.unusedVariables false

/-- The vector that a turn leads to, by the axis; s, c: the sine and the cosine. -/
def roX (ax x y z s c : Int) : Int := if ax = 1 then x else if ax = 2 then nearQ (x * c + z * s) 1000000 else nearQ (x * c - y * s) 1000000
def roY (ax x y z s c : Int) : Int := if ax = 1 then nearQ (y * c - z * s) 1000000 else if ax = 2 then y else nearQ (x * s + y * c) 1000000
def roZ (ax x y z s c : Int) : Int := if ax = 1 then nearQ (y * s + z * c) 1000000 else if ax = 2 then nearQ (z * c - x * s) 1000000 else z
def rotV (x y z ax a : Int) : Value := if okV x y z = true then (if inR 1 3 [ax] = true then doneV (roX ax x y z (sinI a) (cosI a)) (roY ax x y z (sinI a) (cosI a)) (roZ ax x y z (sinI a) (cosI a)) else .tuple #[.agg #[.int .i64 0, .int .i64 0, .int .i64 0], .int .i64 2]) else .tuple #[.agg #[.int .i64 0, .int .i64 0, .int .i64 0], .int .i64 1]
theorem rotV_form (x y z ax a : Int) : ∃ p q r d : Int, rotV x y z ax a = .tuple #[.agg #[.int .i64 p, .int .i64 q, .int .i64 r], .int .i64 d] := by
  unfold rotV
  split
  · split
    · exact doneV_form _ _ _
    · exact ⟨_, _, _, _, rfl⟩
  · exact ⟨_, _, _, _, rfl⟩
set_option maxRecDepth 100000 in
set_option maxHeartbeats 2000000 in
theorem l04Rot_1 (x y z a : Int) (h : inV 2000000 x y z) (a0 : -9223372036854775808 ≤ a) (a1 : a ≤ 9223372036854775807) (w : World) :
    Calls Tryd.prog 41 #[.agg #[.int .i64 x, .int .i64 y, .int .i64 z], .int .i64 1, .int .i64 a] w fun e w' => e = .returned (.agg #[.int .i64 (roX 1 x y z (sinI a) (cosI a)), .int .i64 (roY 1 x y z (sinI a) (cosI a)), .int .i64 (roZ 1 x y z (sinI a) (cosI a))]) ∧ Below w.heap.size w w' := by
  have SI := Lib.hid (fun w => l02Sine_any a a0 a1 w)
  have CO := Lib.hid (fun w => l02Cosine_any a a0 a1 w)
  have s01 := sinI_bd a
  have c01 := cosI_bd a
  generalize sinI a = s at *
  generalize cosI a = c at *
  have p0 := pr_bd y c 2000000 1000000 h.2.1.1 h.2.1.2 c01.1 c01.2
  have p1 := pr_bd z s 2000000 1000000 h.2.2.1 h.2.2.2 s01.1 s01.2
  have p2 := pr_bd y s 2000000 1000000 h.2.1.1 h.2.1.2 s01.1 s01.2
  have p3 := pr_bd z c 2000000 1000000 h.2.2.1 h.2.2.2 c01.1 c01.2
  have D1 := Lib.hid (fun w => l01Div_any (y * c - z * s) 1000000 w (by omega) (by omega) (by omega) (by omega) (by omega))
  have D2 := Lib.hid (fun w => l01Div_any (y * s + z * c) 1000000 w (by omega) (by omega) (by omega) (by omega) (by omega))
  have m0 : IntKind.i64.wrap (y * c) = y * c := IntWalk.i64_in _ (by omega)
  have m1 : IntKind.i64.wrap (z * s) = z * s := IntWalk.i64_in _ (by omega)
  have m2 : IntKind.i64.wrap (y * s) = y * s := IntWalk.i64_in _ (by omega)
  have m3 : IntKind.i64.wrap (z * c) = z * c := IntWalk.i64_in _ (by omega)
  have m4 : IntKind.i64.wrap (y * c - z * s) = y * c - z * s := IntWalk.i64_in _ (by omega)
  have m5 : IntKind.i64.wrap (y * s + z * c) = y * s + z * c := IntWalk.i64_in _ (by omega)
  have ex : roX 1 x y z s c = x := rfl
  have ey : roY 1 x y z s c = nearQ (y * c - z * s) 1000000 := rfl
  have ez : roZ 1 x y z s c = nearQ (y * s + z * c) 1000000 := rfl
  rw [ex, ey, ez]
  clear ex ey ez p0 p1 p2 p3 s01 c01 h
  generalize nearQ (y * c - z * s) 1000000 = P at *
  generalize nearQ (y * s + z * c) 1000000 = Q at *
  obtain ⟨W0, hW0⟩ : ∃ W0, W0 = (w.alloc (.cells #[.int .i64 x, .int .i64 y, .int .i64 z] 26)).alloc (.cells #[.int .i64 0, .int .i64 0, .int .i64 0] 26) := ⟨_, rfl⟩
  have A0 : C3 W0 w.heap.size x y z := by rw [hW0]; exact (C3.new _ _ _ _ _).alloc (by simp) _
  have R0 : C3 W0 (w.heap.size + 1) 0 0 0 := by rw [hW0]; simpa using C3.new (w.alloc (.cells #[.int .i64 x, .int .i64 y, .int .i64 z] 26)) 26 0 0 0
  have HB0 : Hid (Below w.heap.size w W0) := Lib.hid (by rw [hW0]; exact ((Below.refl _ _).alloc (Nat.le_refl _) _).alloc (by simp) _)
  have HW := Lib.hid hW0
  have HA0 := Lib.hid A0
  have HR0 := Lib.hid R0
  clear hW0 A0 R0
  go_enter Tryd.func41, Tryd.ntmps41
  go_wp2_with fail
  rw [← HW.out]
  clear HW
  refine (SI.out _).mono ?_
  rintro e w1 ⟨rfl, hb⟩
  have HA1 := Lib.hid (HA0.out.stays hb (World.block_lt_of_cell? W0 ⟨w.heap.size, 0, none⟩ HA0.out.c0))
  have HR1 := Lib.hid (HR0.out.stays hb (World.block_lt_of_cell? W0 ⟨w.heap.size + 1, 0, none⟩ HR0.out.c0))
  have HB1 := Lib.hid (HB0.out.trans (hb.mono HB0.out.size))
  clear hb HA0 HR0 HB0
  go_wp2_with fail
  refine (CO.out _).mono ?_
  rintro e w2 ⟨rfl, hb⟩
  have HA2 := HA1.out.stays hb (World.block_lt_of_cell? w1 ⟨w.heap.size, 0, none⟩ HA1.out.c0)
  have HR2 := HR1.out.stays hb (World.block_lt_of_cell? w1 ⟨w.heap.size + 1, 0, none⟩ HR1.out.c0)
  have HB2 := Lib.hid (HB1.out.trans (hb.mono HB1.out.size))
  clear hb HA1 HR1 HB1
  obtain ⟨k0, k1, k2, _, _, _⟩ := HA2
  obtain ⟨r0, r1, r2, r3, r4, r5⟩ := HR2
  go_wp2_with fail
  refine wp_region_still_tail 23 (by kernel_rfl) (by kernel_rfl) ?_
  simp only [List.take_succ_cons, List.take_zero, List.drop_succ_cons, List.drop_zero]
  repeat still_step
  still_call (quiet_w (D1.out _))
  repeat still_step
  still_call (quiet_w (D2.out _))
  repeat still_step
  refine wpStill_nil ?_
  clear k0 k1 k2 D1 D2 SI CO m0 m1 m2 m3 m4 m5
  go_wp2_with fail
  refine bodyPost_ret (v := .agg #[.int .i64 x, .int .i64 P, .int .i64 Q]) (by first | (simp [results, Tryd.results41, go_sem]; done) | (simp [results, Tryd.results41, go_sem, *]; done)) rfl ⟨rfl, ?_⟩
  repeat (first | exact Below.refl _ _ | exact HB2.out | refine Below.setCell ?_ (by first | (simp; done) | omega | (simp; omega)) _ | refine Below.alloc ?_ (by first | (simp; done) | omega | (simp; omega)) _ | refine bel_drew ?_)
set_option maxRecDepth 100000 in
set_option maxHeartbeats 2000000 in
theorem l04Rot_2 (x y z a : Int) (h : inV 2000000 x y z) (a0 : -9223372036854775808 ≤ a) (a1 : a ≤ 9223372036854775807) (w : World) :
    Calls Tryd.prog 41 #[.agg #[.int .i64 x, .int .i64 y, .int .i64 z], .int .i64 2, .int .i64 a] w fun e w' => e = .returned (.agg #[.int .i64 (roX 2 x y z (sinI a) (cosI a)), .int .i64 (roY 2 x y z (sinI a) (cosI a)), .int .i64 (roZ 2 x y z (sinI a) (cosI a))]) ∧ Below w.heap.size w w' := by
  have SI := Lib.hid (fun w => l02Sine_any a a0 a1 w)
  have CO := Lib.hid (fun w => l02Cosine_any a a0 a1 w)
  have s01 := sinI_bd a
  have c01 := cosI_bd a
  generalize sinI a = s at *
  generalize cosI a = c at *
  have p0 := pr_bd x c 2000000 1000000 h.1.1 h.1.2 c01.1 c01.2
  have p1 := pr_bd z s 2000000 1000000 h.2.2.1 h.2.2.2 s01.1 s01.2
  have p2 := pr_bd z c 2000000 1000000 h.2.2.1 h.2.2.2 c01.1 c01.2
  have p3 := pr_bd x s 2000000 1000000 h.1.1 h.1.2 s01.1 s01.2
  have D1 := Lib.hid (fun w => l01Div_any (x * c + z * s) 1000000 w (by omega) (by omega) (by omega) (by omega) (by omega))
  have D2 := Lib.hid (fun w => l01Div_any (z * c - x * s) 1000000 w (by omega) (by omega) (by omega) (by omega) (by omega))
  have m0 : IntKind.i64.wrap (x * c) = x * c := IntWalk.i64_in _ (by omega)
  have m1 : IntKind.i64.wrap (z * s) = z * s := IntWalk.i64_in _ (by omega)
  have m2 : IntKind.i64.wrap (z * c) = z * c := IntWalk.i64_in _ (by omega)
  have m3 : IntKind.i64.wrap (x * s) = x * s := IntWalk.i64_in _ (by omega)
  have m4 : IntKind.i64.wrap (x * c + z * s) = x * c + z * s := IntWalk.i64_in _ (by omega)
  have m5 : IntKind.i64.wrap (z * c - x * s) = z * c - x * s := IntWalk.i64_in _ (by omega)
  have ex : roX 2 x y z s c = nearQ (x * c + z * s) 1000000 := rfl
  have ey : roY 2 x y z s c = y := rfl
  have ez : roZ 2 x y z s c = nearQ (z * c - x * s) 1000000 := rfl
  rw [ex, ey, ez]
  clear ex ey ez p0 p1 p2 p3 s01 c01 h
  generalize nearQ (x * c + z * s) 1000000 = P at *
  generalize nearQ (z * c - x * s) 1000000 = Q at *
  obtain ⟨W0, hW0⟩ : ∃ W0, W0 = (w.alloc (.cells #[.int .i64 x, .int .i64 y, .int .i64 z] 26)).alloc (.cells #[.int .i64 0, .int .i64 0, .int .i64 0] 26) := ⟨_, rfl⟩
  have A0 : C3 W0 w.heap.size x y z := by rw [hW0]; exact (C3.new _ _ _ _ _).alloc (by simp) _
  have R0 : C3 W0 (w.heap.size + 1) 0 0 0 := by rw [hW0]; simpa using C3.new (w.alloc (.cells #[.int .i64 x, .int .i64 y, .int .i64 z] 26)) 26 0 0 0
  have HB0 : Hid (Below w.heap.size w W0) := Lib.hid (by rw [hW0]; exact ((Below.refl _ _).alloc (Nat.le_refl _) _).alloc (by simp) _)
  have HW := Lib.hid hW0
  have HA0 := Lib.hid A0
  have HR0 := Lib.hid R0
  clear hW0 A0 R0
  go_enter Tryd.func41, Tryd.ntmps41
  go_wp2_with fail
  rw [← HW.out]
  clear HW
  refine (SI.out _).mono ?_
  rintro e w1 ⟨rfl, hb⟩
  have HA1 := Lib.hid (HA0.out.stays hb (World.block_lt_of_cell? W0 ⟨w.heap.size, 0, none⟩ HA0.out.c0))
  have HR1 := Lib.hid (HR0.out.stays hb (World.block_lt_of_cell? W0 ⟨w.heap.size + 1, 0, none⟩ HR0.out.c0))
  have HB1 := Lib.hid (HB0.out.trans (hb.mono HB0.out.size))
  clear hb HA0 HR0 HB0
  go_wp2_with fail
  refine (CO.out _).mono ?_
  rintro e w2 ⟨rfl, hb⟩
  have HA2 := HA1.out.stays hb (World.block_lt_of_cell? w1 ⟨w.heap.size, 0, none⟩ HA1.out.c0)
  have HR2 := HR1.out.stays hb (World.block_lt_of_cell? w1 ⟨w.heap.size + 1, 0, none⟩ HR1.out.c0)
  have HB2 := Lib.hid (HB1.out.trans (hb.mono HB1.out.size))
  clear hb HA1 HR1 HB1
  obtain ⟨k0, k1, k2, _, _, _⟩ := HA2
  obtain ⟨r0, r1, r2, r3, r4, r5⟩ := HR2
  go_wp2_with fail
  refine wp_region_still_tail 23 (by kernel_rfl) (by kernel_rfl) ?_
  simp only [List.take_succ_cons, List.take_zero, List.drop_succ_cons, List.drop_zero]
  repeat still_step
  still_call (quiet_w (D1.out _))
  repeat still_step
  still_call (quiet_w (D2.out _))
  repeat still_step
  refine wpStill_nil ?_
  clear k0 k1 k2 D1 D2 SI CO m0 m1 m2 m3 m4 m5
  go_wp2_with fail
  refine bodyPost_ret (v := .agg #[.int .i64 P, .int .i64 y, .int .i64 Q]) (by first | (simp [results, Tryd.results41, go_sem]; done) | (simp [results, Tryd.results41, go_sem, *]; done)) rfl ⟨rfl, ?_⟩
  repeat (first | exact Below.refl _ _ | exact HB2.out | refine Below.setCell ?_ (by first | (simp; done) | omega | (simp; omega)) _ | refine Below.alloc ?_ (by first | (simp; done) | omega | (simp; omega)) _ | refine bel_drew ?_)
set_option maxRecDepth 100000 in
set_option maxHeartbeats 2000000 in
theorem l04Rot_3 (x y z a : Int) (h : inV 2000000 x y z) (a0 : -9223372036854775808 ≤ a) (a1 : a ≤ 9223372036854775807) (w : World) :
    Calls Tryd.prog 41 #[.agg #[.int .i64 x, .int .i64 y, .int .i64 z], .int .i64 3, .int .i64 a] w fun e w' => e = .returned (.agg #[.int .i64 (roX 3 x y z (sinI a) (cosI a)), .int .i64 (roY 3 x y z (sinI a) (cosI a)), .int .i64 (roZ 3 x y z (sinI a) (cosI a))]) ∧ Below w.heap.size w w' := by
  have SI := Lib.hid (fun w => l02Sine_any a a0 a1 w)
  have CO := Lib.hid (fun w => l02Cosine_any a a0 a1 w)
  have s01 := sinI_bd a
  have c01 := cosI_bd a
  generalize sinI a = s at *
  generalize cosI a = c at *
  have p0 := pr_bd x c 2000000 1000000 h.1.1 h.1.2 c01.1 c01.2
  have p1 := pr_bd y s 2000000 1000000 h.2.1.1 h.2.1.2 s01.1 s01.2
  have p2 := pr_bd x s 2000000 1000000 h.1.1 h.1.2 s01.1 s01.2
  have p3 := pr_bd y c 2000000 1000000 h.2.1.1 h.2.1.2 c01.1 c01.2
  have D1 := Lib.hid (fun w => l01Div_any (x * c - y * s) 1000000 w (by omega) (by omega) (by omega) (by omega) (by omega))
  have D2 := Lib.hid (fun w => l01Div_any (x * s + y * c) 1000000 w (by omega) (by omega) (by omega) (by omega) (by omega))
  have m0 : IntKind.i64.wrap (x * c) = x * c := IntWalk.i64_in _ (by omega)
  have m1 : IntKind.i64.wrap (y * s) = y * s := IntWalk.i64_in _ (by omega)
  have m2 : IntKind.i64.wrap (x * s) = x * s := IntWalk.i64_in _ (by omega)
  have m3 : IntKind.i64.wrap (y * c) = y * c := IntWalk.i64_in _ (by omega)
  have m4 : IntKind.i64.wrap (x * c - y * s) = x * c - y * s := IntWalk.i64_in _ (by omega)
  have m5 : IntKind.i64.wrap (x * s + y * c) = x * s + y * c := IntWalk.i64_in _ (by omega)
  have ex : roX 3 x y z s c = nearQ (x * c - y * s) 1000000 := rfl
  have ey : roY 3 x y z s c = nearQ (x * s + y * c) 1000000 := rfl
  have ez : roZ 3 x y z s c = z := rfl
  rw [ex, ey, ez]
  clear ex ey ez p0 p1 p2 p3 s01 c01 h
  generalize nearQ (x * c - y * s) 1000000 = P at *
  generalize nearQ (x * s + y * c) 1000000 = Q at *
  obtain ⟨W0, hW0⟩ : ∃ W0, W0 = (w.alloc (.cells #[.int .i64 x, .int .i64 y, .int .i64 z] 26)).alloc (.cells #[.int .i64 0, .int .i64 0, .int .i64 0] 26) := ⟨_, rfl⟩
  have A0 : C3 W0 w.heap.size x y z := by rw [hW0]; exact (C3.new _ _ _ _ _).alloc (by simp) _
  have R0 : C3 W0 (w.heap.size + 1) 0 0 0 := by rw [hW0]; simpa using C3.new (w.alloc (.cells #[.int .i64 x, .int .i64 y, .int .i64 z] 26)) 26 0 0 0
  have HB0 : Hid (Below w.heap.size w W0) := Lib.hid (by rw [hW0]; exact ((Below.refl _ _).alloc (Nat.le_refl _) _).alloc (by simp) _)
  have HW := Lib.hid hW0
  have HA0 := Lib.hid A0
  have HR0 := Lib.hid R0
  clear hW0 A0 R0
  go_enter Tryd.func41, Tryd.ntmps41
  go_wp2_with fail
  rw [← HW.out]
  clear HW
  refine (SI.out _).mono ?_
  rintro e w1 ⟨rfl, hb⟩
  have HA1 := Lib.hid (HA0.out.stays hb (World.block_lt_of_cell? W0 ⟨w.heap.size, 0, none⟩ HA0.out.c0))
  have HR1 := Lib.hid (HR0.out.stays hb (World.block_lt_of_cell? W0 ⟨w.heap.size + 1, 0, none⟩ HR0.out.c0))
  have HB1 := Lib.hid (HB0.out.trans (hb.mono HB0.out.size))
  clear hb HA0 HR0 HB0
  go_wp2_with fail
  refine (CO.out _).mono ?_
  rintro e w2 ⟨rfl, hb⟩
  have HA2 := HA1.out.stays hb (World.block_lt_of_cell? w1 ⟨w.heap.size, 0, none⟩ HA1.out.c0)
  have HR2 := HR1.out.stays hb (World.block_lt_of_cell? w1 ⟨w.heap.size + 1, 0, none⟩ HR1.out.c0)
  have HB2 := Lib.hid (HB1.out.trans (hb.mono HB1.out.size))
  clear hb HA1 HR1 HB1
  obtain ⟨k0, k1, k2, _, _, _⟩ := HA2
  obtain ⟨r0, r1, r2, r3, r4, r5⟩ := HR2
  go_wp2_with fail
  refine wp_region_still_tail 23 (by kernel_rfl) (by kernel_rfl) ?_
  simp only [List.take_succ_cons, List.take_zero, List.drop_succ_cons, List.drop_zero]
  repeat still_step
  still_call (quiet_w (D1.out _))
  repeat still_step
  still_call (quiet_w (D2.out _))
  repeat still_step
  refine wpStill_nil ?_
  clear k0 k1 k2 D1 D2 SI CO m0 m1 m2 m3 m4 m5
  go_wp2_with fail
  refine bodyPost_ret (v := .agg #[.int .i64 P, .int .i64 Q, .int .i64 z]) (by first | (simp [results, Tryd.results41, go_sem]; done) | (simp [results, Tryd.results41, go_sem, *]; done)) rfl ⟨rfl, ?_⟩
  repeat (first | exact Below.refl _ _ | exact HB2.out | refine Below.setCell ?_ (by first | (simp; done) | omega | (simp; omega)) _ | refine Below.alloc ?_ (by first | (simp; done) | omega | (simp; omega)) _ | refine bel_drew ?_)
theorem l04Rotated_any (x y z ax a : Int) (h : inV 2000000 x y z) (hax : ax = 1 ∨ ax = 2 ∨ ax = 3) (a0 : -9223372036854775808 ≤ a) (a1 : a ≤ 9223372036854775807) (w : World) :
    Calls Tryd.prog 41 #[.agg #[.int .i64 x, .int .i64 y, .int .i64 z], .int .i64 ax, .int .i64 a] w fun e w' => e = .returned (.agg #[.int .i64 (roX ax x y z (sinI a) (cosI a)), .int .i64 (roY ax x y z (sinI a) (cosI a)), .int .i64 (roZ ax x y z (sinI a) (cosI a))]) ∧ Below w.heap.size w w' := by
  rcases hax with rfl | rfl | rfl
  · exact l04Rot_1 x y z a h a0 a1 w
  · exact l04Rot_2 x y z a h a0 a1 w
  · exact l04Rot_3 x y z a h a0 a1 w

end Go.Proofs.YtoellkbmhpekdaaDoor
