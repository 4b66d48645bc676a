/-
  Vectors of the length 1 in package spec: the contracts of l04Normal, NormalVector.
-/
import Derived.Test.YtoellkbmhpekdaaVecN7
namespace Go.Proofs.Ytoellkbmhpekdaa
open Go.RowKit
set_option linter.unusedVariables false

set_option maxRecDepth 100000 in
set_option maxHeartbeats 2000000 in
theorem l04Normal_any (x y z : Int) (h : inV 10000000 x y z) (w : World) :
    Calls Try.prog 42 #[.agg #[.int .i64 x, .int .i64 y, .int .i64 z]] w fun e w' => e = .returned (if len3 x y z = 0 then .tuple #[.agg #[.int .i64 0, .int .i64 0, .int .i64 0], .bool false] else .tuple #[.agg #[.int .i64 (nvI x (len3 x y z)), .int .i64 (nvI y (len3 x y z)), .int .i64 (nvI z (len3 x y z))], .bool true]) ∧ Below w.heap.size w w' := by
  have L := Lib.hid (fun w => l04Length_any x y z h w)
  obtain ⟨⟨x0, x1⟩, ⟨y0, y1⟩, z0, z1⟩ := h
  have lb := len3_bd x y z 10000000 (by omega) x0 x1 y0 y1 z0 z1
  by_cases hl : len3 x y z = 0
  · rw [if_pos hl]
    rw [hl] at L
    clear lb hl
    go_enter Try.func42, Try.ntmps42
    go_wp2_with fail
    refine (L.out _).mono ?_
    rintro e w1 ⟨rfl, hb⟩
    have hsw1 := hb.size
    try simp at hsw1
    obtain ⟨hcw1, hfw1⟩ := bcell hb
    have HBw1 : Hid (Below w.heap.size w w1) := by
      apply Lib.hid
      refine Below.trans ?_ (hb.mono ?_)
      · repeat (first | exact Below.refl _ _ | refine Below.setCell ?_ (by first | (simp; done) | omega | (simp; omega)) _ | refine Below.alloc ?_ (by first | (simp; done) | omega | (simp; omega)) _)
      · first | (simp; done) | omega | (simp; omega)
    have hzw1 : w.heap.size + 1 < w1.heap.size := by have := hb.size; (try simp at this); omega
    have hyw1 : w.heap.size < w1.heap.size := by have := hb.size; (try simp at this); omega
    clear hb
    go_wp2_with fail
    refine bodyPost_ret (v := .tuple #[.agg #[.int .i64 0, .int .i64 0, .int .i64 0], .bool false]) (by first | (simp [results, Try.results42, go_sem]; done) | (simp [results, Try.results42, go_sem, *]; done)) rfl ⟨rfl, ?_⟩
    repeat (first | exact Below.refl _ _ | exact HBw1.out | refine Below.setCell ?_ (by first | (simp; done) | omega | (simp; omega)) _ | refine Below.alloc ?_ (by first | (simp; done) | omega | (simp; omega)) _ | refine bel_drew ?_)
  · rw [if_neg hl]
    have D1 := Lib.hid (fun w => l01Div_any (x * 1000000) (len3 x y z) w (by omega) (by omega) (by omega) (by omega) hl)
    have D2 := Lib.hid (fun w => l01Div_any (y * 1000000) (len3 x y z) w (by omega) (by omega) (by omega) (by omega) hl)
    have D3 := Lib.hid (fun w => l01Div_any (z * 1000000) (len3 x y z) w (by omega) (by omega) (by omega) (by omega) hl)
    unfold nvI
    generalize nearQ (x * 1000000) (len3 x y z) = p at *
    generalize nearQ (y * 1000000) (len3 x y z) = q at *
    generalize nearQ (z * 1000000) (len3 x y z) = t at *
    generalize len3 x y z = l at *
    have hl' : (l == 0) = false := by simpa using hl
    have m1 : IntKind.i64.wrap (x * 1000000) = x * 1000000 := IntWalk.i64_in _ (by omega)
    have m2 : IntKind.i64.wrap (y * 1000000) = y * 1000000 := IntWalk.i64_in _ (by omega)
    have m3 : IntKind.i64.wrap (z * 1000000) = z * 1000000 := IntWalk.i64_in _ (by omega)
    clear hl lb
    obtain ⟨W0, hW0⟩ : ∃ W0, W0 = (w.alloc (.cells #[.int .i64 x, .int .i64 y, .int .i64 z] 47)).alloc (.cells #[.int .i64 0, .int .i64 0, .int .i64 0] 47) := ⟨_, rfl⟩
    have A0 : C3 W0 w.heap.size x y z := by rw [hW0]; exact (C3.new _ _ _ _ _).alloc (by simp) _
    have R0 : C3 W0 (w.heap.size + 1) 0 0 0 := by rw [hW0]; simpa using C3.new (w.alloc (.cells #[.int .i64 x, .int .i64 y, .int .i64 z] 47)) 47 0 0 0
    have HB0 : Hid (Below w.heap.size w W0) := Lib.hid (by rw [hW0]; exact ((Below.refl _ _).alloc (Nat.le_refl _) _).alloc (by simp) _)
    have HW := Lib.hid hW0
    clear hW0
    have HA0 := Lib.hid A0
    have HR0 := Lib.hid R0
    clear R0
    obtain ⟨a0, a1, a2, _, _, _⟩ := A0
    go_enter Try.func42, Try.ntmps42
    go_wp2_with fail
    rw [← HW.out]
    clear HW
    refine (L.out _).mono ?_
    rintro e w1 ⟨rfl, hb⟩
    have HA1 := HA0.out.stays hb (World.block_lt_of_cell? W0 ⟨w.heap.size, 0, none⟩ HA0.out.c0)
    have HR1 := HR0.out.stays hb (World.block_lt_of_cell? W0 ⟨w.heap.size + 1, 0, none⟩ HR0.out.c0)
    have HB1 := Lib.hid (HB0.out.trans (hb.mono HB0.out.size))
    clear hb HA0 HR0 HB0 a0 a1 a2
    obtain ⟨a0, a1, a2, _, _, _⟩ := HA1
    obtain ⟨r0, r1, r2, r3, r4, r5⟩ := HR1
    go_wp2_with fail
    refine wp_region_still_tail 16 (by kernel_rfl) (by kernel_rfl) ?_
    simp only [List.take_succ_cons, List.take_zero, List.drop_succ_cons, List.drop_zero]
    clear x0 x1 y0 y1 z0 z1
    repeat still_step
    still_call (quiet_w (D1.out _))
    repeat still_step
    still_call (quiet_w (D2.out _))
    repeat still_step
    still_call (quiet_w (D3.out _))
    repeat still_step
    refine wpStill_nil ?_
    clear a0 a1 a2 D1 D2 D3 L m1 m2 m3
    go_wp2_with fail
    refine bodyPost_ret (v := .tuple #[.agg #[.int .i64 p, .int .i64 q, .int .i64 t], .bool true]) (by first | (simp [results, Try.results42, go_sem]; done) | (simp [results, Try.results42, go_sem, *]; done)) rfl ⟨rfl, ?_⟩
    repeat (first | exact Below.refl _ _ | exact HB1.out | refine Below.setCell ?_ (by first | (simp; done) | omega | (simp; omega)) _ | refine Below.alloc ?_ (by first | (simp; done) | omega | (simp; omega)) _ | refine bel_drew ?_)

end Go.Proofs.Ytoellkbmhpekdaa
