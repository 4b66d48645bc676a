/-
  Turns around an axis: the contracts of turn.of, aroundX, aroundY, aroundZ (package impl).
-/
import Derived.Test.YtoellkbmhpekdaaDoorSinW
import Derived.Test.YtoellkbmhpekdaaDoorVecS
import Derived.Test.YtoellkbmhpekdaaDoorAng
import Derived.Deep.RegionHeld3
namespace Go.Proofs.YtoellkbmhpekdaaDoor
open Go.RowKit
set_option linter.unusedVariables false

theorem keepT {w W W' : World} {g : Nat} {x y : Int} (h : W.cell? ⟨g, 0, none⟩ = some (.int .i64 x) ∧ W.cell? ⟨g, 1, none⟩ = some (.int .i64 y) ∧ Below w.heap.size w W) (hb : Below W.heap.size W W') :
    W'.cell? ⟨g, 0, none⟩ = some (.int .i64 x) ∧ W'.cell? ⟨g, 1, none⟩ = some (.int .i64 y) ∧ Below w.heap.size w W' := by
  have hg := World.block_lt_of_cell? W ⟨g, 0, none⟩ h.1
  obtain ⟨k1, _⟩ := bcell hb
  exact ⟨(k1 _ _ hg).trans h.1, (k1 _ _ hg).trans h.2.1, h.2.2.trans (hb.mono h.2.2.size)⟩

set_option maxHeartbeats 1000000 in
theorem of_any (s c f g : Int) (s0 : -1000000 ≤ s ∧ s ≤ 1000000) (c0 : -1000000 ≤ c ∧ c ≤ 1000000) (f0 : -2000000 ≤ f ∧ f ≤ 2000000) (g0 : -2000000 ≤ g ∧ g ≤ 2000000) (w : World) :
    Calls Tryd.prog 150 #[.agg #[.int .i64 s, .int .i64 c], .int .i64 f, .int .i64 g] w fun e w' => e = .returned (.tuple #[.int .i64 (nearQ (f * c - g * s) 1000000), .int .i64 (nearQ (f * s + g * c) 1000000)]) ∧ Below w.heap.size w w' := by
  have p1 := pr_bd f c 2000000 1000000 f0.1 f0.2 c0.1 c0.2
  have p2 := pr_bd g s 2000000 1000000 g0.1 g0.2 s0.1 s0.2
  have p3 := pr_bd f s 2000000 1000000 f0.1 f0.2 s0.1 s0.2
  have p4 := pr_bd g c 2000000 1000000 g0.1 g0.2 c0.1 c0.2
  have N1 := Lib.hid (fun w => nearest_any (f * c - g * s) 1000000 w (by omega) (by omega) (by omega) (by omega))
  have N2 := Lib.hid (fun w => nearest_any (f * s + g * c) 1000000 w (by omega) (by omega) (by omega) (by omega))
  have m1 : IntKind.i64.wrap (f * c) = f * c := IntWalk.i64_in _ (by omega)
  have m2 : IntKind.i64.wrap (g * s) = g * s := IntWalk.i64_in _ (by omega)
  have m3 : IntKind.i64.wrap (f * s) = f * s := IntWalk.i64_in _ (by omega)
  have m4 : IntKind.i64.wrap (g * c) = g * c := IntWalk.i64_in _ (by omega)
  have m5 : IntKind.i64.wrap (f * c - g * s) = f * c - g * s := IntWalk.i64_in _ (by omega)
  have m6 : IntKind.i64.wrap (f * s + g * c) = f * s + g * c := IntWalk.i64_in _ (by omega)
  generalize nearQ (f * c - g * s) 1000000 = p at *
  generalize nearQ (f * s + g * c) 1000000 = q at *
  clear p1 p2 p3 p4 s0 c0 f0 g0
  obtain ⟨W1, hW1⟩ : ∃ W1, W1 = w.alloc (.cells #[.int .i64 s, .int .i64 c] 115) := ⟨_, rfl⟩
  have K : Hid (W1.cell? ⟨w.heap.size, 0, none⟩ = some (.int .i64 s) ∧ W1.cell? ⟨w.heap.size, 1, none⟩ = some (.int .i64 c) ∧ Below w.heap.size w W1) := Lib.hid (by rw [hW1]; exact ⟨by simp, by simp, (Below.refl _ _).alloc (Nat.le_refl _) _⟩)
  have HW := Lib.hid hW1
  clear hW1
  obtain ⟨k0, k1, _⟩ := K.out
  go_enter Tryd.func150, Tryd.ntmps150
  go_wp2_with fail
  rw [← HW.out]
  clear HW
  go_region_held3 (fun w' => w'.cell? ⟨w.heap.size, 0, none⟩ = some (.int .i64 s) ∧ w'.cell? ⟨w.heap.size, 1, none⟩ = some (.int .i64 c) ∧ Below w.heap.size w w') (first | (exact keepT K.out (bel_drew (Below.refl _ _))) | (exact keepT K.out y2) | (exact keepT K.out y1) | go_keep) ((first
    | (go_at_call 128; (first
      | ((with_reducible refine (N1.out _).mono ?_); rintro e x1 ⟨rfl, hx1⟩; have y1 := undrewV hx1)
      | ((with_reducible refine (N2.out _).mono ?_); rintro e x2 ⟨rfl, hx2⟩; have y2 := y1.trans (hx2.mono y1.size))))))
  rename_i held
  have HB := Lib.hid held.2.2
  clear held
  go_wp2_with fail
  go_ret2
  exact ⟨rfl, HB.out⟩

set_option maxHeartbeats 1000000 in
theorem aroundX_any (s c x y z : Int) (s0 : -1000000 ≤ s ∧ s ≤ 1000000) (c0 : -1000000 ≤ c ∧ c ≤ 1000000) (h : inV 2000000 x y z) (w : World) :
    Calls Tryd.prog 134 #[.agg #[.int .i64 x, .int .i64 y, .int .i64 z], .agg #[.int .i64 s, .int .i64 c]] w fun e w' => e = .returned (.agg #[.int .i64 x, .int .i64 (nearQ (y * c - z * s) 1000000), .int .i64 (nearQ (y * s + z * c) 1000000)]) ∧ Below w.heap.size w w' := by
  have O := Lib.hid (fun w => of_any s c y z s0 c0 h.2.1 h.2.2 w)
  generalize nearQ (y * c - z * s) 1000000 = p at *
  generalize nearQ (y * s + z * c) 1000000 = q at *
  clear h
  go_enter Tryd.func134, Tryd.ntmps134
  go_wp2_with fail
  refine (O.out _).mono ?_
  rintro e w1 ⟨rfl, hb⟩
  have A1 := (((C3.new w 26 x y z).alloc (by simp) (.cells #[.int .i64 s, .int .i64 c] 115)).alloc (by simp; omega) (.cells #[.int .i64 0, .int .i64 0, .int .i64 0] 26)).stays hb (by simp; omega)
  have R1 := (by simpa using C3.new ((w.alloc (.cells #[.int .i64 x, .int .i64 y, .int .i64 z] 26)).alloc (.cells #[.int .i64 s, .int .i64 c] 115)) 26 0 0 0 : C3 _ (w.heap.size + 1 + 1) 0 0 0).stays hb (by simp)
  have HB1 : Hid (Below w.heap.size w w1) := Lib.hid (Below.trans (by repeat (first | exact Below.refl _ _ | refine Below.alloc ?_ (by first | (simp; done) | omega | (simp; omega)) _)) (hb.mono (by simp; omega)))
  have hsz := hb.size
  simp at hsz
  clear hb
  have B1 := A1.set1 p
  have B2 := B1.set2 q
  have R2 : C3 ((w1.setCell ⟨w.heap.size, 1, none⟩ (.int .i64 p)).setCell ⟨w.heap.size, 2, none⟩ (.int .i64 q)) (w.heap.size + 1 + 1) 0 0 0 := (R1.other (by omega)).other (by omega)
  clear R1
  obtain ⟨a0, a1, a2, a3, a4, a5⟩ := A1
  obtain ⟨b0, b1, b2, b3, b4, b5⟩ := B1
  obtain ⟨c0', c1', c2', c3', c4', c5'⟩ := B2
  obtain ⟨r0, r1, r2, r3, r4, r5⟩ := R2
  go_wp2_with fail
  refine bodyPost_ret (v := .agg #[.int .i64 x, .int .i64 p, .int .i64 q]) (by first | (simp [results, Tryd.results134, go_sem]; done) | (simp [results, Tryd.results134, go_sem, *]; done)) rfl ⟨rfl, ?_⟩
  repeat (first | exact Below.refl _ _ | exact HB1.out | refine Below.setCell ?_ (by first | (simp; done) | omega | (simp; omega)) _ | refine Below.alloc ?_ (by first | (simp; done) | omega | (simp; omega)) _ | refine bel_drew ?_)
set_option maxHeartbeats 1000000 in
theorem aroundY_any (s c x y z : Int) (s0 : -1000000 ≤ s ∧ s ≤ 1000000) (c0 : -1000000 ≤ c ∧ c ≤ 1000000) (h : inV 2000000 x y z) (w : World) :
    Calls Tryd.prog 135 #[.agg #[.int .i64 x, .int .i64 y, .int .i64 z], .agg #[.int .i64 s, .int .i64 c]] w fun e w' => e = .returned (.agg #[.int .i64 (nearQ (z * s + x * c) 1000000), .int .i64 y, .int .i64 (nearQ (z * c - x * s) 1000000)]) ∧ Below w.heap.size w w' := by
  have O := Lib.hid (fun w => of_any s c z x s0 c0 h.2.2 h.1 w)
  generalize nearQ (z * c - x * s) 1000000 = p at *
  generalize nearQ (z * s + x * c) 1000000 = q at *
  clear h
  go_enter Tryd.func135, Tryd.ntmps135
  go_wp2_with fail
  refine (O.out _).mono ?_
  rintro e w1 ⟨rfl, hb⟩
  have A1 := (((C3.new w 26 x y z).alloc (by simp) (.cells #[.int .i64 s, .int .i64 c] 115)).alloc (by simp; omega) (.cells #[.int .i64 0, .int .i64 0, .int .i64 0] 26)).stays hb (by simp; omega)
  have R1 := (by simpa using C3.new ((w.alloc (.cells #[.int .i64 x, .int .i64 y, .int .i64 z] 26)).alloc (.cells #[.int .i64 s, .int .i64 c] 115)) 26 0 0 0 : C3 _ (w.heap.size + 1 + 1) 0 0 0).stays hb (by simp)
  have HB1 : Hid (Below w.heap.size w w1) := Lib.hid (Below.trans (by repeat (first | exact Below.refl _ _ | refine Below.alloc ?_ (by first | (simp; done) | omega | (simp; omega)) _)) (hb.mono (by simp; omega)))
  have hsz := hb.size
  simp at hsz
  clear hb
  have B1 := A1.set2 p
  have B2 := B1.set0 q
  have R2 : C3 ((w1.setCell ⟨w.heap.size, 2, none⟩ (.int .i64 p)).setCell ⟨w.heap.size, 0, none⟩ (.int .i64 q)) (w.heap.size + 1 + 1) 0 0 0 := (R1.other (by omega)).other (by omega)
  clear R1
  obtain ⟨a0, a1, a2, a3, a4, a5⟩ := A1
  obtain ⟨b0, b1, b2, b3, b4, b5⟩ := B1
  obtain ⟨c0', c1', c2', c3', c4', c5'⟩ := B2
  obtain ⟨r0, r1, r2, r3, r4, r5⟩ := R2
  go_wp2_with fail
  refine bodyPost_ret (v := .agg #[.int .i64 q, .int .i64 y, .int .i64 p]) (by first | (simp [results, Tryd.results135, go_sem]; done) | (simp [results, Tryd.results135, go_sem, *]; done)) rfl ⟨rfl, ?_⟩
  repeat (first | exact Below.refl _ _ | exact HB1.out | refine Below.setCell ?_ (by first | (simp; done) | omega | (simp; omega)) _ | refine Below.alloc ?_ (by first | (simp; done) | omega | (simp; omega)) _ | refine bel_drew ?_)
set_option maxHeartbeats 1000000 in
theorem aroundZ_any (s c x y z : Int) (s0 : -1000000 ≤ s ∧ s ≤ 1000000) (c0 : -1000000 ≤ c ∧ c ≤ 1000000) (h : inV 2000000 x y z) (w : World) :
    Calls Tryd.prog 136 #[.agg #[.int .i64 x, .int .i64 y, .int .i64 z], .agg #[.int .i64 s, .int .i64 c]] w fun e w' => e = .returned (.agg #[.int .i64 (nearQ (x * c - y * s) 1000000), .int .i64 (nearQ (x * s + y * c) 1000000), .int .i64 z]) ∧ Below w.heap.size w w' := by
  have O := Lib.hid (fun w => of_any s c x y s0 c0 h.1 h.2.1 w)
  generalize nearQ (x * c - y * s) 1000000 = p at *
  generalize nearQ (x * s + y * c) 1000000 = q at *
  clear h
  go_enter Tryd.func136, Tryd.ntmps136
  go_wp2_with fail
  refine (O.out _).mono ?_
  rintro e w1 ⟨rfl, hb⟩
  have A1 := (((C3.new w 26 x y z).alloc (by simp) (.cells #[.int .i64 s, .int .i64 c] 115)).alloc (by simp; omega) (.cells #[.int .i64 0, .int .i64 0, .int .i64 0] 26)).stays hb (by simp; omega)
  have R1 := (by simpa using C3.new ((w.alloc (.cells #[.int .i64 x, .int .i64 y, .int .i64 z] 26)).alloc (.cells #[.int .i64 s, .int .i64 c] 115)) 26 0 0 0 : C3 _ (w.heap.size + 1 + 1) 0 0 0).stays hb (by simp)
  have HB1 : Hid (Below w.heap.size w w1) := Lib.hid (Below.trans (by repeat (first | exact Below.refl _ _ | refine Below.alloc ?_ (by first | (simp; done) | omega | (simp; omega)) _)) (hb.mono (by simp; omega)))
  have hsz := hb.size
  simp at hsz
  clear hb
  have B1 := A1.set0 p
  have B2 := B1.set1 q
  have R2 : C3 ((w1.setCell ⟨w.heap.size, 0, none⟩ (.int .i64 p)).setCell ⟨w.heap.size, 1, none⟩ (.int .i64 q)) (w.heap.size + 1 + 1) 0 0 0 := (R1.other (by omega)).other (by omega)
  clear R1
  obtain ⟨a0, a1, a2, a3, a4, a5⟩ := A1
  obtain ⟨b0, b1, b2, b3, b4, b5⟩ := B1
  obtain ⟨c0', c1', c2', c3', c4', c5'⟩ := B2
  obtain ⟨r0, r1, r2, r3, r4, r5⟩ := R2
  go_wp2_with fail
  refine bodyPost_ret (v := .agg #[.int .i64 p, .int .i64 q, .int .i64 z]) (by first | (simp [results, Tryd.results136, go_sem]; done) | (simp [results, Tryd.results136, go_sem, *]; done)) rfl ⟨rfl, ?_⟩
  repeat (first | exact Below.refl _ _ | exact HB1.out | refine Below.setCell ?_ (by first | (simp; done) | omega | (simp; omega)) _ | refine Below.alloc ?_ (by first | (simp; done) | omega | (simp; omega)) _ | refine bel_drew ?_)

end Go.Proofs.YtoellkbmhpekdaaDoor
