/-
  Where a planet is on its circle: the contracts of angleAt, OrbitAngle (package impl), l07Angle, OrbitAngle (package spec).
-/
import Derived.Test.YtmdjogjcdjaafaaDoorPlan0
import Derived.Test.YtmdjogjcdjaafaaDoorAngP
import Derived.Test.YtmdjogjcdjaafaaDoorMomA
import Derived.Test.YtmdjogjcdjaafaaDoorMomM
import Derived.Deep.RegionHeld3
namespace Go.Proofs.YtmdjogjcdjaafaaDoor
open Go.RowKit
set_option linter.unusedVariables false

/-- The part of its circle that a planet has gone, in steps. -/
def goneI (a d m : Int) : Int := (d * 86400000 + m) * 360000 / (a * 86400)
def orbI (a c d m : Int) : Int := nrm (c + goneI a d m)
theorem gone_bd (a d m : Int) (a0 : 1000 ≤ a) (d0 : 0 ≤ d) (d1 : d ≤ 99999) (m0 : 0 ≤ m) (m1 : m ≤ 86399999) : 0 ≤ goneI a d m ∧ goneI a d m ≤ 40000000000 := by
  unfold goneI
  have hp : 0 < a * 86400 := by omega
  refine ⟨Int.ediv_nonneg (by omega) (by omega), ?_⟩
  have : (d * 86400000 + m) * 360000 / (a * 86400) < 40000000001 := by
    refine Int.ediv_lt_of_lt_mul hp ?_
    omega
  omega
theorem planet_bd (s : ByteArray) (a b c : Int) (h : planetB s a b c = true) : (1000 ≤ a ∧ a ≤ 100000000) ∧ (1 ≤ b ∧ b ≤ 50000) ∧ (0 ≤ c ∧ c ≤ 359999) := by
  unfold planetB at h
  simp only [Bool.and_eq_true, inR_1] at h
  exact ⟨h.2.1, h.2.2.1, h.2.2.2⟩
theorem undrewP {W u : World} (h : Below W.drew.heap.size W.drew u) : Below W.heap.size W u := ⟨h.os, h.tape, h.output, h.size, h.block⟩
theorem keepP4 {W0 W W' : World} {b0 o0 b1 o1 b2 o2 b3 o3 : Nat} {v0 v1 v2 v3 : Value} (h : W.cell? ⟨b0, o0, none⟩ = some v0 ∧ W.cell? ⟨b1, o1, none⟩ = some v1 ∧ W.cell? ⟨b2, o2, none⟩ = some v2 ∧ W.cell? ⟨b3, o3, none⟩ = some v3 ∧ Below W0.heap.size W0 W) (hb : Below W.heap.size W W') :
    W'.cell? ⟨b0, o0, none⟩ = some v0 ∧ W'.cell? ⟨b1, o1, none⟩ = some v1 ∧ W'.cell? ⟨b2, o2, none⟩ = some v2 ∧ W'.cell? ⟨b3, o3, none⟩ = some v3 ∧ Below W0.heap.size W0 W' := by
  obtain ⟨h0, h1, h2, h3, h4⟩ := h
  have l0 := World.block_lt_of_cell? W ⟨b0, o0, none⟩ h0
  have l1 := World.block_lt_of_cell? W ⟨b1, o1, none⟩ h1
  have l2 := World.block_lt_of_cell? W ⟨b2, o2, none⟩ h2
  have l3 := World.block_lt_of_cell? W ⟨b3, o3, none⟩ h3
  obtain ⟨k, _⟩ := bcell hb
  exact ⟨(k _ _ l0).trans h0, (k _ _ l1).trans h1, (k _ _ l2).trans h2, (k _ _ l3).trans h3, h4.trans (hb.mono h4.size)⟩

set_option maxHeartbeats 2000000 in
theorem angleAt_any (s : ByteArray) (a b c d m : Int) (a0 : 1000 ≤ a) (a1 : a ≤ 100000000) (c0 : 0 ≤ c) (c1 : c ≤ 359999) (d0 : 0 ≤ d) (d1 : d ≤ 99999) (m0 : 0 ≤ m) (m1 : m ≤ 86399999) (w : World) :
    Calls Tryd.prog 64 #[.agg #[.string s, .int .i64 a, .int .i64 b, .int .i64 c], .agg #[.int .i64 d, .int .i64 m]] w fun e w' => e = .returned (.int .i64 (orbI a c d m)) ∧ Below w.heap.size w w' := by
  unfold orbI
  obtain ⟨g0, g1⟩ := gone_bd a d m a0 d0 d1 m0 m1
  have N := Lib.hid (fun w => implNrm_any (c + goneI a d m) w (by omega) (by omega))
  have M := Lib.hid (fun w => millis_any d m d0 d1 m0 m1 w)
  have e1 : IntKind.i64.wrap ((d * 86400000 + m) * 360000) = (d * 86400000 + m) * 360000 := IntWalk.i64_in _ (by omega)
  have e2 : IntKind.i64.wrap (a * 86400) = a * 86400 := IntWalk.i64_in _ (by omega)
  have e3 : IntKind.i64.wrap (c + goneI a d m) = c + goneI a d m := IntWalk.i64_in _ (by omega)
  have e7 : IntKind.i64.wrap (goneI a d m) = goneI a d m := IntWalk.i64_in _ (by omega)
  unfold goneI at *
  have e4 : ¬ a * 86400 = 0 := by omega
  have e5 : ((d * 86400000 + m) * 360000).tdiv (a * 86400) = (d * 86400000 + m) * 360000 / (a * 86400) := Int.tdiv_eq_ediv_of_nonneg (by omega)
  obtain ⟨W0, hW0⟩ : ∃ W0, W0 = (w.alloc (.cells #[.string s, .int .i64 a, .int .i64 b, .int .i64 c] 29)).alloc (.cells #[.int .i64 d, .int .i64 m] 31) := ⟨_, rfl⟩
  have HB0 : Hid (Below w.heap.size w W0) := Lib.hid (by rw [hW0]; exact ((Below.refl _ _).alloc (Nat.le_refl _) _).alloc (by simp) _)
  have K0 : Hid (W0.cell? ⟨w.heap.size, 1, none⟩ = some (.int .i64 a) ∧ W0.cell? ⟨w.heap.size, 3, none⟩ = some (.int .i64 c) ∧ W0.cell? ⟨w.heap.size + 1, 0, none⟩ = some (.int .i64 d) ∧ W0.cell? ⟨w.heap.size + 1, 1, none⟩ = some (.int .i64 m) ∧ Below W0.heap.size W0 W0) := Lib.hid (by rw [hW0]; exact ⟨by simp, by simp, by simp, by simp, Below.refl _ _⟩)
  have HW := Lib.hid hW0
  clear hW0
  go_enter Tryd.func64, Tryd.ntmps64
  go_wp2_with fail
  rw [← HW.out]
  clear HW
  obtain ⟨k0, k1, k2, k3, k4⟩ := K0.out
  go_region_held3 (fun w' => w'.cell? ⟨w.heap.size, 1, none⟩ = some (.int .i64 a) ∧ w'.cell? ⟨w.heap.size, 3, none⟩ = some (.int .i64 c) ∧ w'.cell? ⟨w.heap.size + 1, 0, none⟩ = some (.int .i64 d) ∧ w'.cell? ⟨w.heap.size + 1, 1, none⟩ = some (.int .i64 m) ∧ Below W0.heap.size W0 w') (first | (exact keepP4 K0.out (bel_drew (Below.refl _ _))) | (exact keepP4 K0.out y2) | (exact keepP4 K0.out y1) | go_keep) ((first
    | (go_at_call 84; refine (M.out _).mono ?_; rintro e x1 ⟨rfl, hx1⟩; have y1 := undrewP hx1)
    | (go_at_call 83; refine (N.out _).mono ?_; rintro e x2 ⟨rfl, rfl⟩; have y2 := y1)))
  rename_i held
  have HB := Lib.hid (HB0.out.trans (held.2.2.2.2.mono HB0.out.size))
  clear held
  go_wp2_with fail
  go_ret
  exact ⟨rfl, HB.out⟩

set_option maxHeartbeats 2000000 in
theorem l07Angle_at (g o : Nat) (s : ByteArray) (a b c d m : Int) (a0 : 1000 ≤ a) (a1 : a ≤ 100000000) (c0 : 0 ≤ c) (c1 : c ≤ 359999) (d0 : 0 ≤ d) (d1 : d ≤ 99999) (m0 : 0 ≤ m) (m1 : m ≤ 86399999) (w : World) (h1 : w.cell? ⟨g, o + 1, none⟩ = some (.int .i64 a)) (h3 : w.cell? ⟨g, o + 3, none⟩ = some (.int .i64 c)) :
    Calls Tryd.prog 42 #[.pointer (some ⟨g, o, none⟩), .agg #[.int .i64 d, .int .i64 m]] w fun e w' => e = .returned (.int .i64 (orbI a c d m)) ∧ Below w.heap.size w w' := by
  unfold orbI
  obtain ⟨g0, g1⟩ := gone_bd a d m a0 d0 d1 m0 m1
  have M := Lib.hid (fun w => l03All_any d m d0 d1 m0 m1 w)
  have e1 : IntKind.i64.wrap ((d * 86400000 + m) * 360000) = (d * 86400000 + m) * 360000 := IntWalk.i64_in _ (by omega)
  have e2 : IntKind.i64.wrap (a * 86400) = a * 86400 := IntWalk.i64_in _ (by omega)
  have e3 : IntKind.i64.wrap (c + goneI a d m) = c + goneI a d m := IntWalk.i64_in _ (by omega)
  have e6 : nrm (c + goneI a d m) = (c + goneI a d m).tmod 360000 := (tmod_pos _ (by omega)).symm
  rw [e6]
  have e7 : IntKind.i64.wrap (goneI a d m) = goneI a d m := IntWalk.i64_in _ (by omega)
  unfold goneI at *
  have e4 : ¬ a * 86400 = 0 := by omega
  have e5 : ((d * 86400000 + m) * 360000).tdiv (a * 86400) = (d * 86400000 + m) * 360000 / (a * 86400) := Int.tdiv_eq_ediv_of_nonneg (by omega)
  obtain ⟨W0, hW0⟩ : ∃ W0, W0 = w.alloc (.cells #[.int .i64 d, .int .i64 m] 31) := ⟨_, rfl⟩
  have hB0 : Below w.heap.size w W0 := by rw [hW0]; exact (Below.refl _ _).alloc (Nat.le_refl _) _
  have HB0 := Lib.hid hB0
  have lg := World.block_lt_of_cell? w ⟨g, o + 1, none⟩ h1
  have K0 : Hid (W0.cell? ⟨g, o + 1, none⟩ = some (.int .i64 a) ∧ W0.cell? ⟨g, o + 3, none⟩ = some (.int .i64 c) ∧ W0.cell? ⟨w.heap.size, 0, none⟩ = some (.int .i64 d) ∧ W0.cell? ⟨w.heap.size, 1, none⟩ = some (.int .i64 m) ∧ Below W0.heap.size W0 W0) := Lib.hid ⟨((bcell hB0).1 _ _ lg).trans h1, ((bcell hB0).1 _ _ lg).trans h3, by rw [hW0]; simp, by rw [hW0]; simp, Below.refl _ _⟩
  have HW := Lib.hid hW0
  clear hW0 hB0 e6
  go_enter Tryd.func42, Tryd.ntmps42
  go_wp2_with fail
  rw [← HW.out]
  clear HW h1 h3
  obtain ⟨k0, k1, k2, k3, k4⟩ := K0.out
  go_region_held3 (fun w' => w'.cell? ⟨g, o + 1, none⟩ = some (.int .i64 a) ∧ w'.cell? ⟨g, o + 3, none⟩ = some (.int .i64 c) ∧ w'.cell? ⟨w.heap.size, 0, none⟩ = some (.int .i64 d) ∧ w'.cell? ⟨w.heap.size, 1, none⟩ = some (.int .i64 m) ∧ Below W0.heap.size W0 w') (first | (exact keepP4 K0.out (bel_drew (Below.refl _ _))) | (exact keepP4 K0.out y1) | go_keep) ((first
    | (go_at_call 71; refine (M.out _).mono ?_; rintro e x1 ⟨rfl, hx1⟩; have y1 := undrewP hx1)))
  rename_i held
  have HB := Lib.hid (HB0.out.trans (held.2.2.2.2.mono HB0.out.size))
  clear held
  go_wp2_with fail
  go_ret
  exact ⟨rfl, HB.out⟩

/-- What OrbitAngle returns. -/
def orbV (s : ByteArray) (a b c d m : Int) : Value := if planetB s a b c = true ∧ okM d m = true then .tuple #[.int .i64 (orbI a c d m), .int .i64 0] else .tuple #[.int .i64 0, .int .i64 1]
theorem orbV_form (s : ByteArray) (a b c d m : Int) : ∃ p q : Int, orbV s a b c d m = .tuple #[.int .i64 p, .int .i64 q] := by unfold orbV; split <;> exact ⟨_, _, rfl⟩
end Go.Proofs.YtmdjogjcdjaafaaDoor
