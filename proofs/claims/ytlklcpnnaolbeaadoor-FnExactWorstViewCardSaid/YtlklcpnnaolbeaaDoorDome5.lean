/-
  Directions in the frame of a tilted dome in package impl: the contracts of turnBy, overFloor, direction of a floor vector, tilted, levelled, turned, TiltedDirection, LevelDirection.
-/
import Derived.Test.YtlklcpnnaolbeaaDoorDome4
import Derived.Test.YtlklcpnnaolbeaaDoorTurnB
import Derived.Test.YtlklcpnnaolbeaaDoorKeep
import Derived.Test.YtlklcpnnaolbeaaDoorBelow3
import Derived.Deep.RegionHeld3
import Derived.Deep.Cut
import Derived.Shelf.Abstract
namespace Go.Proofs.YtlklcpnnaolbeaaDoor
open Go.RowKit
set_option linter.unusedVariables false

theorem fldF (x y z : Int) (w : World) : (Instr.field 58 (.agg #[.int .i64 x, .int .i64 y, .int .i64 z]) 0).run Tryd.prog w = .ok (.agg #[.int .i64 x, .int .i64 y, .int .i64 z]) w := by kernel_rfl
theorem setW3 {w W : World} {b0 o0 b1 o1 b2 o2 : Nat} {v0 v1 v2 : Value} {r o : Nat} {u : Value} (h : W.cell? ⟨b0, o0, none⟩ = some v0 ∧ W.cell? ⟨b1, o1, none⟩ = some v1 ∧ W.cell? ⟨b2, o2, none⟩ = some v2 ∧ Below w.heap.size w W) (n0 : b0 ≠ r) (n1 : b1 ≠ r) (n2 : b2 ≠ r) (hr : w.heap.size ≤ r) :
    (W.setCell ⟨r, o, none⟩ u).cell? ⟨b0, o0, none⟩ = some v0 ∧ (W.setCell ⟨r, o, none⟩ u).cell? ⟨b1, o1, none⟩ = some v1 ∧ (W.setCell ⟨r, o, none⟩ u).cell? ⟨b2, o2, none⟩ = some v2 ∧ Below w.heap.size w (W.setCell ⟨r, o, none⟩ u) := by
  obtain ⟨h0, h1, h2, hb⟩ := h
  exact ⟨(World.cell?_setCell_other _ _ _ _ (by intro e; injection e with e1; exact n0 e1.symm)).trans h0, (World.cell?_setCell_other _ _ _ _ (by intro e; injection e with e1; exact n1 e1.symm)).trans h1, (World.cell?_setCell_other _ _ _ _ (by intro e; injection e with e1; exact n2 e1.symm)).trans h2, hb.setCell hr _⟩
theorem setW4 {w W : World} {b0 o0 b1 o1 b2 o2 b3 o3 : Nat} {v0 v1 v2 v3 : Value} {r o : Nat} {u : Value} (h : W.cell? ⟨b0, o0, none⟩ = some v0 ∧ W.cell? ⟨b1, o1, none⟩ = some v1 ∧ W.cell? ⟨b2, o2, none⟩ = some v2 ∧ W.cell? ⟨b3, o3, none⟩ = some v3 ∧ Below w.heap.size w W) (n0 : b0 ≠ r) (n1 : b1 ≠ r) (n2 : b2 ≠ r) (n3 : b3 ≠ r) (hr : w.heap.size ≤ r) :
    (W.setCell ⟨r, o, none⟩ u).cell? ⟨b0, o0, none⟩ = some v0 ∧ (W.setCell ⟨r, o, none⟩ u).cell? ⟨b1, o1, none⟩ = some v1 ∧ (W.setCell ⟨r, o, none⟩ u).cell? ⟨b2, o2, none⟩ = some v2 ∧ (W.setCell ⟨r, o, none⟩ u).cell? ⟨b3, o3, none⟩ = some v3 ∧ Below w.heap.size w (W.setCell ⟨r, o, none⟩ u) := by
  obtain ⟨h0, h1, h2, h3, hb⟩ := h
  exact ⟨(World.cell?_setCell_other _ _ _ _ (by intro e; injection e with e1; exact n0 e1.symm)).trans h0, (World.cell?_setCell_other _ _ _ _ (by intro e; injection e with e1; exact n1 e1.symm)).trans h1, (World.cell?_setCell_other _ _ _ _ (by intro e; injection e with e1; exact n2 e1.symm)).trans h2, (World.cell?_setCell_other _ _ _ _ (by intro e; injection e with e1; exact n3 e1.symm)).trans h3, hb.setCell hr _⟩

set_option maxHeartbeats 1000000 in
theorem overFloor_any (a h : Int) (a0 : 0 ≤ a) (a1 : a ≤ 359999) (h0 : -90000 ≤ h) (h1 : h ≤ 90000) (w : World) (hs : SinesOK w) :
    Calls Tryd.prog 84 #[.agg #[.int .i64 a, .int .i64 h]] w fun e w' => e = .returned (.agg #[.int .i64 (dX (90000 - a) h), .int .i64 (dY (90000 - a) h), .int .i64 (sinI h)]) ∧ Below w.heap.size w w' := by
  have T := Lib.hid (fun w hs => dirTow_any (90000 - a) h ⟨by omega, by omega⟩ w hs)
  rw [dirT_inD _ _ h0 h1] at T
  have E := Lib.hid hs
  clear hs
  simp only at T
  generalize dX (90000 - a) h = x at *
  generalize dY (90000 - a) h = y at *
  generalize sinI h = z at *
  go_enter Tryd.func84, Tryd.ntmps84
  go_wp2_with fail
  refine (T.out _ (E.out.below (by repeat (first | exact Below.refl _ _ | refine Below.alloc ?_ (by first | (simp; done) | (simp; omega)) _)))).mono ?_
  rintro e w1 ⟨rfl, hb⟩
  have R1 := (by simpa using C3.new (w.alloc (.cells #[.int .i64 a, .int .i64 h] 54)) 58 0 0 0 : C3 _ (w.heap.size + 1) 0 0 0).stays hb (by simp)
  have HB1 : Hid (Below w.heap.size w w1) := Lib.hid (Below.trans (by repeat (first | exact Below.refl _ _ | refine Below.alloc ?_ (by first | (simp; done) | omega | (simp; omega)) _)) (hb.mono (by simp; omega)))
  clear hb
  obtain ⟨r0, r1, r2, r3, r4, r5⟩ := R1
  go_wp2_with fail
  refine bodyPost_ret (v := .agg #[.int .i64 x, .int .i64 y, .int .i64 z]) (by first | (simp [results, Tryd.results84, go_sem]; done) | (simp [results, Tryd.results84, go_sem, *]; done)) rfl ⟨rfl, ?_⟩
  repeat (first | exact Below.refl _ _ | exact HB1.out | refine Below.setCell ?_ (by first | (simp; done) | omega | (simp; omega)) _ | refine Below.alloc ?_ (by first | (simp; done) | omega | (simp; omega)) _ | refine bel_drew ?_)

set_option maxRecDepth 100000 in
set_option maxHeartbeats 2000000 in
theorem floorDir_any (x y z : Int) (hv : inV 2000000 x y z) (w : World) (hs : SinesOK w) :
    Calls Tryd.prog 26 #[.agg #[.int .i64 x, .int .i64 y, .int .i64 z]] w fun e w' => e = .returned (.agg #[.int .i64 (azI x y), .int .i64 (latI x y z)]) ∧ Below w.heap.size w w' := by
  have L := Lib.hid (fun w hs => longitude_any x y z hv w hs)
  have A := Lib.hid (fun w hs => latitude_any x y z hv w hs)
  have lb := lonI_bd x y
  have N := Lib.hid (fun w => implNrm_any (90000 - lonI x y) w (by omega) (by omega))
  change Hid (∀ w, Calls Tryd.prog 54 #[.int .i64 (90000 - lonI x y)] w fun e w' => e = .returned (.int .i64 (azI x y)) ∧ w = w') at N
  have m1 : IntKind.i64.wrap (90000 - lonI x y) = 90000 - lonI x y := IntWalk.i64_in _ (by omega)
  generalize azI x y = p at *
  generalize latI x y z = q at *
  generalize lonI x y = l at *
  clear hv
  obtain ⟨W0, hW0⟩ : ∃ W0, W0 = ((w.alloc (.cells #[.int .i64 x, .int .i64 y, .int .i64 z] 58)).alloc (.cells #[.int .i64 0, .int .i64 0] 54)) := ⟨_, rfl⟩
  have K0 : Hid (W0.cell? ⟨w.heap.size, 0, none⟩ = some (.int .i64 x) ∧ W0.cell? ⟨w.heap.size, 1, none⟩ = some (.int .i64 y) ∧ W0.cell? ⟨w.heap.size, 2, none⟩ = some (.int .i64 z) ∧ Below w.heap.size w W0) := Lib.hid (by rw [hW0]; exact ⟨by rw [World.cell?_alloc_lt _ _ _ (by first | (simp; done) | (simp; omega))]; first | (simp; done) | (rw [World.cell?_alloc_at _ _ _ _ (by first | (simp; done) | (simp; omega))]; rfl), by rw [World.cell?_alloc_lt _ _ _ (by first | (simp; done) | (simp; omega))]; first | (simp; done) | (rw [World.cell?_alloc_at _ _ _ _ (by first | (simp; done) | (simp; omega))]; rfl), by rw [World.cell?_alloc_lt _ _ _ (by first | (simp; done) | (simp; omega))]; first | (simp; done) | (rw [World.cell?_alloc_at _ _ _ _ (by first | (simp; done) | (simp; omega))]; rfl), by repeat (first | exact Below.refl _ _ | refine Below.alloc ?_ (by first | (simp; done) | (simp; omega)) _)⟩)
  have SZ : Hid (W0.heap.size = w.heap.size + 1 + 1) := Lib.hid (by rw [hW0]; simp)
  have R0 : Hid (D2 W0 (w.heap.size + 1) 0 0) := Lib.hid (by rw [hW0]; simpa using D2.new (w.alloc (.cells #[.int .i64 x, .int .i64 y, .int .i64 z] 58)) 54 0 0)
  have HW := Lib.hid hW0
  clear hW0
  have E0 := Lib.hid (hs.below K0.out.2.2.2)
  clear hs
  go_enter Tryd.func26, Tryd.ntmps26
  obtain ⟨k0, k1, k2, k3⟩ := K0.out
  go_wp2_with fail
  rw [← HW.out]
  clear HW
  go_region_held3 (fun w' => w'.cell? ⟨w.heap.size, 0, none⟩ = some (.int .i64 x) ∧ w'.cell? ⟨w.heap.size, 1, none⟩ = some (.int .i64 y) ∧ w'.cell? ⟨w.heap.size, 2, none⟩ = some (.int .i64 z) ∧ Below w.heap.size w w') (first | (exact keepW3 K0.out (bel_drew (Below.refl _ _))) | (exact keepW3 K0.out y3) | (exact keepW3 K0.out y2) | (exact keepW3 K0.out y1) | (exact setW3 (setW3 (keepW3 K0.out y3) (by omega) (by omega) (by omega) (by omega)) (by omega) (by omega) (by omega) (by omega)) | go_keep) ((first
    | (go_at_call 55; (with_reducible refine (L.out _ (E0.out.below (bel_drew (Below.refl _ _)))).mono ?_); rintro e x1 ⟨rfl, hx1⟩; have y1 := undrewG hx1)
    | (go_at_call 54; refine (N.out _).mono ?_; rintro e x2 ⟨rfl, rfl⟩; have y2 := y1)
    | (go_at_call 56; (with_reducible refine (A.out _ (E0.out.below y1)).mono ?_); rintro e x3 ⟨rfl, hx3⟩; have y3 := y1.trans (hx3.mono y1.size); have rr := R0.out.on y3; obtain ⟨r0, r1, r2, r3⟩ := rr)))
  rename_i held
  have HB := Lib.hid held.2.2.2
  clear held
  go_wp2_with fail
  refine bodyPost_ret (v := .agg #[.int .i64 p, .int .i64 q]) (by first | (simp [results, Tryd.results26, go_sem]; done) | (simp [results, Tryd.results26, go_sem, *]; done)) rfl ⟨rfl, ?_⟩
  repeat (first | exact Below.refl _ _ | exact HB.out | refine Below.setCell ?_ (by first | (simp; done) | omega | (simp; omega)) _ | refine Below.alloc ?_ (by first | (simp; done) | omega | (simp; omega)) _ | refine bel_drew ?_)

end Go.Proofs.YtlklcpnnaolbeaaDoor
