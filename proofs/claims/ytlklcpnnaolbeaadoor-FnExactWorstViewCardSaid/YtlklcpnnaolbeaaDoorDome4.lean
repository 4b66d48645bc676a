/-
  Directions in the frame of a tilted dome: the contracts of overFloor, direction of a floor vector, tilted, levelled, turned, TiltedDirection, LevelDirection (package impl), l09Turn, TiltedDirection, LevelDirection (package spec).
-/
import Derived.Test.YtlklcpnnaolbeaaDoorDome1
import Derived.Test.YtlklcpnnaolbeaaDoorHorM
import Derived.Test.YtlklcpnnaolbeaaDoorTow
import Derived.Test.YtlklcpnnaolbeaaDoorRot
import Derived.Test.YtlklcpnnaolbeaaDoorSRot
import Derived.Test.YtlklcpnnaolbeaaDoorSAng
import Derived.Test.YtlklcpnnaolbeaaDoorAngP
import Derived.Shelf.Abstract
namespace Go.Proofs.YtlklcpnnaolbeaaDoor
open Go.RowKit
set_option linter.unusedVariables false

theorem cosI_nrm (a : Int) : cosI (nrm a) = cosI a := by unfold cosI; rw [nrm_nrm]
theorem dirT_inD (lon d : Int) (d0 : -90000 ≤ d) (d1 : d ≤ 90000) : dirT lon d = (dX lon d, dY lon d, sinI d) := by
  unfold dirT
  rw [if_pos ((inR_1 _ _ _).2 ⟨d0, d1⟩)]
  rfl
theorem dX_nrm (lon lat : Int) : dX (nrm lon) lat = dX lon lat := by unfold dX; rw [cosI_nrm]
theorem dY_nrm (lon lat : Int) : dY (nrm lon) lat = dY lon lat := by unfold dY; rw [sinI_nrm]
/-- The second and the third component of a vector that is turned around the first axis. -/
def tuY (y z s c : Int) : Int := nearQ (y * c - z * s) 1000000
def tuZ (y z s c : Int) : Int := nearQ (y * s + z * c) 1000000
theorem tu_in {x y z s c : Int} (h : inV 1000000 x y z) (hs : -1000000 ≤ s ∧ s ≤ 1000000) (hc : -1000000 ≤ c ∧ c ≤ 1000000) : inV 2000000 x (tuY y z s c) (tuZ y z s c) := by
  obtain ⟨⟨a, b⟩, ⟨k, d⟩, e, f⟩ := h
  have p1 := pr_bd y c 1000000 1000000 k d hc.1 hc.2
  have p2 := pr_bd z s 1000000 1000000 e f hs.1 hs.2
  have p3 := pr_bd z c 1000000 1000000 e f hc.1 hc.2
  have p4 := pr_bd y s 1000000 1000000 k d hs.1 hs.2
  have q1 := nq6_bd (y * c - z * s) 2000000 (by omega) (by omega) (by omega)
  have q2 := nq6_bd (y * s + z * c) 2000000 (by omega) (by omega) (by omega)
  unfold tuY tuZ
  exact ⟨⟨by omega, by omega⟩, ⟨by omega, by omega⟩, by omega, by omega⟩
/-- The vector of a direction that is turned by an angle. -/
def tvX (a h : Int) : Int := dX (90000 - a) h
def tvY (t a h : Int) : Int := tuY (dY (90000 - a) h) (sinI h) (sinI t) (cosI t)
def tvZ (t a h : Int) : Int := tuZ (dY (90000 - a) h) (sinI h) (sinI t) (cosI t)
theorem tv_in (t a h : Int) : inV 2000000 (tvX a h) (tvY t a h) (tvZ t a h) := tu_in (dir_in _ _) (sinI_bd _) (cosI_bd _)
def azI (x y : Int) : Int := nrm (90000 - lonI x y)
theorem lonI_bd (x y : Int) : 0 ≤ lonI x y ∧ lonI x y < 360000 := by
  unfold lonI
  have := dirI_bd y x
  split <;> omega
/-- What TiltedDirection and LevelDirection return, turned by t. -/
def turnV (s : ByteArray) (r b t u v : Int) : Value := if domeB s r b = true then (if dirB u v = true then .tuple #[.int .i64 (azI (tvX u v) (tvY t u v)), .int .i64 (latI (tvX u v) (tvY t u v) (tvZ t u v)), .int .i64 0] else .tuple #[.int .i64 0, .int .i64 0, .int .i64 2]) else .tuple #[.int .i64 0, .int .i64 0, .int .i64 1]
def tiltV (s : ByteArray) (r b u v : Int) : Value := turnV s r b b u v
def levelV (s : ByteArray) (r b u v : Int) : Value := turnV s r b (-b) u v
theorem turnV_form (s : ByteArray) (r b t u v : Int) : ∃ x y c : Int, turnV s r b t u v = .tuple #[.int .i64 x, .int .i64 y, .int .i64 c] := by
  unfold turnV
  split
  · split <;> exact ⟨_, _, _, rfl⟩
  · exact ⟨_, _, _, rfl⟩
theorem tiltV_form (s : ByteArray) (r b u v : Int) : ∃ x y c : Int, tiltV s r b u v = .tuple #[.int .i64 x, .int .i64 y, .int .i64 c] := turnV_form _ _ _ _ _ _
theorem levelV_form (s : ByteArray) (r b u v : Int) : ∃ x y c : Int, levelV s r b u v = .tuple #[.int .i64 x, .int .i64 y, .int .i64 c] := turnV_form _ _ _ _ _ _
theorem dirB_bd {u v : Int} (h : dirB u v = true) : (0 ≤ u ∧ u ≤ 359999) ∧ -90000 ≤ v ∧ v ≤ 90000 := by
  unfold dirB at h
  simp only [Bool.and_eq_true, inR_1] at h
  exact h

end Go.Proofs.YtlklcpnnaolbeaaDoor
