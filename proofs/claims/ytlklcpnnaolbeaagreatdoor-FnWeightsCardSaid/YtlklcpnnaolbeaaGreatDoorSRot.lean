/-
  Turns around an axis in package spec: the contracts of l04Rotated, RotateAround.
-/
import Derived.Test.YtlklcpnnaolbeaaGreatDoorSinW
import Derived.Test.YtlklcpnnaolbeaaGreatDoorVecS
import Derived.StillTailTactics
namespace Go.Proofs.YtlklcpnnaolbeaaGreatDoor
open Go.RowKit
set_option linter.unusedVariables false

/-- The vector that a turn leads to, by the axis; s, c: the sine and the cosine. -/
def roX (ax x y z s c : Int) : Int := if ax = 1 then x else if ax = 2 then nearQ (x * c + z * s) 1000000 else nearQ (x * c - y * s) 1000000
def roY (ax x y z s c : Int) : Int := if ax = 1 then nearQ (y * c - z * s) 1000000 else if ax = 2 then y else nearQ (x * s + y * c) 1000000
def roZ (ax x y z s c : Int) : Int := if ax = 1 then nearQ (y * s + z * c) 1000000 else if ax = 2 then nearQ (z * c - x * s) 1000000 else z
def rotV (x y z ax a : Int) : Value := if okV x y z = true then (if inR 1 3 [ax] = true then doneV (roX ax x y z (sinI a) (cosI a)) (roY ax x y z (sinI a) (cosI a)) (roZ ax x y z (sinI a) (cosI a)) else .tuple #[.agg #[.int .i64 0, .int .i64 0, .int .i64 0], .int .i64 2]) else .tuple #[.agg #[.int .i64 0, .int .i64 0, .int .i64 0], .int .i64 1]
theorem rotV_form (x y z ax a : Int) : ∃ p q r d : Int, rotV x y z ax a = .tuple #[.agg #[.int .i64 p, .int .i64 q, .int .i64 r], .int .i64 d] := by
  unfold rotV
  split
  · split
    · exact doneV_form _ _ _
    · exact ⟨_, _, _, _, rfl⟩
  · exact ⟨_, _, _, _, rfl⟩
end Go.Proofs.YtlklcpnnaolbeaaGreatDoor
