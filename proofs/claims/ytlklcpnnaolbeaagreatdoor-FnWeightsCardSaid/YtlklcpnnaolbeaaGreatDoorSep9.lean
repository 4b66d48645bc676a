/-
  The angle between two directions: what both packages reckon.
-/
import Derived.Test.YtlklcpnnaolbeaaGreatDoorHorM
import Derived.Test.YtlklcpnnaolbeaaGreatDoorSSep
namespace Go.Proofs.YtlklcpnnaolbeaaGreatDoor
open Go.RowKit
set_option linter.unusedVariables false

def sepX (x y z x' y' z' : Int) : Int := if crL x y z x' y' z' = 0 ∧ dotI x y z x' y' z' = 0 then 0 else dirI (crL x y z x' y' z') (dotI x y z x' y' z')
theorem sepX_bd (x y z x' y' z' : Int) : 0 ≤ sepX x y z x' y' z' ∧ sepX x y z x' y' z' < 360000 := by
  unfold sepX
  have := dirI_bd (crL x y z x' y' z') (dotI x y z x' y' z')
  split <;> omega
/-- The angle between two directions. -/
def sep9 (a h a' h' : Int) : Int := sepX (dX a h) (dY a h) (sinI h) (dX a' h') (dY a' h') (sinI h')
theorem sepX_impl (x y z x' y' z' : Int) (h : inV 2000000 x y z) (h' : inV 2000000 x' y' z') : ∃ d : Int, sepV x y z x' y' z' = .tuple #[.int .i64 (sepX x y z x' y' z'), .int .i64 d] := by
  unfold sepV sepX
  rw [(okV_bd _ _ _).2 h, (okV_bd _ _ _).2 h', if_pos rfl, if_pos rfl, atan_of _ _ (crL_bd _ _ _ _ _ _ h h') (dotI_bd _ _ _ _ _ _ h h')]
  split
  · exact ⟨_, rfl⟩
  · exact ⟨_, rfl⟩
theorem sepX_spec (x y z x' y' z' : Int) : ∃ t : Bool, awayV (crL x y z x' y' z') (dotI x y z x' y' z') = .tuple #[.int .i64 (sepX x y z x' y' z'), .bool t] := by
  unfold awayV sepX
  split
  · exact ⟨false, rfl⟩
  · exact ⟨true, rfl⟩
end Go.Proofs.YtlklcpnnaolbeaaGreatDoor
