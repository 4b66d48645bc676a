/-
  Vectors of package impl: the contracts of validResult, LengthOf, DotOf, CrossOf, NormalVector, BlendVectors.
-/
import Derived.Test.YtoellkbmhpekdaaVecQ
namespace Go.Proofs.Ytoellkbmhpekdaa
open Go.RowKit
set_option linter.unusedVariables false

def lenV (x y z : Int) : Value := if okV x y z = true then .tuple #[.int .i64 (len3 x y z), .int .i64 0] else .tuple #[.int .i64 0, .int .i64 1]
theorem inV_up {m n x y z : Int} (h : inV m x y z) (hm : m ≤ n) : inV n x y z := by
  obtain ⟨⟨a0, a1⟩, ⟨b0, b1⟩, c0, c1⟩ := h
  exact ⟨⟨by omega, by omega⟩, ⟨by omega, by omega⟩, by omega, by omega⟩
def dotV (x y z x' y' z' : Int) : Value := if okV x y z = true then (if okV x' y' z' = true then .tuple #[.int .i64 (dotI x y z x' y' z'), .int .i64 0] else .tuple #[.int .i64 0, .int .i64 1]) else .tuple #[.int .i64 0, .int .i64 1]
def crossV (x y z x' y' z' : Int) : Value := if okV x y z = true then (if okV x' y' z' = true then doneV (crI y z' z y') (crI z x' x z') (crI x y' y x') else .tuple #[.agg #[.int .i64 0, .int .i64 0, .int .i64 0], .int .i64 1]) else .tuple #[.agg #[.int .i64 0, .int .i64 0, .int .i64 0], .int .i64 1]
theorem doneV_form (x y z : Int) : ∃ a b c d : Int, doneV x y z = .tuple #[.agg #[.int .i64 a, .int .i64 b, .int .i64 c], .int .i64 d] := by
  unfold doneV
  split <;> exact ⟨_, _, _, _, rfl⟩
end Go.Proofs.Ytoellkbmhpekdaa
