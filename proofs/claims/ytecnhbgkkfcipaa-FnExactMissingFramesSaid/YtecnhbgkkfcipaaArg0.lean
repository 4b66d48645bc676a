/-
  What an argument's numbers and texts fit into.
-/
import Derived.Test.YtecnhbgkkfcipaaCore
import Derived.Lib.SmallJoins
import Derived.Deep.Slices
import Derived.Deep.Fields
import Derived.ChangeSame
namespace Go.Proofs.Ytecnhbgkkfcipaa
open Go.RowKit
def fits (a : Int) : Prop := -9223372036854775808 ≤ a ∧ a ≤ 9223372036854775807
theorem wf_fits {a : Int} (h : (Lit.int .i64 a).wf = true) : fits a := by
  unfold fits
  simpa [Lit.wf, IntKind.min, IntKind.max, IntKind.signed, IntKind.bits] using h
/-- What is left of a count after a text. -/
def szN (s : ByteArray) (l : Int) : Int := if l - (s.size : Int) < 0 then -1 else l - (s.size : Int)
theorem szN_le (s : ByteArray) (l : Int) (h : l ≤ 1048576) : szN s l ≤ 1048576 := by unfold szN; split <;> omega
theorem undrewL {W u : World} (h : Below W.drew.heap.size W.drew u) : Below W.heap.size W u := ⟨h.os, h.tape, h.output, h.size, h.block⟩
end Go.Proofs.Ytecnhbgkkfcipaa
