/-
  The turn by an angle: the contract of turnBy (package impl).
-/
import Derived.Test.YtlklcpnnaolbeaaDoorSinW
import Derived.Test.YtlklcpnnaolbeaaDoorVec0
import Derived.Test.YtlklcpnnaolbeaaDoorArg0
namespace Go.Proofs.YtlklcpnnaolbeaaDoor
open Go.RowKit
set_option linter.unusedVariables false

/-- A pair of numbers in a block of its own, that may be written. -/
structure D2 (w : World) (g : Nat) (a b : Int) : Prop where
  c0 : w.cell? ⟨g, 0, none⟩ = some (.int .i64 a)
  c1 : w.cell? ⟨g, 1, none⟩ = some (.int .i64 b)
  f0 : w.frozen? ⟨g, 0, none⟩ = false
  f1 : w.frozen? ⟨g, 1, none⟩ = false
theorem D2.inn {w : World} {g : Nat} {a b : Int} (h : D2 w g a b) : g < w.heap.size := World.block_lt_of_cell? w ⟨g, 0, none⟩ h.c0
theorem D2.on {w w' : World} {g : Nat} {a b : Int} (h : D2 w g a b) (hb : Below w.heap.size w w') : D2 w' g a b := by
  obtain ⟨k1, k2⟩ := bcell hb
  have hg := h.inn
  exact ⟨(k1 g 0 hg).trans h.c0, (k1 g 1 hg).trans h.c1, (k2 g 0 hg).trans h.f0, (k2 g 1 hg).trans h.f1⟩
theorem D2.new (w : World) (T : TypeId) (a b : Int) : D2 (w.alloc (.cells #[.int .i64 a, .int .i64 b] T)) w.heap.size a b := ⟨by simp, by simp, by simp, by simp⟩
theorem D2.alloc {w : World} {g : Nat} {a b : Int} (h : D2 w g a b) (o : Obj) : D2 (w.alloc o) g a b := h.on ((Below.refl _ _).alloc (Nat.le_refl _) o)

end Go.Proofs.YtlklcpnnaolbeaaDoor
