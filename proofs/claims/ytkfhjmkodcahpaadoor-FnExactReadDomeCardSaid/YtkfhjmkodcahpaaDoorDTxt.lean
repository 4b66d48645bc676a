/-
  Domes as texts: the contracts of l09Text, DomeText (package spec) and of namedNumbersText, DomeText (package impl).
-/
import Derived.Test.YtkfhjmkodcahpaaDoorText
import Derived.Test.YtkfhjmkodcahpaaDoorDome0
import Derived.Deep.RegionHeld3
namespace Go.Proofs.YtkfhjmkodcahpaaDoor
open Go.RowKit
set_option linter.unusedVariables false

theorem name_leD (s : ByteArray) (h : nameB s.data.toList = true) : s.size ≤ 10 := by
  rcases (show 10 < s.size ∨ s.size ≤ 10 by omega) with c | c
  · rw [nameB_long s c] at h; cases h
  · exact c
theorem dome_2 (s : ByteArray) (a b : Int) (h : domeB s a b = true) : s.size ≤ 10 ∧ inR (-1000000000000) 1000000000000 [a, b] = true := by
  unfold domeB at h
  simp only [Bool.and_eq_true, inR_1] at h
  refine ⟨name_leD s h.1, ?_⟩
  simp [inR]
  omega
theorem join_2 (a b : Int) (h : inR (-1000000000000) 1000000000000 [a, b] = true) : (joinT [a, b]).length ≤ 42 := by
  have := joinTo_len [a, b] h 2 (by simp)
  unfold joinTo at this
  simpa using this
theorem listT_d (a b : Int) (h : inR (-1000000000000) 1000000000000 [a, b] = true) : listT [a, b] = joinT [a, b] := by
  unfold listT
  rw [if_pos ((fits_iff _).2 ⟨h, by simp⟩), if_neg (by simp)]
/-- What DomeText returns. -/
def dtxt (s : ByteArray) (a b : Int) : ByteArray := if domeB s a b = true then s ++ ⟨#[32]⟩ ++ ⟨(joinT [a, b]).toArray⟩ else ⟨#[]⟩
theorem cells_D (w : World) (T : TypeId) (x y : Int) : ∀ j, (hj : j < [x, y].length) → (w.alloc (Obj.cells #[.int .i64 x, .int .i64 y] T)).cell? ⟨w.heap.size, j, none⟩ = some (.int .i64 ([x, y][j])) := by
  intro j hj
  match j, hj with
  | 0, _ => simp
  | 1, _ => simp
theorem undrewDA {W u : World} {o : Obj} (h : Below (W.drew.alloc o).heap.size (W.drew.alloc o) u) : Below W.heap.size W u := ((bel_drew (Below.refl _ W)).alloc (Nat.le_refl _) o).trans (h.mono (by simp))
theorem undrewDD {W u : World} {o : Obj} (h : Below (W.alloc o).drew.heap.size (W.alloc o).drew u) : Below W.heap.size W u := ((Below.refl _ W).alloc (Nat.le_refl _) o).trans ((show Below (W.alloc o).heap.size (W.alloc o) u from ⟨h.os, h.tape, h.output, h.size, h.block⟩).mono (by simp))
theorem cells_Dd (w : World) (T : TypeId) (x y : Int) : ∀ j, (hj : j < [x, y].length) → (w.alloc (Obj.cells #[.int .i64 x, .int .i64 y] T)).drew.cell? ⟨w.heap.size, j, none⟩ = some (.int .i64 ([x, y][j])) := cells_D w T x y
theorem keepDo {w W W' : World} {g : Nat} {v0 v1 v2 : Value} (h : W.cell? ⟨g, 0, none⟩ = some v0 ∧ W.cell? ⟨g, 1, none⟩ = some v1 ∧ W.cell? ⟨g, 2, none⟩ = some v2 ∧ Below w.heap.size w W) (hb : Below W.heap.size W W') :
    W'.cell? ⟨g, 0, none⟩ = some v0 ∧ W'.cell? ⟨g, 1, none⟩ = some v1 ∧ W'.cell? ⟨g, 2, none⟩ = some v2 ∧ Below w.heap.size w W' := by
  obtain ⟨h0, h1, h2, hB⟩ := h
  have l0 := World.block_lt_of_cell? W ⟨g, 0, none⟩ h0
  obtain ⟨k, _⟩ := bcell hb
  exact ⟨(k _ _ l0).trans h0, (k _ _ l0).trans h1, (k _ _ l0).trans h2, hB.trans (hb.mono hB.size)⟩

end Go.Proofs.YtkfhjmkodcahpaaDoor
