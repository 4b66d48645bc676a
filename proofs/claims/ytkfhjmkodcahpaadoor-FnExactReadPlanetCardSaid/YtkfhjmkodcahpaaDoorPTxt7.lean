/-
  Planets as texts: the contracts of l07Text, PlanetText (package spec) and of PlanetText (package impl).
-/
import Derived.Test.YtkfhjmkodcahpaaDoorText
import Derived.Test.YtkfhjmkodcahpaaDoorNums
import Derived.Test.YtkfhjmkodcahpaaDoorPlan0
import Derived.Deep.RegionHeld3
namespace Go.Proofs.YtkfhjmkodcahpaaDoor
open Go.RowKit
set_option linter.unusedVariables false

theorem name_le (s : ByteArray) (h : nameB s.data.toList = true) : s.size ≤ 10 := by
  rcases (show 10 < s.size ∨ s.size ≤ 10 by omega) with c | c
  · rw [nameB_long s c] at h; cases h
  · exact c
theorem planet_3 (s : ByteArray) (a b c : Int) (h : planetB s a b c = true) : s.size ≤ 10 ∧ inR (-1000000000000) 1000000000000 [a, b, c] = true := by
  unfold planetB at h
  simp only [Bool.and_eq_true, inR_1] at h
  refine ⟨name_le s h.1, ?_⟩
  simp [inR]
  omega
theorem join_3 (a b c : Int) (h : inR (-1000000000000) 1000000000000 [a, b, c] = true) : (joinT [a, b, c]).length ≤ 63 := by
  have := joinTo_len [a, b, c] h 3 (by simp)
  unfold joinTo at this
  simpa using this
theorem listT_p (a b c : Int) (h : inR (-1000000000000) 1000000000000 [a, b, c] = true) : listT [a, b, c] = joinT [a, b, c] := by
  unfold listT
  rw [if_pos ((fits_iff _).2 ⟨h, by simp⟩), if_neg (by simp)]
/-- What PlanetText returns. -/
def ptxt (s : ByteArray) (a b c : Int) : ByteArray := if planetB s a b c = true then s ++ ⟨#[32]⟩ ++ ⟨(joinT [a, b, c]).toArray⟩ else ⟨#[]⟩
theorem cells_T (w : World) (T : TypeId) (x y z : Int) : ∀ j, (hj : j < [x, y, z].length) → (w.alloc (Obj.cells #[.int .i64 x, .int .i64 y, .int .i64 z] T)).cell? ⟨w.heap.size, j, none⟩ = some (.int .i64 ([x, y, z][j])) := by
  intro j hj
  match j, hj with
  | 0, _ => simp
  | 1, _ => simp
  | 2, _ => simp
theorem undrewTA {W u : World} {o : Obj} (h : Below (W.drew.alloc o).heap.size (W.drew.alloc o) u) : Below W.heap.size W u := ((bel_drew (Below.refl _ W)).alloc (Nat.le_refl _) o).trans (h.mono (by simp))
theorem undrewTD {W u : World} {o : Obj} (h : Below (W.alloc o).drew.heap.size (W.alloc o).drew u) : Below W.heap.size W u := ((Below.refl _ W).alloc (Nat.le_refl _) o).trans ((show Below (W.alloc o).heap.size (W.alloc o) u from ⟨h.os, h.tape, h.output, h.size, h.block⟩).mono (by simp))
theorem cells_Td (w : World) (T : TypeId) (x y z : Int) : ∀ j, (hj : j < [x, y, z].length) → (w.alloc (Obj.cells #[.int .i64 x, .int .i64 y, .int .i64 z] T)).drew.cell? ⟨w.heap.size, j, none⟩ = some (.int .i64 ([x, y, z][j])) := cells_T w T x y z
theorem keepPl {w W W' : World} {g : Nat} {v0 v1 v2 v3 : Value} (h : W.cell? ⟨g, 0, none⟩ = some v0 ∧ W.cell? ⟨g, 1, none⟩ = some v1 ∧ W.cell? ⟨g, 2, none⟩ = some v2 ∧ W.cell? ⟨g, 3, none⟩ = some v3 ∧ Below w.heap.size w W) (hb : Below W.heap.size W W') :
    W'.cell? ⟨g, 0, none⟩ = some v0 ∧ W'.cell? ⟨g, 1, none⟩ = some v1 ∧ W'.cell? ⟨g, 2, none⟩ = some v2 ∧ W'.cell? ⟨g, 3, none⟩ = some v3 ∧ Below w.heap.size w W' := by
  obtain ⟨h0, h1, h2, h3, hB⟩ := h
  have l0 := World.block_lt_of_cell? W ⟨g, 0, none⟩ h0
  obtain ⟨k, _⟩ := bcell hb
  exact ⟨(k _ _ l0).trans h0, (k _ _ l0).trans h1, (k _ _ l0).trans h2, (k _ _ l0).trans h3, hB.trans (hb.mono hB.size)⟩

end Go.Proofs.YtkfhjmkodcahpaaDoor
