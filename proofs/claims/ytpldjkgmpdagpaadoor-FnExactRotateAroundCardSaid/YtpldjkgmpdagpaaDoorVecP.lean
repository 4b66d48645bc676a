/-
  Vectors of package impl: the contracts of components, vector, hasLength, products, quotients.
-/
import Derived.Test.YtpldjkgmpdagpaaDoorVec
import Derived.Test.YtpldjkgmpdagpaaDoorQ2
import Derived.Deep.LoopGhost
namespace Go.Proofs.YtpldjkgmpdagpaaDoor
open Go.RowKit
set_option linter.unusedVariables false

/-- The sum of the first k of three numbers. -/
def ps (a b c : Int) : Nat → Int
  | 0 => 0
  | 1 => a
  | 2 => a + b
  | _ => a + b + c
/-- Three numbers that lie one behind the other and may be written. -/
structure C3 (w : World) (g : Nat) (a b c : Int) : Prop where
  c0 : w.cell? ⟨g, 0, none⟩ = some (.int .i64 a)
  c1 : w.cell? ⟨g, 1, none⟩ = some (.int .i64 b)
  c2 : w.cell? ⟨g, 2, none⟩ = some (.int .i64 c)
  f0 : w.frozen? ⟨g, 0, none⟩ = false
  f1 : w.frozen? ⟨g, 1, none⟩ = false
  f2 : w.frozen? ⟨g, 2, none⟩ = false
theorem C3.stays {w w' : World} {g : Nat} {a b c : Int} (h : C3 w g a b c) (hb : Below w.heap.size w w') (hg : g < w.heap.size) : C3 w' g a b c := by
  obtain ⟨k1, k2⟩ := bcell hb
  exact ⟨(k1 g 0 hg).trans h.c0, (k1 g 1 hg).trans h.c1, (k1 g 2 hg).trans h.c2, (k2 g 0 hg).trans h.f0, (k2 g 1 hg).trans h.f1, (k2 g 2 hg).trans h.f2⟩
theorem C3.set0 {w : World} {g : Nat} {a b c : Int} (h : C3 w g a b c) (p : Int) : C3 (w.setCell ⟨g, 0, none⟩ (.int .i64 p)) g p b c :=
  ⟨by rw [World.cell?_setCell_same (h := h.c0)], by rw [World.cell?_setCell_other (h := by simp)]; exact h.c1, by rw [World.cell?_setCell_other (h := by simp)]; exact h.c2, by simp [h.f0], by simp [h.f1], by simp [h.f2]⟩
theorem C3.set1 {w : World} {g : Nat} {a b c : Int} (h : C3 w g a b c) (p : Int) : C3 (w.setCell ⟨g, 1, none⟩ (.int .i64 p)) g a p c :=
  ⟨by rw [World.cell?_setCell_other (h := by simp)]; exact h.c0, by rw [World.cell?_setCell_same (h := h.c1)], by rw [World.cell?_setCell_other (h := by simp)]; exact h.c2, by simp [h.f0], by simp [h.f1], by simp [h.f2]⟩
theorem C3.set2 {w : World} {g : Nat} {a b c : Int} (h : C3 w g a b c) (p : Int) : C3 (w.setCell ⟨g, 2, none⟩ (.int .i64 p)) g a b p :=
  ⟨by rw [World.cell?_setCell_other (h := by simp)]; exact h.c0, by rw [World.cell?_setCell_other (h := by simp)]; exact h.c1, by rw [World.cell?_setCell_same (h := h.c2)], by simp [h.f0], by simp [h.f1], by simp [h.f2]⟩
theorem C3.other {w : World} {g g' o : Nat} {v : Value} {a b c : Int} (h : C3 w g a b c) (hg : g' ≠ g) : C3 (w.setCell ⟨g', o, none⟩ v) g a b c :=
  ⟨by rw [World.cell?_setCell_other (h := by simp [hg])]; exact h.c0, by rw [World.cell?_setCell_other (h := by simp [hg])]; exact h.c1, by rw [World.cell?_setCell_other (h := by simp [hg])]; exact h.c2, by simp [h.f0], by simp [h.f1], by simp [h.f2]⟩
end Go.Proofs.YtpldjkgmpdagpaaDoor
