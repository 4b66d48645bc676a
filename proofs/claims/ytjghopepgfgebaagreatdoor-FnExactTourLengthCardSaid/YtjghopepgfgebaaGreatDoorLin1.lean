/-
  LineLength (packages impl and spec).
-/
import Derived.Test.YtjghopepgfgebaaGreatDoorFar1
namespace Go.Proofs.YtjghopepgfgebaaGreatDoor
open Go.RowKit
set_option linter.unusedVariables false

theorem okL_good {zs : List StarV} (h : okL zs = true) (j : Nat) (hj : j < zs.length) : zs[j].good = true := by
  unfold okL at h
  simp only [Bool.and_eq_true] at h
  have h1 := h.1
  unfold okZ at h1
  rw [List.all_eq_true] at h1
  have h2 := h1 j (List.mem_range.2 hj)
  unfold stepB at h2
  rw [getD_at zs j hj] at h2
  simp only [Bool.and_eq_true] at h2
  exact h2.1
theorem okL_dir {zs : List StarV} (h : okL zs = true) (j : Nat) (hj : j < zs.length) : dirB zs[j].a zs[j].b = true := by
  have h1 := okL_good h j hj
  unfold StarV.good starB at h1
  simp only [Bool.and_eq_true] at h1
  exact h1.2.1
theorem okL_len {zs : List StarV} (h : okL zs = true) : zs.length ≤ 24 := by
  unfold okL at h
  simp only [Bool.and_eq_true, decide_eq_true_eq] at h
  exact h.2

def lineV (zs : List StarV) (i k : Int) : Int × Int := if okL zs = true then (if inR 0 ((zs.length : Int) - 1) [i, k] = true then (farN (zs.getD i.toNat star0) (zs.getD k.toNat star0), 0) else (0, 2)) else (0, 1)

theorem keepT {w W W' : World} {g g' o o' : Nat} {v0 v1 v2 v3 v4 u0 u1 u2 u3 u4 : Value} (h : W.cell? ⟨g, o, none⟩ = some v0 ∧ W.cell? ⟨g, o + 1, none⟩ = some v1 ∧ W.cell? ⟨g, o + 2, none⟩ = some v2 ∧ W.cell? ⟨g, o + 3, none⟩ = some v3 ∧ W.cell? ⟨g, o + 4, none⟩ = some v4 ∧ W.cell? ⟨g', o', none⟩ = some u0 ∧ W.cell? ⟨g', o' + 1, none⟩ = some u1 ∧ W.cell? ⟨g', o' + 2, none⟩ = some u2 ∧ W.cell? ⟨g', o' + 3, none⟩ = some u3 ∧ W.cell? ⟨g', o' + 4, none⟩ = some u4 ∧ Below w.heap.size w W) (hb : Below W.heap.size W W') :
    W'.cell? ⟨g, o, none⟩ = some v0 ∧ W'.cell? ⟨g, o + 1, none⟩ = some v1 ∧ W'.cell? ⟨g, o + 2, none⟩ = some v2 ∧ W'.cell? ⟨g, o + 3, none⟩ = some v3 ∧ W'.cell? ⟨g, o + 4, none⟩ = some v4 ∧ W'.cell? ⟨g', o', none⟩ = some u0 ∧ W'.cell? ⟨g', o' + 1, none⟩ = some u1 ∧ W'.cell? ⟨g', o' + 2, none⟩ = some u2 ∧ W'.cell? ⟨g', o' + 3, none⟩ = some u3 ∧ W'.cell? ⟨g', o' + 4, none⟩ = some u4 ∧ Below w.heap.size w W' := by
  obtain ⟨h0, h1, h2, h3, h4, k0, k1, k2, k3, k4, hB⟩ := h
  have l0 := World.block_lt_of_cell? W ⟨g, o, none⟩ h0
  have l1 := World.block_lt_of_cell? W ⟨g', o', none⟩ k0
  obtain ⟨b, _⟩ := bcell hb
  exact ⟨(b _ _ l0).trans h0, (b _ _ l0).trans h1, (b _ _ l0).trans h2, (b _ _ l0).trans h3, (b _ _ l0).trans h4, (b _ _ l1).trans k0, (b _ _ l1).trans k1, (b _ _ l1).trans k2, (b _ _ l1).trans k3, (b _ _ l1).trans k4, hB.trans (hb.mono hB.size)⟩

end Go.Proofs.YtjghopepgfgebaaGreatDoor
