/-
  Cells that stay: n cells and what lies below them.
  Figures as arguments: what a list of lists of numbers and a figure read as; a row of rows of one's own.
  Figures: the contracts of szFigure, toFigure, eqFigure and of their parts (package laws).
  Lines of figures: the contracts of isIndex, isValidFor with its closure, slices.Compare, isIncreasing (package impl).
  Valid figures: the contracts of ValidFigure (packages impl and spec), l08Ok, l08Lines (package spec).
  FigureLength and pathLength (packages impl and spec).
-/
import Derived.Test.YtoellkbmhpekdaaGreatDoorVec0
import Derived.Test.YtoellkbmhpekdaaGreatDoorStar0
import Derived.Deep.OwnRows
import Derived.OpenShut
import Derived.ChangeSlices
import Derived.Deep.LoopGhost
import Derived.WideMake
import Derived.Deep.RegionHeld3
import Derived.Deep.QuietTactic
import Derived.BigQuiet
import Derived.Deep.Draws
import Derived.Test.YtoellkbmhpekdaaGreatDoorStar1
import Derived.Test.YtoellkbmhpekdaaGreatDoorStarI
import Derived.Test.YtoellkbmhpekdaaGreatDoorLin1
namespace Go.Proofs.YtoellkbmhpekdaaGreatDoor
section
open Go.RowKit
set_option linter.unusedVariables false

theorem undrewG {W u : World} (h : Below W.drew.heap.size W.drew u) : Below W.heap.size W u := ⟨h.os, h.tape, h.output, h.size, h.block⟩
theorem drewG (W : World) : Below W.heap.size W W.drew := ⟨rfl, rfl, rfl, Nat.le_refl _, fun _ _ => rfl⟩
theorem keepG1 {w W W' : World} {B b0 o0 : Nat} {v0 : Value} (h : W.cell? ⟨b0, o0, none⟩ = some v0 ∧ Below B w W) (hB : B ≤ W.heap.size) (hb : Below W.heap.size W W') :
    W'.cell? ⟨b0, o0, none⟩ = some v0 ∧ Below B w W' := by
  obtain ⟨h0, hw⟩ := h
  obtain ⟨c, _⟩ := bcell hb
  exact ⟨(c _ _ (World.block_lt_of_cell? W ⟨b0, o0, none⟩ h0)).trans h0, hw.trans (hb.mono hB)⟩
theorem keepW1 {w W W' : World} {b0 o0 : Nat} {v0 : Value} (h : W.cell? ⟨b0, o0, none⟩ = some v0 ∧ Below w.heap.size w W) (hb : Below W.heap.size W W') :
    W'.cell? ⟨b0, o0, none⟩ = some v0 ∧ Below w.heap.size w W' := keepG1 h (h.2).size hb
theorem keepG2 {w W W' : World} {B b0 o0 b1 o1 : Nat} {v0 v1 : Value} (h : W.cell? ⟨b0, o0, none⟩ = some v0 ∧ W.cell? ⟨b1, o1, none⟩ = some v1 ∧ Below B w W) (hB : B ≤ W.heap.size) (hb : Below W.heap.size W W') :
    W'.cell? ⟨b0, o0, none⟩ = some v0 ∧ W'.cell? ⟨b1, o1, none⟩ = some v1 ∧ Below B w W' := by
  obtain ⟨h0, h1, hw⟩ := h
  obtain ⟨c, _⟩ := bcell hb
  exact ⟨(c _ _ (World.block_lt_of_cell? W ⟨b0, o0, none⟩ h0)).trans h0, (c _ _ (World.block_lt_of_cell? W ⟨b1, o1, none⟩ h1)).trans h1, hw.trans (hb.mono hB)⟩
theorem keepW2 {w W W' : World} {b0 o0 b1 o1 : Nat} {v0 v1 : Value} (h : W.cell? ⟨b0, o0, none⟩ = some v0 ∧ W.cell? ⟨b1, o1, none⟩ = some v1 ∧ Below w.heap.size w W) (hb : Below W.heap.size W W') :
    W'.cell? ⟨b0, o0, none⟩ = some v0 ∧ W'.cell? ⟨b1, o1, none⟩ = some v1 ∧ Below w.heap.size w W' := keepG2 h (h.2.2).size hb
theorem keepG3 {w W W' : World} {B b0 o0 b1 o1 b2 o2 : Nat} {v0 v1 v2 : Value} (h : W.cell? ⟨b0, o0, none⟩ = some v0 ∧ W.cell? ⟨b1, o1, none⟩ = some v1 ∧ W.cell? ⟨b2, o2, none⟩ = some v2 ∧ Below B w W) (hB : B ≤ W.heap.size) (hb : Below W.heap.size W W') :
    W'.cell? ⟨b0, o0, none⟩ = some v0 ∧ W'.cell? ⟨b1, o1, none⟩ = some v1 ∧ W'.cell? ⟨b2, o2, none⟩ = some v2 ∧ Below B w W' := by
  obtain ⟨h0, h1, h2, hw⟩ := h
  obtain ⟨c, _⟩ := bcell hb
  exact ⟨(c _ _ (World.block_lt_of_cell? W ⟨b0, o0, none⟩ h0)).trans h0, (c _ _ (World.block_lt_of_cell? W ⟨b1, o1, none⟩ h1)).trans h1, (c _ _ (World.block_lt_of_cell? W ⟨b2, o2, none⟩ h2)).trans h2, hw.trans (hb.mono hB)⟩
theorem keepW3 {w W W' : World} {b0 o0 b1 o1 b2 o2 : Nat} {v0 v1 v2 : Value} (h : W.cell? ⟨b0, o0, none⟩ = some v0 ∧ W.cell? ⟨b1, o1, none⟩ = some v1 ∧ W.cell? ⟨b2, o2, none⟩ = some v2 ∧ Below w.heap.size w W) (hb : Below W.heap.size W W') :
    W'.cell? ⟨b0, o0, none⟩ = some v0 ∧ W'.cell? ⟨b1, o1, none⟩ = some v1 ∧ W'.cell? ⟨b2, o2, none⟩ = some v2 ∧ Below w.heap.size w W' := keepG3 h (h.2.2.2).size hb
theorem keepG4 {w W W' : World} {B b0 o0 b1 o1 b2 o2 b3 o3 : Nat} {v0 v1 v2 v3 : Value} (h : W.cell? ⟨b0, o0, none⟩ = some v0 ∧ W.cell? ⟨b1, o1, none⟩ = some v1 ∧ W.cell? ⟨b2, o2, none⟩ = some v2 ∧ W.cell? ⟨b3, o3, none⟩ = some v3 ∧ Below B w W) (hB : B ≤ W.heap.size) (hb : Below W.heap.size W W') :
    W'.cell? ⟨b0, o0, none⟩ = some v0 ∧ W'.cell? ⟨b1, o1, none⟩ = some v1 ∧ W'.cell? ⟨b2, o2, none⟩ = some v2 ∧ W'.cell? ⟨b3, o3, none⟩ = some v3 ∧ Below B w W' := by
  obtain ⟨h0, h1, h2, h3, hw⟩ := h
  obtain ⟨c, _⟩ := bcell hb
  exact ⟨(c _ _ (World.block_lt_of_cell? W ⟨b0, o0, none⟩ h0)).trans h0, (c _ _ (World.block_lt_of_cell? W ⟨b1, o1, none⟩ h1)).trans h1, (c _ _ (World.block_lt_of_cell? W ⟨b2, o2, none⟩ h2)).trans h2, (c _ _ (World.block_lt_of_cell? W ⟨b3, o3, none⟩ h3)).trans h3, hw.trans (hb.mono hB)⟩
theorem keepW4 {w W W' : World} {b0 o0 b1 o1 b2 o2 b3 o3 : Nat} {v0 v1 v2 v3 : Value} (h : W.cell? ⟨b0, o0, none⟩ = some v0 ∧ W.cell? ⟨b1, o1, none⟩ = some v1 ∧ W.cell? ⟨b2, o2, none⟩ = some v2 ∧ W.cell? ⟨b3, o3, none⟩ = some v3 ∧ Below w.heap.size w W) (hb : Below W.heap.size W W') :
    W'.cell? ⟨b0, o0, none⟩ = some v0 ∧ W'.cell? ⟨b1, o1, none⟩ = some v1 ∧ W'.cell? ⟨b2, o2, none⟩ = some v2 ∧ W'.cell? ⟨b3, o3, none⟩ = some v3 ∧ Below w.heap.size w W' := keepG4 h (h.2.2.2.2).size hb
theorem keepG5 {w W W' : World} {B b0 o0 b1 o1 b2 o2 b3 o3 b4 o4 : Nat} {v0 v1 v2 v3 v4 : Value} (h : W.cell? ⟨b0, o0, none⟩ = some v0 ∧ W.cell? ⟨b1, o1, none⟩ = some v1 ∧ W.cell? ⟨b2, o2, none⟩ = some v2 ∧ W.cell? ⟨b3, o3, none⟩ = some v3 ∧ W.cell? ⟨b4, o4, none⟩ = some v4 ∧ Below B w W) (hB : B ≤ W.heap.size) (hb : Below W.heap.size W W') :
    W'.cell? ⟨b0, o0, none⟩ = some v0 ∧ W'.cell? ⟨b1, o1, none⟩ = some v1 ∧ W'.cell? ⟨b2, o2, none⟩ = some v2 ∧ W'.cell? ⟨b3, o3, none⟩ = some v3 ∧ W'.cell? ⟨b4, o4, none⟩ = some v4 ∧ Below B w W' := by
  obtain ⟨h0, h1, h2, h3, h4, hw⟩ := h
  obtain ⟨c, _⟩ := bcell hb
  exact ⟨(c _ _ (World.block_lt_of_cell? W ⟨b0, o0, none⟩ h0)).trans h0, (c _ _ (World.block_lt_of_cell? W ⟨b1, o1, none⟩ h1)).trans h1, (c _ _ (World.block_lt_of_cell? W ⟨b2, o2, none⟩ h2)).trans h2, (c _ _ (World.block_lt_of_cell? W ⟨b3, o3, none⟩ h3)).trans h3, (c _ _ (World.block_lt_of_cell? W ⟨b4, o4, none⟩ h4)).trans h4, hw.trans (hb.mono hB)⟩
theorem keepW5 {w W W' : World} {b0 o0 b1 o1 b2 o2 b3 o3 b4 o4 : Nat} {v0 v1 v2 v3 v4 : Value} (h : W.cell? ⟨b0, o0, none⟩ = some v0 ∧ W.cell? ⟨b1, o1, none⟩ = some v1 ∧ W.cell? ⟨b2, o2, none⟩ = some v2 ∧ W.cell? ⟨b3, o3, none⟩ = some v3 ∧ W.cell? ⟨b4, o4, none⟩ = some v4 ∧ Below w.heap.size w W) (hb : Below W.heap.size W W') :
    W'.cell? ⟨b0, o0, none⟩ = some v0 ∧ W'.cell? ⟨b1, o1, none⟩ = some v1 ∧ W'.cell? ⟨b2, o2, none⟩ = some v2 ∧ W'.cell? ⟨b3, o3, none⟩ = some v3 ∧ W'.cell? ⟨b4, o4, none⟩ = some v4 ∧ Below w.heap.size w W' := keepG5 h (h.2.2.2.2.2).size hb
theorem keepG6 {w W W' : World} {B b0 o0 b1 o1 b2 o2 b3 o3 b4 o4 b5 o5 : Nat} {v0 v1 v2 v3 v4 v5 : Value} (h : W.cell? ⟨b0, o0, none⟩ = some v0 ∧ W.cell? ⟨b1, o1, none⟩ = some v1 ∧ W.cell? ⟨b2, o2, none⟩ = some v2 ∧ W.cell? ⟨b3, o3, none⟩ = some v3 ∧ W.cell? ⟨b4, o4, none⟩ = some v4 ∧ W.cell? ⟨b5, o5, none⟩ = some v5 ∧ Below B w W) (hB : B ≤ W.heap.size) (hb : Below W.heap.size W W') :
    W'.cell? ⟨b0, o0, none⟩ = some v0 ∧ W'.cell? ⟨b1, o1, none⟩ = some v1 ∧ W'.cell? ⟨b2, o2, none⟩ = some v2 ∧ W'.cell? ⟨b3, o3, none⟩ = some v3 ∧ W'.cell? ⟨b4, o4, none⟩ = some v4 ∧ W'.cell? ⟨b5, o5, none⟩ = some v5 ∧ Below B w W' := by
  obtain ⟨h0, h1, h2, h3, h4, h5, hw⟩ := h
  obtain ⟨c, _⟩ := bcell hb
  exact ⟨(c _ _ (World.block_lt_of_cell? W ⟨b0, o0, none⟩ h0)).trans h0, (c _ _ (World.block_lt_of_cell? W ⟨b1, o1, none⟩ h1)).trans h1, (c _ _ (World.block_lt_of_cell? W ⟨b2, o2, none⟩ h2)).trans h2, (c _ _ (World.block_lt_of_cell? W ⟨b3, o3, none⟩ h3)).trans h3, (c _ _ (World.block_lt_of_cell? W ⟨b4, o4, none⟩ h4)).trans h4, (c _ _ (World.block_lt_of_cell? W ⟨b5, o5, none⟩ h5)).trans h5, hw.trans (hb.mono hB)⟩
theorem keepW6 {w W W' : World} {b0 o0 b1 o1 b2 o2 b3 o3 b4 o4 b5 o5 : Nat} {v0 v1 v2 v3 v4 v5 : Value} (h : W.cell? ⟨b0, o0, none⟩ = some v0 ∧ W.cell? ⟨b1, o1, none⟩ = some v1 ∧ W.cell? ⟨b2, o2, none⟩ = some v2 ∧ W.cell? ⟨b3, o3, none⟩ = some v3 ∧ W.cell? ⟨b4, o4, none⟩ = some v4 ∧ W.cell? ⟨b5, o5, none⟩ = some v5 ∧ Below w.heap.size w W) (hb : Below W.heap.size W W') :
    W'.cell? ⟨b0, o0, none⟩ = some v0 ∧ W'.cell? ⟨b1, o1, none⟩ = some v1 ∧ W'.cell? ⟨b2, o2, none⟩ = some v2 ∧ W'.cell? ⟨b3, o3, none⟩ = some v3 ∧ W'.cell? ⟨b4, o4, none⟩ = some v4 ∧ W'.cell? ⟨b5, o5, none⟩ = some v5 ∧ Below w.heap.size w W' := keepG6 h (h.2.2.2.2.2.2).size hb
theorem keepG7 {w W W' : World} {B b0 o0 b1 o1 b2 o2 b3 o3 b4 o4 b5 o5 b6 o6 : Nat} {v0 v1 v2 v3 v4 v5 v6 : Value} (h : W.cell? ⟨b0, o0, none⟩ = some v0 ∧ W.cell? ⟨b1, o1, none⟩ = some v1 ∧ W.cell? ⟨b2, o2, none⟩ = some v2 ∧ W.cell? ⟨b3, o3, none⟩ = some v3 ∧ W.cell? ⟨b4, o4, none⟩ = some v4 ∧ W.cell? ⟨b5, o5, none⟩ = some v5 ∧ W.cell? ⟨b6, o6, none⟩ = some v6 ∧ Below B w W) (hB : B ≤ W.heap.size) (hb : Below W.heap.size W W') :
    W'.cell? ⟨b0, o0, none⟩ = some v0 ∧ W'.cell? ⟨b1, o1, none⟩ = some v1 ∧ W'.cell? ⟨b2, o2, none⟩ = some v2 ∧ W'.cell? ⟨b3, o3, none⟩ = some v3 ∧ W'.cell? ⟨b4, o4, none⟩ = some v4 ∧ W'.cell? ⟨b5, o5, none⟩ = some v5 ∧ W'.cell? ⟨b6, o6, none⟩ = some v6 ∧ Below B w W' := by
  obtain ⟨h0, h1, h2, h3, h4, h5, h6, hw⟩ := h
  obtain ⟨c, _⟩ := bcell hb
  exact ⟨(c _ _ (World.block_lt_of_cell? W ⟨b0, o0, none⟩ h0)).trans h0, (c _ _ (World.block_lt_of_cell? W ⟨b1, o1, none⟩ h1)).trans h1, (c _ _ (World.block_lt_of_cell? W ⟨b2, o2, none⟩ h2)).trans h2, (c _ _ (World.block_lt_of_cell? W ⟨b3, o3, none⟩ h3)).trans h3, (c _ _ (World.block_lt_of_cell? W ⟨b4, o4, none⟩ h4)).trans h4, (c _ _ (World.block_lt_of_cell? W ⟨b5, o5, none⟩ h5)).trans h5, (c _ _ (World.block_lt_of_cell? W ⟨b6, o6, none⟩ h6)).trans h6, hw.trans (hb.mono hB)⟩
theorem keepW7 {w W W' : World} {b0 o0 b1 o1 b2 o2 b3 o3 b4 o4 b5 o5 b6 o6 : Nat} {v0 v1 v2 v3 v4 v5 v6 : Value} (h : W.cell? ⟨b0, o0, none⟩ = some v0 ∧ W.cell? ⟨b1, o1, none⟩ = some v1 ∧ W.cell? ⟨b2, o2, none⟩ = some v2 ∧ W.cell? ⟨b3, o3, none⟩ = some v3 ∧ W.cell? ⟨b4, o4, none⟩ = some v4 ∧ W.cell? ⟨b5, o5, none⟩ = some v5 ∧ W.cell? ⟨b6, o6, none⟩ = some v6 ∧ Below w.heap.size w W) (hb : Below W.heap.size W W') :
    W'.cell? ⟨b0, o0, none⟩ = some v0 ∧ W'.cell? ⟨b1, o1, none⟩ = some v1 ∧ W'.cell? ⟨b2, o2, none⟩ = some v2 ∧ W'.cell? ⟨b3, o3, none⟩ = some v3 ∧ W'.cell? ⟨b4, o4, none⟩ = some v4 ∧ W'.cell? ⟨b5, o5, none⟩ = some v5 ∧ W'.cell? ⟨b6, o6, none⟩ = some v6 ∧ Below w.heap.size w W' := keepG7 h (h.2.2.2.2.2.2.2).size hb
theorem keepG8 {w W W' : World} {B b0 o0 b1 o1 b2 o2 b3 o3 b4 o4 b5 o5 b6 o6 b7 o7 : Nat} {v0 v1 v2 v3 v4 v5 v6 v7 : Value} (h : W.cell? ⟨b0, o0, none⟩ = some v0 ∧ W.cell? ⟨b1, o1, none⟩ = some v1 ∧ W.cell? ⟨b2, o2, none⟩ = some v2 ∧ W.cell? ⟨b3, o3, none⟩ = some v3 ∧ W.cell? ⟨b4, o4, none⟩ = some v4 ∧ W.cell? ⟨b5, o5, none⟩ = some v5 ∧ W.cell? ⟨b6, o6, none⟩ = some v6 ∧ W.cell? ⟨b7, o7, none⟩ = some v7 ∧ Below B w W) (hB : B ≤ W.heap.size) (hb : Below W.heap.size W W') :
    W'.cell? ⟨b0, o0, none⟩ = some v0 ∧ W'.cell? ⟨b1, o1, none⟩ = some v1 ∧ W'.cell? ⟨b2, o2, none⟩ = some v2 ∧ W'.cell? ⟨b3, o3, none⟩ = some v3 ∧ W'.cell? ⟨b4, o4, none⟩ = some v4 ∧ W'.cell? ⟨b5, o5, none⟩ = some v5 ∧ W'.cell? ⟨b6, o6, none⟩ = some v6 ∧ W'.cell? ⟨b7, o7, none⟩ = some v7 ∧ Below B w W' := by
  obtain ⟨h0, h1, h2, h3, h4, h5, h6, h7, hw⟩ := h
  obtain ⟨c, _⟩ := bcell hb
  exact ⟨(c _ _ (World.block_lt_of_cell? W ⟨b0, o0, none⟩ h0)).trans h0, (c _ _ (World.block_lt_of_cell? W ⟨b1, o1, none⟩ h1)).trans h1, (c _ _ (World.block_lt_of_cell? W ⟨b2, o2, none⟩ h2)).trans h2, (c _ _ (World.block_lt_of_cell? W ⟨b3, o3, none⟩ h3)).trans h3, (c _ _ (World.block_lt_of_cell? W ⟨b4, o4, none⟩ h4)).trans h4, (c _ _ (World.block_lt_of_cell? W ⟨b5, o5, none⟩ h5)).trans h5, (c _ _ (World.block_lt_of_cell? W ⟨b6, o6, none⟩ h6)).trans h6, (c _ _ (World.block_lt_of_cell? W ⟨b7, o7, none⟩ h7)).trans h7, hw.trans (hb.mono hB)⟩
theorem keepW8 {w W W' : World} {b0 o0 b1 o1 b2 o2 b3 o3 b4 o4 b5 o5 b6 o6 b7 o7 : Nat} {v0 v1 v2 v3 v4 v5 v6 v7 : Value} (h : W.cell? ⟨b0, o0, none⟩ = some v0 ∧ W.cell? ⟨b1, o1, none⟩ = some v1 ∧ W.cell? ⟨b2, o2, none⟩ = some v2 ∧ W.cell? ⟨b3, o3, none⟩ = some v3 ∧ W.cell? ⟨b4, o4, none⟩ = some v4 ∧ W.cell? ⟨b5, o5, none⟩ = some v5 ∧ W.cell? ⟨b6, o6, none⟩ = some v6 ∧ W.cell? ⟨b7, o7, none⟩ = some v7 ∧ Below w.heap.size w W) (hb : Below W.heap.size W W') :
    W'.cell? ⟨b0, o0, none⟩ = some v0 ∧ W'.cell? ⟨b1, o1, none⟩ = some v1 ∧ W'.cell? ⟨b2, o2, none⟩ = some v2 ∧ W'.cell? ⟨b3, o3, none⟩ = some v3 ∧ W'.cell? ⟨b4, o4, none⟩ = some v4 ∧ W'.cell? ⟨b5, o5, none⟩ = some v5 ∧ W'.cell? ⟨b6, o6, none⟩ = some v6 ∧ W'.cell? ⟨b7, o7, none⟩ = some v7 ∧ Below w.heap.size w W' := keepG8 h (h.2.2.2.2.2.2.2.2).size hb
theorem keepG9 {w W W' : World} {B b0 o0 b1 o1 b2 o2 b3 o3 b4 o4 b5 o5 b6 o6 b7 o7 b8 o8 : Nat} {v0 v1 v2 v3 v4 v5 v6 v7 v8 : Value} (h : W.cell? ⟨b0, o0, none⟩ = some v0 ∧ W.cell? ⟨b1, o1, none⟩ = some v1 ∧ W.cell? ⟨b2, o2, none⟩ = some v2 ∧ W.cell? ⟨b3, o3, none⟩ = some v3 ∧ W.cell? ⟨b4, o4, none⟩ = some v4 ∧ W.cell? ⟨b5, o5, none⟩ = some v5 ∧ W.cell? ⟨b6, o6, none⟩ = some v6 ∧ W.cell? ⟨b7, o7, none⟩ = some v7 ∧ W.cell? ⟨b8, o8, none⟩ = some v8 ∧ Below B w W) (hB : B ≤ W.heap.size) (hb : Below W.heap.size W W') :
    W'.cell? ⟨b0, o0, none⟩ = some v0 ∧ W'.cell? ⟨b1, o1, none⟩ = some v1 ∧ W'.cell? ⟨b2, o2, none⟩ = some v2 ∧ W'.cell? ⟨b3, o3, none⟩ = some v3 ∧ W'.cell? ⟨b4, o4, none⟩ = some v4 ∧ W'.cell? ⟨b5, o5, none⟩ = some v5 ∧ W'.cell? ⟨b6, o6, none⟩ = some v6 ∧ W'.cell? ⟨b7, o7, none⟩ = some v7 ∧ W'.cell? ⟨b8, o8, none⟩ = some v8 ∧ Below B w W' := by
  obtain ⟨h0, h1, h2, h3, h4, h5, h6, h7, h8, hw⟩ := h
  obtain ⟨c, _⟩ := bcell hb
  exact ⟨(c _ _ (World.block_lt_of_cell? W ⟨b0, o0, none⟩ h0)).trans h0, (c _ _ (World.block_lt_of_cell? W ⟨b1, o1, none⟩ h1)).trans h1, (c _ _ (World.block_lt_of_cell? W ⟨b2, o2, none⟩ h2)).trans h2, (c _ _ (World.block_lt_of_cell? W ⟨b3, o3, none⟩ h3)).trans h3, (c _ _ (World.block_lt_of_cell? W ⟨b4, o4, none⟩ h4)).trans h4, (c _ _ (World.block_lt_of_cell? W ⟨b5, o5, none⟩ h5)).trans h5, (c _ _ (World.block_lt_of_cell? W ⟨b6, o6, none⟩ h6)).trans h6, (c _ _ (World.block_lt_of_cell? W ⟨b7, o7, none⟩ h7)).trans h7, (c _ _ (World.block_lt_of_cell? W ⟨b8, o8, none⟩ h8)).trans h8, hw.trans (hb.mono hB)⟩
theorem keepW9 {w W W' : World} {b0 o0 b1 o1 b2 o2 b3 o3 b4 o4 b5 o5 b6 o6 b7 o7 b8 o8 : Nat} {v0 v1 v2 v3 v4 v5 v6 v7 v8 : Value} (h : W.cell? ⟨b0, o0, none⟩ = some v0 ∧ W.cell? ⟨b1, o1, none⟩ = some v1 ∧ W.cell? ⟨b2, o2, none⟩ = some v2 ∧ W.cell? ⟨b3, o3, none⟩ = some v3 ∧ W.cell? ⟨b4, o4, none⟩ = some v4 ∧ W.cell? ⟨b5, o5, none⟩ = some v5 ∧ W.cell? ⟨b6, o6, none⟩ = some v6 ∧ W.cell? ⟨b7, o7, none⟩ = some v7 ∧ W.cell? ⟨b8, o8, none⟩ = some v8 ∧ Below w.heap.size w W) (hb : Below W.heap.size W W') :
    W'.cell? ⟨b0, o0, none⟩ = some v0 ∧ W'.cell? ⟨b1, o1, none⟩ = some v1 ∧ W'.cell? ⟨b2, o2, none⟩ = some v2 ∧ W'.cell? ⟨b3, o3, none⟩ = some v3 ∧ W'.cell? ⟨b4, o4, none⟩ = some v4 ∧ W'.cell? ⟨b5, o5, none⟩ = some v5 ∧ W'.cell? ⟨b6, o6, none⟩ = some v6 ∧ W'.cell? ⟨b7, o7, none⟩ = some v7 ∧ W'.cell? ⟨b8, o8, none⟩ = some v8 ∧ Below w.heap.size w W' := keepG9 h (h.2.2.2.2.2.2.2.2.2).size hb
theorem keepG10 {w W W' : World} {B b0 o0 b1 o1 b2 o2 b3 o3 b4 o4 b5 o5 b6 o6 b7 o7 b8 o8 b9 o9 : Nat} {v0 v1 v2 v3 v4 v5 v6 v7 v8 v9 : Value} (h : W.cell? ⟨b0, o0, none⟩ = some v0 ∧ W.cell? ⟨b1, o1, none⟩ = some v1 ∧ W.cell? ⟨b2, o2, none⟩ = some v2 ∧ W.cell? ⟨b3, o3, none⟩ = some v3 ∧ W.cell? ⟨b4, o4, none⟩ = some v4 ∧ W.cell? ⟨b5, o5, none⟩ = some v5 ∧ W.cell? ⟨b6, o6, none⟩ = some v6 ∧ W.cell? ⟨b7, o7, none⟩ = some v7 ∧ W.cell? ⟨b8, o8, none⟩ = some v8 ∧ W.cell? ⟨b9, o9, none⟩ = some v9 ∧ Below B w W) (hB : B ≤ W.heap.size) (hb : Below W.heap.size W W') :
    W'.cell? ⟨b0, o0, none⟩ = some v0 ∧ W'.cell? ⟨b1, o1, none⟩ = some v1 ∧ W'.cell? ⟨b2, o2, none⟩ = some v2 ∧ W'.cell? ⟨b3, o3, none⟩ = some v3 ∧ W'.cell? ⟨b4, o4, none⟩ = some v4 ∧ W'.cell? ⟨b5, o5, none⟩ = some v5 ∧ W'.cell? ⟨b6, o6, none⟩ = some v6 ∧ W'.cell? ⟨b7, o7, none⟩ = some v7 ∧ W'.cell? ⟨b8, o8, none⟩ = some v8 ∧ W'.cell? ⟨b9, o9, none⟩ = some v9 ∧ Below B w W' := by
  obtain ⟨h0, h1, h2, h3, h4, h5, h6, h7, h8, h9, hw⟩ := h
  obtain ⟨c, _⟩ := bcell hb
  exact ⟨(c _ _ (World.block_lt_of_cell? W ⟨b0, o0, none⟩ h0)).trans h0, (c _ _ (World.block_lt_of_cell? W ⟨b1, o1, none⟩ h1)).trans h1, (c _ _ (World.block_lt_of_cell? W ⟨b2, o2, none⟩ h2)).trans h2, (c _ _ (World.block_lt_of_cell? W ⟨b3, o3, none⟩ h3)).trans h3, (c _ _ (World.block_lt_of_cell? W ⟨b4, o4, none⟩ h4)).trans h4, (c _ _ (World.block_lt_of_cell? W ⟨b5, o5, none⟩ h5)).trans h5, (c _ _ (World.block_lt_of_cell? W ⟨b6, o6, none⟩ h6)).trans h6, (c _ _ (World.block_lt_of_cell? W ⟨b7, o7, none⟩ h7)).trans h7, (c _ _ (World.block_lt_of_cell? W ⟨b8, o8, none⟩ h8)).trans h8, (c _ _ (World.block_lt_of_cell? W ⟨b9, o9, none⟩ h9)).trans h9, hw.trans (hb.mono hB)⟩
theorem keepW10 {w W W' : World} {b0 o0 b1 o1 b2 o2 b3 o3 b4 o4 b5 o5 b6 o6 b7 o7 b8 o8 b9 o9 : Nat} {v0 v1 v2 v3 v4 v5 v6 v7 v8 v9 : Value} (h : W.cell? ⟨b0, o0, none⟩ = some v0 ∧ W.cell? ⟨b1, o1, none⟩ = some v1 ∧ W.cell? ⟨b2, o2, none⟩ = some v2 ∧ W.cell? ⟨b3, o3, none⟩ = some v3 ∧ W.cell? ⟨b4, o4, none⟩ = some v4 ∧ W.cell? ⟨b5, o5, none⟩ = some v5 ∧ W.cell? ⟨b6, o6, none⟩ = some v6 ∧ W.cell? ⟨b7, o7, none⟩ = some v7 ∧ W.cell? ⟨b8, o8, none⟩ = some v8 ∧ W.cell? ⟨b9, o9, none⟩ = some v9 ∧ Below w.heap.size w W) (hb : Below W.heap.size W W') :
    W'.cell? ⟨b0, o0, none⟩ = some v0 ∧ W'.cell? ⟨b1, o1, none⟩ = some v1 ∧ W'.cell? ⟨b2, o2, none⟩ = some v2 ∧ W'.cell? ⟨b3, o3, none⟩ = some v3 ∧ W'.cell? ⟨b4, o4, none⟩ = some v4 ∧ W'.cell? ⟨b5, o5, none⟩ = some v5 ∧ W'.cell? ⟨b6, o6, none⟩ = some v6 ∧ W'.cell? ⟨b7, o7, none⟩ = some v7 ∧ W'.cell? ⟨b8, o8, none⟩ = some v8 ∧ W'.cell? ⟨b9, o9, none⟩ = some v9 ∧ Below w.heap.size w W' := keepG10 h (h.2.2.2.2.2.2.2.2.2.2).size hb
theorem keepG11 {w W W' : World} {B b0 o0 b1 o1 b2 o2 b3 o3 b4 o4 b5 o5 b6 o6 b7 o7 b8 o8 b9 o9 b10 o10 : Nat} {v0 v1 v2 v3 v4 v5 v6 v7 v8 v9 v10 : Value} (h : W.cell? ⟨b0, o0, none⟩ = some v0 ∧ W.cell? ⟨b1, o1, none⟩ = some v1 ∧ W.cell? ⟨b2, o2, none⟩ = some v2 ∧ W.cell? ⟨b3, o3, none⟩ = some v3 ∧ W.cell? ⟨b4, o4, none⟩ = some v4 ∧ W.cell? ⟨b5, o5, none⟩ = some v5 ∧ W.cell? ⟨b6, o6, none⟩ = some v6 ∧ W.cell? ⟨b7, o7, none⟩ = some v7 ∧ W.cell? ⟨b8, o8, none⟩ = some v8 ∧ W.cell? ⟨b9, o9, none⟩ = some v9 ∧ W.cell? ⟨b10, o10, none⟩ = some v10 ∧ Below B w W) (hB : B ≤ W.heap.size) (hb : Below W.heap.size W W') :
    W'.cell? ⟨b0, o0, none⟩ = some v0 ∧ W'.cell? ⟨b1, o1, none⟩ = some v1 ∧ W'.cell? ⟨b2, o2, none⟩ = some v2 ∧ W'.cell? ⟨b3, o3, none⟩ = some v3 ∧ W'.cell? ⟨b4, o4, none⟩ = some v4 ∧ W'.cell? ⟨b5, o5, none⟩ = some v5 ∧ W'.cell? ⟨b6, o6, none⟩ = some v6 ∧ W'.cell? ⟨b7, o7, none⟩ = some v7 ∧ W'.cell? ⟨b8, o8, none⟩ = some v8 ∧ W'.cell? ⟨b9, o9, none⟩ = some v9 ∧ W'.cell? ⟨b10, o10, none⟩ = some v10 ∧ Below B w W' := by
  obtain ⟨h0, h1, h2, h3, h4, h5, h6, h7, h8, h9, h10, hw⟩ := h
  obtain ⟨c, _⟩ := bcell hb
  exact ⟨(c _ _ (World.block_lt_of_cell? W ⟨b0, o0, none⟩ h0)).trans h0, (c _ _ (World.block_lt_of_cell? W ⟨b1, o1, none⟩ h1)).trans h1, (c _ _ (World.block_lt_of_cell? W ⟨b2, o2, none⟩ h2)).trans h2, (c _ _ (World.block_lt_of_cell? W ⟨b3, o3, none⟩ h3)).trans h3, (c _ _ (World.block_lt_of_cell? W ⟨b4, o4, none⟩ h4)).trans h4, (c _ _ (World.block_lt_of_cell? W ⟨b5, o5, none⟩ h5)).trans h5, (c _ _ (World.block_lt_of_cell? W ⟨b6, o6, none⟩ h6)).trans h6, (c _ _ (World.block_lt_of_cell? W ⟨b7, o7, none⟩ h7)).trans h7, (c _ _ (World.block_lt_of_cell? W ⟨b8, o8, none⟩ h8)).trans h8, (c _ _ (World.block_lt_of_cell? W ⟨b9, o9, none⟩ h9)).trans h9, (c _ _ (World.block_lt_of_cell? W ⟨b10, o10, none⟩ h10)).trans h10, hw.trans (hb.mono hB)⟩
theorem keepW11 {w W W' : World} {b0 o0 b1 o1 b2 o2 b3 o3 b4 o4 b5 o5 b6 o6 b7 o7 b8 o8 b9 o9 b10 o10 : Nat} {v0 v1 v2 v3 v4 v5 v6 v7 v8 v9 v10 : Value} (h : W.cell? ⟨b0, o0, none⟩ = some v0 ∧ W.cell? ⟨b1, o1, none⟩ = some v1 ∧ W.cell? ⟨b2, o2, none⟩ = some v2 ∧ W.cell? ⟨b3, o3, none⟩ = some v3 ∧ W.cell? ⟨b4, o4, none⟩ = some v4 ∧ W.cell? ⟨b5, o5, none⟩ = some v5 ∧ W.cell? ⟨b6, o6, none⟩ = some v6 ∧ W.cell? ⟨b7, o7, none⟩ = some v7 ∧ W.cell? ⟨b8, o8, none⟩ = some v8 ∧ W.cell? ⟨b9, o9, none⟩ = some v9 ∧ W.cell? ⟨b10, o10, none⟩ = some v10 ∧ Below w.heap.size w W) (hb : Below W.heap.size W W') :
    W'.cell? ⟨b0, o0, none⟩ = some v0 ∧ W'.cell? ⟨b1, o1, none⟩ = some v1 ∧ W'.cell? ⟨b2, o2, none⟩ = some v2 ∧ W'.cell? ⟨b3, o3, none⟩ = some v3 ∧ W'.cell? ⟨b4, o4, none⟩ = some v4 ∧ W'.cell? ⟨b5, o5, none⟩ = some v5 ∧ W'.cell? ⟨b6, o6, none⟩ = some v6 ∧ W'.cell? ⟨b7, o7, none⟩ = some v7 ∧ W'.cell? ⟨b8, o8, none⟩ = some v8 ∧ W'.cell? ⟨b9, o9, none⟩ = some v9 ∧ W'.cell? ⟨b10, o10, none⟩ = some v10 ∧ Below w.heap.size w W' := keepG11 h (h.2.2.2.2.2.2.2.2.2.2.2).size hb
theorem keepG12 {w W W' : World} {B b0 o0 b1 o1 b2 o2 b3 o3 b4 o4 b5 o5 b6 o6 b7 o7 b8 o8 b9 o9 b10 o10 b11 o11 : Nat} {v0 v1 v2 v3 v4 v5 v6 v7 v8 v9 v10 v11 : Value} (h : W.cell? ⟨b0, o0, none⟩ = some v0 ∧ W.cell? ⟨b1, o1, none⟩ = some v1 ∧ W.cell? ⟨b2, o2, none⟩ = some v2 ∧ W.cell? ⟨b3, o3, none⟩ = some v3 ∧ W.cell? ⟨b4, o4, none⟩ = some v4 ∧ W.cell? ⟨b5, o5, none⟩ = some v5 ∧ W.cell? ⟨b6, o6, none⟩ = some v6 ∧ W.cell? ⟨b7, o7, none⟩ = some v7 ∧ W.cell? ⟨b8, o8, none⟩ = some v8 ∧ W.cell? ⟨b9, o9, none⟩ = some v9 ∧ W.cell? ⟨b10, o10, none⟩ = some v10 ∧ W.cell? ⟨b11, o11, none⟩ = some v11 ∧ Below B w W) (hB : B ≤ W.heap.size) (hb : Below W.heap.size W W') :
    W'.cell? ⟨b0, o0, none⟩ = some v0 ∧ W'.cell? ⟨b1, o1, none⟩ = some v1 ∧ W'.cell? ⟨b2, o2, none⟩ = some v2 ∧ W'.cell? ⟨b3, o3, none⟩ = some v3 ∧ W'.cell? ⟨b4, o4, none⟩ = some v4 ∧ W'.cell? ⟨b5, o5, none⟩ = some v5 ∧ W'.cell? ⟨b6, o6, none⟩ = some v6 ∧ W'.cell? ⟨b7, o7, none⟩ = some v7 ∧ W'.cell? ⟨b8, o8, none⟩ = some v8 ∧ W'.cell? ⟨b9, o9, none⟩ = some v9 ∧ W'.cell? ⟨b10, o10, none⟩ = some v10 ∧ W'.cell? ⟨b11, o11, none⟩ = some v11 ∧ Below B w W' := by
  obtain ⟨h0, h1, h2, h3, h4, h5, h6, h7, h8, h9, h10, h11, hw⟩ := h
  obtain ⟨c, _⟩ := bcell hb
  exact ⟨(c _ _ (World.block_lt_of_cell? W ⟨b0, o0, none⟩ h0)).trans h0, (c _ _ (World.block_lt_of_cell? W ⟨b1, o1, none⟩ h1)).trans h1, (c _ _ (World.block_lt_of_cell? W ⟨b2, o2, none⟩ h2)).trans h2, (c _ _ (World.block_lt_of_cell? W ⟨b3, o3, none⟩ h3)).trans h3, (c _ _ (World.block_lt_of_cell? W ⟨b4, o4, none⟩ h4)).trans h4, (c _ _ (World.block_lt_of_cell? W ⟨b5, o5, none⟩ h5)).trans h5, (c _ _ (World.block_lt_of_cell? W ⟨b6, o6, none⟩ h6)).trans h6, (c _ _ (World.block_lt_of_cell? W ⟨b7, o7, none⟩ h7)).trans h7, (c _ _ (World.block_lt_of_cell? W ⟨b8, o8, none⟩ h8)).trans h8, (c _ _ (World.block_lt_of_cell? W ⟨b9, o9, none⟩ h9)).trans h9, (c _ _ (World.block_lt_of_cell? W ⟨b10, o10, none⟩ h10)).trans h10, (c _ _ (World.block_lt_of_cell? W ⟨b11, o11, none⟩ h11)).trans h11, hw.trans (hb.mono hB)⟩
theorem keepW12 {w W W' : World} {b0 o0 b1 o1 b2 o2 b3 o3 b4 o4 b5 o5 b6 o6 b7 o7 b8 o8 b9 o9 b10 o10 b11 o11 : Nat} {v0 v1 v2 v3 v4 v5 v6 v7 v8 v9 v10 v11 : Value} (h : W.cell? ⟨b0, o0, none⟩ = some v0 ∧ W.cell? ⟨b1, o1, none⟩ = some v1 ∧ W.cell? ⟨b2, o2, none⟩ = some v2 ∧ W.cell? ⟨b3, o3, none⟩ = some v3 ∧ W.cell? ⟨b4, o4, none⟩ = some v4 ∧ W.cell? ⟨b5, o5, none⟩ = some v5 ∧ W.cell? ⟨b6, o6, none⟩ = some v6 ∧ W.cell? ⟨b7, o7, none⟩ = some v7 ∧ W.cell? ⟨b8, o8, none⟩ = some v8 ∧ W.cell? ⟨b9, o9, none⟩ = some v9 ∧ W.cell? ⟨b10, o10, none⟩ = some v10 ∧ W.cell? ⟨b11, o11, none⟩ = some v11 ∧ Below w.heap.size w W) (hb : Below W.heap.size W W') :
    W'.cell? ⟨b0, o0, none⟩ = some v0 ∧ W'.cell? ⟨b1, o1, none⟩ = some v1 ∧ W'.cell? ⟨b2, o2, none⟩ = some v2 ∧ W'.cell? ⟨b3, o3, none⟩ = some v3 ∧ W'.cell? ⟨b4, o4, none⟩ = some v4 ∧ W'.cell? ⟨b5, o5, none⟩ = some v5 ∧ W'.cell? ⟨b6, o6, none⟩ = some v6 ∧ W'.cell? ⟨b7, o7, none⟩ = some v7 ∧ W'.cell? ⟨b8, o8, none⟩ = some v8 ∧ W'.cell? ⟨b9, o9, none⟩ = some v9 ∧ W'.cell? ⟨b10, o10, none⟩ = some v10 ∧ W'.cell? ⟨b11, o11, none⟩ = some v11 ∧ Below w.heap.size w W' := keepG12 h (h.2.2.2.2.2.2.2.2.2.2.2.2).size hb
theorem keepG13 {w W W' : World} {B b0 o0 b1 o1 b2 o2 b3 o3 b4 o4 b5 o5 b6 o6 b7 o7 b8 o8 b9 o9 b10 o10 b11 o11 b12 o12 : Nat} {v0 v1 v2 v3 v4 v5 v6 v7 v8 v9 v10 v11 v12 : Value} (h : W.cell? ⟨b0, o0, none⟩ = some v0 ∧ W.cell? ⟨b1, o1, none⟩ = some v1 ∧ W.cell? ⟨b2, o2, none⟩ = some v2 ∧ W.cell? ⟨b3, o3, none⟩ = some v3 ∧ W.cell? ⟨b4, o4, none⟩ = some v4 ∧ W.cell? ⟨b5, o5, none⟩ = some v5 ∧ W.cell? ⟨b6, o6, none⟩ = some v6 ∧ W.cell? ⟨b7, o7, none⟩ = some v7 ∧ W.cell? ⟨b8, o8, none⟩ = some v8 ∧ W.cell? ⟨b9, o9, none⟩ = some v9 ∧ W.cell? ⟨b10, o10, none⟩ = some v10 ∧ W.cell? ⟨b11, o11, none⟩ = some v11 ∧ W.cell? ⟨b12, o12, none⟩ = some v12 ∧ Below B w W) (hB : B ≤ W.heap.size) (hb : Below W.heap.size W W') :
    W'.cell? ⟨b0, o0, none⟩ = some v0 ∧ W'.cell? ⟨b1, o1, none⟩ = some v1 ∧ W'.cell? ⟨b2, o2, none⟩ = some v2 ∧ W'.cell? ⟨b3, o3, none⟩ = some v3 ∧ W'.cell? ⟨b4, o4, none⟩ = some v4 ∧ W'.cell? ⟨b5, o5, none⟩ = some v5 ∧ W'.cell? ⟨b6, o6, none⟩ = some v6 ∧ W'.cell? ⟨b7, o7, none⟩ = some v7 ∧ W'.cell? ⟨b8, o8, none⟩ = some v8 ∧ W'.cell? ⟨b9, o9, none⟩ = some v9 ∧ W'.cell? ⟨b10, o10, none⟩ = some v10 ∧ W'.cell? ⟨b11, o11, none⟩ = some v11 ∧ W'.cell? ⟨b12, o12, none⟩ = some v12 ∧ Below B w W' := by
  obtain ⟨h0, h1, h2, h3, h4, h5, h6, h7, h8, h9, h10, h11, h12, hw⟩ := h
  obtain ⟨c, _⟩ := bcell hb
  exact ⟨(c _ _ (World.block_lt_of_cell? W ⟨b0, o0, none⟩ h0)).trans h0, (c _ _ (World.block_lt_of_cell? W ⟨b1, o1, none⟩ h1)).trans h1, (c _ _ (World.block_lt_of_cell? W ⟨b2, o2, none⟩ h2)).trans h2, (c _ _ (World.block_lt_of_cell? W ⟨b3, o3, none⟩ h3)).trans h3, (c _ _ (World.block_lt_of_cell? W ⟨b4, o4, none⟩ h4)).trans h4, (c _ _ (World.block_lt_of_cell? W ⟨b5, o5, none⟩ h5)).trans h5, (c _ _ (World.block_lt_of_cell? W ⟨b6, o6, none⟩ h6)).trans h6, (c _ _ (World.block_lt_of_cell? W ⟨b7, o7, none⟩ h7)).trans h7, (c _ _ (World.block_lt_of_cell? W ⟨b8, o8, none⟩ h8)).trans h8, (c _ _ (World.block_lt_of_cell? W ⟨b9, o9, none⟩ h9)).trans h9, (c _ _ (World.block_lt_of_cell? W ⟨b10, o10, none⟩ h10)).trans h10, (c _ _ (World.block_lt_of_cell? W ⟨b11, o11, none⟩ h11)).trans h11, (c _ _ (World.block_lt_of_cell? W ⟨b12, o12, none⟩ h12)).trans h12, hw.trans (hb.mono hB)⟩
theorem keepW13 {w W W' : World} {b0 o0 b1 o1 b2 o2 b3 o3 b4 o4 b5 o5 b6 o6 b7 o7 b8 o8 b9 o9 b10 o10 b11 o11 b12 o12 : Nat} {v0 v1 v2 v3 v4 v5 v6 v7 v8 v9 v10 v11 v12 : Value} (h : W.cell? ⟨b0, o0, none⟩ = some v0 ∧ W.cell? ⟨b1, o1, none⟩ = some v1 ∧ W.cell? ⟨b2, o2, none⟩ = some v2 ∧ W.cell? ⟨b3, o3, none⟩ = some v3 ∧ W.cell? ⟨b4, o4, none⟩ = some v4 ∧ W.cell? ⟨b5, o5, none⟩ = some v5 ∧ W.cell? ⟨b6, o6, none⟩ = some v6 ∧ W.cell? ⟨b7, o7, none⟩ = some v7 ∧ W.cell? ⟨b8, o8, none⟩ = some v8 ∧ W.cell? ⟨b9, o9, none⟩ = some v9 ∧ W.cell? ⟨b10, o10, none⟩ = some v10 ∧ W.cell? ⟨b11, o11, none⟩ = some v11 ∧ W.cell? ⟨b12, o12, none⟩ = some v12 ∧ Below w.heap.size w W) (hb : Below W.heap.size W W') :
    W'.cell? ⟨b0, o0, none⟩ = some v0 ∧ W'.cell? ⟨b1, o1, none⟩ = some v1 ∧ W'.cell? ⟨b2, o2, none⟩ = some v2 ∧ W'.cell? ⟨b3, o3, none⟩ = some v3 ∧ W'.cell? ⟨b4, o4, none⟩ = some v4 ∧ W'.cell? ⟨b5, o5, none⟩ = some v5 ∧ W'.cell? ⟨b6, o6, none⟩ = some v6 ∧ W'.cell? ⟨b7, o7, none⟩ = some v7 ∧ W'.cell? ⟨b8, o8, none⟩ = some v8 ∧ W'.cell? ⟨b9, o9, none⟩ = some v9 ∧ W'.cell? ⟨b10, o10, none⟩ = some v10 ∧ W'.cell? ⟨b11, o11, none⟩ = some v11 ∧ W'.cell? ⟨b12, o12, none⟩ = some v12 ∧ Below w.heap.size w W' := keepG13 h (h.2.2.2.2.2.2.2.2.2.2.2.2.2).size hb
theorem keepG14 {w W W' : World} {B b0 o0 b1 o1 b2 o2 b3 o3 b4 o4 b5 o5 b6 o6 b7 o7 b8 o8 b9 o9 b10 o10 b11 o11 b12 o12 b13 o13 : Nat} {v0 v1 v2 v3 v4 v5 v6 v7 v8 v9 v10 v11 v12 v13 : Value} (h : W.cell? ⟨b0, o0, none⟩ = some v0 ∧ W.cell? ⟨b1, o1, none⟩ = some v1 ∧ W.cell? ⟨b2, o2, none⟩ = some v2 ∧ W.cell? ⟨b3, o3, none⟩ = some v3 ∧ W.cell? ⟨b4, o4, none⟩ = some v4 ∧ W.cell? ⟨b5, o5, none⟩ = some v5 ∧ W.cell? ⟨b6, o6, none⟩ = some v6 ∧ W.cell? ⟨b7, o7, none⟩ = some v7 ∧ W.cell? ⟨b8, o8, none⟩ = some v8 ∧ W.cell? ⟨b9, o9, none⟩ = some v9 ∧ W.cell? ⟨b10, o10, none⟩ = some v10 ∧ W.cell? ⟨b11, o11, none⟩ = some v11 ∧ W.cell? ⟨b12, o12, none⟩ = some v12 ∧ W.cell? ⟨b13, o13, none⟩ = some v13 ∧ Below B w W) (hB : B ≤ W.heap.size) (hb : Below W.heap.size W W') :
    W'.cell? ⟨b0, o0, none⟩ = some v0 ∧ W'.cell? ⟨b1, o1, none⟩ = some v1 ∧ W'.cell? ⟨b2, o2, none⟩ = some v2 ∧ W'.cell? ⟨b3, o3, none⟩ = some v3 ∧ W'.cell? ⟨b4, o4, none⟩ = some v4 ∧ W'.cell? ⟨b5, o5, none⟩ = some v5 ∧ W'.cell? ⟨b6, o6, none⟩ = some v6 ∧ W'.cell? ⟨b7, o7, none⟩ = some v7 ∧ W'.cell? ⟨b8, o8, none⟩ = some v8 ∧ W'.cell? ⟨b9, o9, none⟩ = some v9 ∧ W'.cell? ⟨b10, o10, none⟩ = some v10 ∧ W'.cell? ⟨b11, o11, none⟩ = some v11 ∧ W'.cell? ⟨b12, o12, none⟩ = some v12 ∧ W'.cell? ⟨b13, o13, none⟩ = some v13 ∧ Below B w W' := by
  obtain ⟨h0, h1, h2, h3, h4, h5, h6, h7, h8, h9, h10, h11, h12, h13, hw⟩ := h
  obtain ⟨c, _⟩ := bcell hb
  exact ⟨(c _ _ (World.block_lt_of_cell? W ⟨b0, o0, none⟩ h0)).trans h0, (c _ _ (World.block_lt_of_cell? W ⟨b1, o1, none⟩ h1)).trans h1, (c _ _ (World.block_lt_of_cell? W ⟨b2, o2, none⟩ h2)).trans h2, (c _ _ (World.block_lt_of_cell? W ⟨b3, o3, none⟩ h3)).trans h3, (c _ _ (World.block_lt_of_cell? W ⟨b4, o4, none⟩ h4)).trans h4, (c _ _ (World.block_lt_of_cell? W ⟨b5, o5, none⟩ h5)).trans h5, (c _ _ (World.block_lt_of_cell? W ⟨b6, o6, none⟩ h6)).trans h6, (c _ _ (World.block_lt_of_cell? W ⟨b7, o7, none⟩ h7)).trans h7, (c _ _ (World.block_lt_of_cell? W ⟨b8, o8, none⟩ h8)).trans h8, (c _ _ (World.block_lt_of_cell? W ⟨b9, o9, none⟩ h9)).trans h9, (c _ _ (World.block_lt_of_cell? W ⟨b10, o10, none⟩ h10)).trans h10, (c _ _ (World.block_lt_of_cell? W ⟨b11, o11, none⟩ h11)).trans h11, (c _ _ (World.block_lt_of_cell? W ⟨b12, o12, none⟩ h12)).trans h12, (c _ _ (World.block_lt_of_cell? W ⟨b13, o13, none⟩ h13)).trans h13, hw.trans (hb.mono hB)⟩
theorem keepW14 {w W W' : World} {b0 o0 b1 o1 b2 o2 b3 o3 b4 o4 b5 o5 b6 o6 b7 o7 b8 o8 b9 o9 b10 o10 b11 o11 b12 o12 b13 o13 : Nat} {v0 v1 v2 v3 v4 v5 v6 v7 v8 v9 v10 v11 v12 v13 : Value} (h : W.cell? ⟨b0, o0, none⟩ = some v0 ∧ W.cell? ⟨b1, o1, none⟩ = some v1 ∧ W.cell? ⟨b2, o2, none⟩ = some v2 ∧ W.cell? ⟨b3, o3, none⟩ = some v3 ∧ W.cell? ⟨b4, o4, none⟩ = some v4 ∧ W.cell? ⟨b5, o5, none⟩ = some v5 ∧ W.cell? ⟨b6, o6, none⟩ = some v6 ∧ W.cell? ⟨b7, o7, none⟩ = some v7 ∧ W.cell? ⟨b8, o8, none⟩ = some v8 ∧ W.cell? ⟨b9, o9, none⟩ = some v9 ∧ W.cell? ⟨b10, o10, none⟩ = some v10 ∧ W.cell? ⟨b11, o11, none⟩ = some v11 ∧ W.cell? ⟨b12, o12, none⟩ = some v12 ∧ W.cell? ⟨b13, o13, none⟩ = some v13 ∧ Below w.heap.size w W) (hb : Below W.heap.size W W') :
    W'.cell? ⟨b0, o0, none⟩ = some v0 ∧ W'.cell? ⟨b1, o1, none⟩ = some v1 ∧ W'.cell? ⟨b2, o2, none⟩ = some v2 ∧ W'.cell? ⟨b3, o3, none⟩ = some v3 ∧ W'.cell? ⟨b4, o4, none⟩ = some v4 ∧ W'.cell? ⟨b5, o5, none⟩ = some v5 ∧ W'.cell? ⟨b6, o6, none⟩ = some v6 ∧ W'.cell? ⟨b7, o7, none⟩ = some v7 ∧ W'.cell? ⟨b8, o8, none⟩ = some v8 ∧ W'.cell? ⟨b9, o9, none⟩ = some v9 ∧ W'.cell? ⟨b10, o10, none⟩ = some v10 ∧ W'.cell? ⟨b11, o11, none⟩ = some v11 ∧ W'.cell? ⟨b12, o12, none⟩ = some v12 ∧ W'.cell? ⟨b13, o13, none⟩ = some v13 ∧ Below w.heap.size w W' := keepG14 h (h.2.2.2.2.2.2.2.2.2.2.2.2.2.2).size hb
theorem fin_Keep : True := trivial
end

section
open Go.RowKit Go.Joins Go.ChangeShapes Go.WideShapes Go.Deep
set_option linter.unusedVariables false

theorem info_n64 : (Tryz.prog.info? 2).map (fun i => (i.zero, i.size, i.bytes)) = some (some (.int .i64 0), 1, 8) := by kernel_rfl
/-- A slice that came in holds these numbers. -/
def NumsIn (w : World) (v : Value) (zs : List Int) : Prop :=
  (∃ a cap, v = .slice a 0 cap ∧ zs = []) ∨ (∃ b off cap, v = .slice (some ⟨b, off, none⟩) zs.length cap ∧ b < w.heap.size ∧ ∀ j, (h : j < zs.length) → w.cell? ⟨b, off + j, none⟩ = some (.int .i64 zs[j]) ∧ (-9223372036854775808 ≤ zs[j] ∧ zs[j] ≤ 9223372036854775807))
theorem NumsIn.below {w w' : World} {v : Value} {zs : List Int} (h : NumsIn w v zs) (hb : Below w.heap.size w w') : NumsIn w' v zs := by
  rcases h with h | ⟨b, off, cap, hv, hl, hc⟩
  · exact .inl h
  · exact .inr ⟨b, off, cap, hv, by have := hb.size; omega, fun j hj => ⟨(hb.cell (p := ⟨b, off + j, none⟩) hl).trans (hc j hj).1, (hc j hj).2⟩⟩
theorem NumsIn.len {w : World} {v : Value} {zs : List Int} (h : NumsIn w v zs) : ∃ a cap, v = .slice a zs.length cap := by
  rcases h with ⟨a, cap, rfl, rfl⟩ | ⟨b, off, cap, rfl, _⟩
  · exact ⟨a, cap, rfl⟩
  · exact ⟨_, cap, rfl⟩
/-- A slice that came in holds these lists. -/
def LinesIn (w : World) (v : Value) (ls : List (List Int)) : Prop :=
  (∃ a cap, v = .slice a 0 cap ∧ ls = []) ∨ (∃ b off cap, v = .slice (some ⟨b, off, none⟩) ls.length cap ∧ b < w.heap.size ∧ ∀ j, (h : j < ls.length) → ∃ u, w.cell? ⟨b, off + j, none⟩ = some u ∧ NumsIn w u ls[j] ∧ ls[j].length ≤ 9223372036854775807)
theorem LinesIn.below {w w' : World} {v : Value} {ls : List (List Int)} (h : LinesIn w v ls) (hb : Below w.heap.size w w') : LinesIn w' v ls := by
  rcases h with h | ⟨b, off, cap, hv, hl, hc⟩
  · exact .inl h
  · exact .inr ⟨b, off, cap, hv, by have := hb.size; omega, fun j hj => by
      obtain ⟨u, c, hu, hn⟩ := hc j hj
      exact ⟨u, (hb.cell (p := ⟨b, off + j, none⟩) hl).trans c, hu.below hb, hn⟩⟩

section
variable {H : Type} {enc : TypeId × Value → H} {w : World} {base : Nat} {held : Bool}
theorem ints_in {fuel : Nat} {sa : Option Addr} {sn sc : Nat} {x : DataW H × List MemPlace}
    (hf : DataW.trod enc Tryz.prog w base (fun _ => true) held fuel 41 [.slice sa sn sc] = some x) : ∃ zs : List Int, NumsIn w (.slice sa sn sc) zs ∧ zs.length ≤ 9223372036854775807 := by
  rcases open_ints Tryz.underlying41 Tryz.underlying2 (by kernel_rfl) hf with ⟨hcs, hx⟩ | ⟨a, len', cap', zs, hcs, _, hl, hm, hz, hx, hcell, hwz⟩
  · simp at hcs
    obtain ⟨rfl, rfl, rfl⟩ := hcs
    exact ⟨[], .inl ⟨_, _, rfl, rfl⟩, by simp⟩
  · simp at hcs
    obtain ⟨rfl, rfl, rfl⟩ := hcs
    simp only [if_true] at hz
    by_cases hl0 : sn = 0
    · subst hl0
      exact ⟨[], .inl ⟨_, _, rfl, rfl⟩, by simp⟩
    · obtain ⟨b, off, spot⟩ := a
      have hspot : spot = none := by simpa [Addr.add] using World.cell?_spot (hcell 0 (by omega))
      subst hspot
      have hlt : (zs.take sn).length = sn := by simp; omega
      have hget : ∀ j, (h : j < (zs.take sn).length) → w.cell? ⟨b, off + j, none⟩ = some (.int .i64 (zs.take sn)[j]) := by
        intro j hj
        have h1 := hcell j (by omega)
        rw [add_plain] at h1
        rw [h1]
        simp [List.getD, show j < zs.length by omega]
      exact ⟨zs.take sn, .inr ⟨b, off, sc, by rw [hlt], World.block_lt_of_cell? w ⟨b, off + 0, none⟩ (hget 0 (by omega)), fun j hj => ⟨hget j hj, wf_fits (hwz _ (List.mem_of_mem_take (List.getElem_mem hj)))⟩⟩, by rw [hlt]; unfold maxLen at hm; omega⟩
set_option maxRecDepth 100000 in
theorem lines_open {fuel : Nat} {v : Value} {x : DataW H × List MemPlace}
    (hf : DataW.trod enc Tryz.prog w base (fun _ => true) held fuel 30 [v] = some x) : ∃ ls : List (List Int), LinesIn w v ls ∧ ls.length ≤ 9223372036854775807 := by
  rcases open_slice1 Tryz.underlying30 (by kernel_rfl) hf with ⟨hcs, hx⟩ | ⟨a, len, cap, m, n, V, D, Pl, hcs, _, hl, hm, hmm, hx, hi⟩
  · simp at hcs
    exact ⟨[], .inl ⟨_, _, hcs, rfl⟩, by simp⟩
  · simp at hcs
    subst hcs
    simp only [if_true] at hmm
    by_cases hl0 : len = 0
    · subst hl0
      exact ⟨[], .inl ⟨_, _, rfl, rfl⟩, by simp⟩
    · obtain ⟨b, off, spot⟩ := a
      have hspot : spot = none := by simpa [Addr.add] using World.cell?_spot (hi 0 (by omega)).1
      subst hspot
      obtain ⟨ls, hll, hz⟩ := list_of len (fun i l => ∃ u, w.cell? ⟨b, off + i, none⟩ = some u ∧ NumsIn w u l ∧ l.length ≤ 9223372036854775807) (by
        intro i hil
        obtain ⟨hc, ht⟩ := hi i (by omega)
        rw [add_plain] at hc
        rcases open_slice1 Tryz.underlying41 (by kernel_rfl) ht with ⟨hcs', _⟩ | ⟨a', len', cap', _, _, _, _, _, hcs', _⟩
        · simp at hcs'
          rw [hcs'] at ht hc
          obtain ⟨zs, h1, h2⟩ := ints_in ht
          exact ⟨zs, _, hc, h1, h2⟩
        · simp at hcs'
          rw [hcs'] at ht hc
          obtain ⟨zs, h1, h2⟩ := ints_in ht
          exact ⟨zs, _, hc, h1, h2⟩)
      subst hll
      obtain ⟨u, c, _⟩ := hz 0 (by omega)
      exact ⟨ls, .inr ⟨b, off, cap, rfl, World.block_lt_of_cell? w ⟨b, off + 0, none⟩ c, hz⟩, by unfold maxLen at hm; omega⟩
set_option maxRecDepth 100000 in
theorem figure_open {r : Reach} {b0 : Nat} {v : Value} {d : DataW H} {p : List MemPlace}
    (hv : Value.okWide Tryz.prog w r b0 32 v) (h : DataW.Trod enc Tryz.prog w base (fun _ => true) held 32 v d p) :
    ∃ (s : ByteArray) (u : Value) (ls : List (List Int)), v = .agg #[.string s, u] ∧ s.size ≤ maxLen ∧ LinesIn w u ls ∧ ls.length ≤ 9223372036854775807 := by
  obtain ⟨va, vb, ya, yb, n, rfl, _, _, ta, tb⟩ := Go.Joins.open_agg2 Tryz.underlying32 (by kernel_rfl) (by kernel_rfl) hv h
  obtain ⟨s, e0, _, g0⟩ := DataW.trod_string Tryz.underlying9 ta
  obtain ⟨ls, h1, h2⟩ := lines_open tb
  simp only [List.cons.injEq, and_true] at e0
  subst e0
  exact ⟨s, vb, ls, rfl, g0, h1, h2⟩
theorem here_ends : True := trivial
end

/-- Block g is a row of these numbers. -/
def NRow (w : World) (g : Nat) (zs : List Int) : Prop := w.rowIs g 2 zs.length (fun k => .int .i64 (zs.getD k 0))
theorem NRow.below {w w' : World} {g : Nat} {zs : List Int} (h : NRow w g zs) (hb : Below w.heap.size w w') : NRow w' g zs := World.rowIs.of_block h (hb.block g (World.rowIs.lt h))
theorem NRow.at {w : World} {g : Nat} {zs : List Int} (h : NRow w g zs) (j : Nat) (hj : j < zs.length) : w.cell? ⟨g, j, none⟩ = some (.int .i64 zs[j]) := by
  rw [World.rowIs.cell h hj, List.getD, List.getElem?_eq_getElem hj]
  rfl
/-- Block g is a row of slices of these lists, each in a row of its own. -/
structure LRow (w : World) (g : Nat) (ls : List (List Int)) (bs : Nat → Nat) : Prop where
  row : w.rowIs g 41 ls.length (fun k => .slice (some ⟨bs k, 0, none⟩) (ls.getD k []).length (ls.getD k []).length)
  each : ∀ k, k < ls.length → NRow w (bs k) (ls.getD k [])
theorem LRow.lt {w : World} {g : Nat} {ls : List (List Int)} {bs : Nat → Nat} (h : LRow w g ls bs) : g < w.heap.size := World.rowIs.lt h.row
theorem LRow.below {w w' : World} {g : Nat} {ls : List (List Int)} {bs : Nat → Nat} (h : LRow w g ls bs) (hb : Below w.heap.size w w') : LRow w' g ls bs :=
  ⟨World.rowIs.of_block h.row (hb.block g h.lt), fun k hk => (h.each k hk).below hb⟩
theorem LRow.at {w : World} {g : Nat} {ls : List (List Int)} {bs : Nat → Nat} (h : LRow w g ls bs) (j : Nat) (hj : j < ls.length) : w.cell? ⟨g, j, none⟩ = some (.slice (some ⟨bs j, 0, none⟩) ls[j].length ls[j].length) ∧ NRow w (bs j) ls[j] := by
  have e : ls.getD j [] = ls[j] := by rw [List.getD, List.getElem?_eq_getElem hj]; rfl
  have h1 := World.rowIs.cell h.row hj
  have h2 := h.each j hj
  rw [e] at h1 h2
  exact ⟨h1, h2⟩
/-- The rows so far. -/
def lineUp (ls : List (List Int)) (bs : Nat → Nat) (j k : Nat) : Value := if k < j then .slice (some ⟨bs k, 0, none⟩) (ls.getD k []).length (ls.getD k []).length else .slice none 0 0

theorem nums_make (n : Nat) (hn : n ≤ 1048577) (w : World) :
    (Instr.makeSlice 41 (.int .i64 (n : Int)) (.int .i64 (n : Int))).run Tryz.prog w = .ok (.slice (some ⟨w.heap.size, 0, none⟩) n n) (w.alloc (.cells (madeCells #[.int .i64 0] n) 2)) := by
  obtain ⟨i, hi, hzz⟩ := Option.map_eq_some_iff.1 info_n64
  simp only [Prod.mk.injEq] at hzz
  obtain ⟨hz, hs, hb⟩ := hzz
  have hr := run_make (P := Tryz.prog) w 41 2 i _ Tryz.underlying41 hi hz .i64 .i64 (n : Int) (n : Int) (by omega) (Int.le_refl _) (by rw [hb]; omega) (by omega)
  simp only [Int.toNat_natCast, hs, Nat.mul_one] at hr
  exact hr
theorem info_ints : (Tryz.prog.info? 41).map (fun i => (i.zero, i.size, i.bytes)) = some (some (.slice none 0 0), 1, 24) := by kernel_rfl
theorem lines_make (n : Nat) (hn : n ≤ 1048577) (w : World) :
    (Instr.makeSlice 30 (.int .i64 (n : Int)) (.int .i64 (n : Int))).run Tryz.prog w = .ok (.slice (some ⟨w.heap.size, 0, none⟩) n n) (w.alloc (.cells (madeCells #[.slice none 0 0] n) 41)) := by
  obtain ⟨i, hi, hzz⟩ := Option.map_eq_some_iff.1 info_ints
  simp only [Prod.mk.injEq] at hzz
  obtain ⟨hz, hs, hb⟩ := hzz
  have hr := run_make (P := Tryz.prog) w 30 41 i _ Tryz.underlying30 hi hz .i64 .i64 (n : Int) (n : Int) (by omega) (Int.le_refl _) (by rw [hb]; omega) (by omega)
  simp only [Int.toNat_natCast, hs, Nat.mul_one] at hr
  exact hr

/-- A copy of numbers so far. -/
def numUp (zs : List Int) (j k : Nat) : Value := .int .i64 (if k < j then zs.getD k 0 else 0)
theorem numUp_set {w : World} {g : Nat} {zs : List Int} {j : Nat} (h : w.rowIs g 2 zs.length (numUp zs j)) {v : Int} (hv : v = zs.getD j 0) : (w.setCell ⟨g, j, none⟩ (.int .i64 v)).rowIs g 2 zs.length (numUp zs (j + 1)) := by
  refine World.rowIs.congr (World.rowIs.set h j (.int .i64 v)) (fun k _ => ?_)
  unfold numUp
  by_cases c : k = j
  · subst c
    rw [if_pos rfl, if_pos (by omega), hv]
  · rw [if_neg c]
    by_cases d : k < j
    · rw [if_pos d, if_pos (by omega)]
    · rw [if_neg d, if_neg (by omega)]
theorem numUp_done {w : World} {g : Nat} {zs : List Int} (h : w.rowIs g 2 zs.length (numUp zs zs.length)) : NRow w g zs :=
  World.rowIs.congr h (fun k hk => by unfold numUp; rw [if_pos hk])
theorem numUp_made (w : World) (zs : List Int) : (w.alloc (.cells (madeCells #[.int .i64 0] zs.length) 2)).rowIs w.heap.size 2 zs.length (numUp zs 0) :=
  World.rowIs.congr (World.rowIs_made w (.int .i64 0) zs.length 2) (fun _ _ => by unfold numUp; rw [if_neg (Nat.not_lt_zero _)])

/-- The rows copied so far. -/
structure LUp (w : World) (g : Nat) (ls : List (List Int)) (bs : Nat → Nat) (j : Nat) : Prop where
  row : w.rowIs g 41 ls.length (lineUp ls bs j)
  each : ∀ k, k < j → NRow w (bs k) (ls.getD k []) ∧ g < bs k
theorem LUp.made (w : World) (ls : List (List Int)) (bs : Nat → Nat) : LUp (w.alloc (.cells (madeCells #[.slice none 0 0] ls.length) 41)) w.heap.size ls bs 0 :=
  ⟨World.rowIs.congr (World.rowIs_made w (.slice none 0 0) ls.length 41) (fun _ _ => by unfold lineUp; rw [if_neg (Nat.not_lt_zero _)]), fun k hk => absurd hk (Nat.not_lt_zero k)⟩
theorem LUp.below {w w' : World} {g : Nat} {ls : List (List Int)} {bs : Nat → Nat} {j : Nat} (h : LUp w g ls bs j) (hb : Below w.heap.size w w') : LUp w' g ls bs j :=
  ⟨World.rowIs.of_block h.row (hb.block g (World.rowIs.lt h.row)), fun k hk => ⟨(h.each k hk).1.below hb, (h.each k hk).2⟩⟩
theorem LUp.done {w : World} {g : Nat} {ls : List (List Int)} {bs : Nat → Nat} (h : LUp w g ls bs ls.length) : LRow w g ls bs :=
  ⟨World.rowIs.congr h.row (fun k hk => by unfold lineUp; rw [if_pos hk]), fun k hk => (h.each k hk).1⟩
theorem LUp.put {w : World} {g : Nat} {ls : List (List Int)} {bs : Nat → Nat} {j b : Nat} {zs : List Int} (h : LUp w g ls bs j) (hz : ls.getD j [] = zs) (hn : NRow w b zs) (hg : g < b) :
    LUp (w.setCell ⟨g, j, none⟩ (.slice (some ⟨b, 0, none⟩) zs.length zs.length)) g ls (fun k => if k = j then b else bs k) (j + 1) := by
  refine ⟨World.rowIs.congr (World.rowIs.set h.row j _) (fun k _ => ?_), fun k hk => ?_⟩
  · unfold lineUp
    by_cases c : k = j
    · subst c
      rw [if_pos rfl, if_pos (by omega)]
      simp only [if_true, hz]
    · simp only [if_neg c]
      by_cases d : k < j
      · rw [if_pos d, if_pos (by omega)]
      · rw [if_neg d, if_neg (by omega)]
  · by_cases c : k = j
    · subst c
      simp only [if_true, hz]
      exact ⟨World.rowIs.setOther hn (by show b ≠ g; omega) _, hg⟩
    · simp only [if_neg c]
      obtain ⟨h1, h2⟩ := h.each k (by omega)
      exact ⟨World.rowIs.setOther h1 (by show bs k ≠ g; omega) _, h2⟩
theorem LRow.setOther {w : World} {g : Nat} {ls : List (List Int)} {bs : Nat → Nat} (h : LRow w g ls bs) {a : Addr} (hg : g ≠ a.block) (hk : ∀ k, k < ls.length → bs k ≠ a.block) (v : Value) : LRow (w.setCell a v) g ls bs :=
  ⟨World.rowIs.setOther h.row hg v, fun k hl => World.rowIs.setOther (h.each k hl) (hk k hl) v⟩
theorem fin_Fig0 : True := trivial
end

section
open Go.RowKit
set_option linter.unusedVariables false

def szL (zs : List Int) (l : Int) : Int := if l - (zs.length : Int) < 0 then -1 else l - (zs.length : Int)
theorem szL_bd (zs : List Int) (l : Int) (h0 : 0 ≤ l) : -1 ≤ szL zs l ∧ szL zs l ≤ l ∧ (0 ≤ szL zs l → (zs.length : Int) ≤ l) := by unfold szL; split <;> omega
set_option maxHeartbeats 400000 in
theorem szI_any (a : Option Addr) (cap : Nat) (zs : List Int) (l : Int) (h0 : 0 ≤ l) (h1 : l ≤ 1048576) (hl : zs.length ≤ 9223372036854775807) (w : World) :
    Calls Tryz.prog 99 #[.slice a zs.length cap, .int .i64 l] w fun e w' => e = .returned (.int .i64 (szL zs l)) ∧ w = w' := by
  unfold szL
  by_cases h : l - (zs.length : Int) < 0
  · rw [if_pos h]
    go_enter Tryz.func99, Tryz.ntmps99
    go_wp2_with fail
    go_ret
    exact ⟨rfl, rfl⟩
  · rw [if_neg h]
    go_enter Tryz.func99, Tryz.ntmps99
    go_wp2_with fail
    go_ret
    exact ⟨rfl, rfl⟩

/-- What szInt64SS answers: below 0, or the lists are short. -/
def SzLPost (ls : List (List Int)) (l : Int) (w : World) (e : Ending) (w' : World) : Prop :=
  ∃ z : Int, e = .returned (.int .i64 z) ∧ -1 ≤ z ∧ z ≤ l ∧ (0 ≤ z → ls.length ≤ 1048576 ∧ ∀ j, (h : j < ls.length) → ls[j].length ≤ 1048576) ∧ Below w.heap.size w w'

set_option maxRecDepth 100000 in
set_option maxHeartbeats 1000000 in
theorem szSS_empty (a : Option Addr) (cap : Nat) (l : Int) (h0 : 0 ≤ l) (h1 : l ≤ 1048576) (w : World) :
    Calls Tryz.prog 52 #[.slice a 0 cap, .int .i64 l] w (SzLPost [] l w) := by
  go_enter Tryz.func52, Tryz.ntmps52
  go_wp2_with fail
  go_loop [1, 5] (fun s1 i => s1 = .int .i64 l ∧ i = .int .i64 0) (fun _ _ => 0)
  case atStart => exact ⟨rfl, rfl⟩
  case round =>
    obtain ⟨rfl, rfl⟩ := hrel
    go_wp2_with fail
    go_ret
    exact ⟨l, rfl, by omega, by omega, fun _ => ⟨by simp, fun j h => by simp at h⟩, Below.refl _ _⟩

set_option maxRecDepth 100000 in
set_option maxHeartbeats 1000000 in
theorem szSS_full (b off cap : Nat) (ls : List (List Int)) (l : Int) (h0 : 0 ≤ l) (h1 : l ≤ 1048576) (w : World) (hl : ls.length ≤ 9223372036854775807) (hbw : b < w.heap.size)
    (hc : ∀ j, (h : j < ls.length) → ∃ u, w.cell? ⟨b, off + j, none⟩ = some u ∧ NumsIn w u ls[j] ∧ ls[j].length ≤ 9223372036854775807) :
    Calls Tryz.prog 52 #[.slice (some ⟨b, off, none⟩) ls.length cap, .int .i64 l] w (SzLPost ls l w) := by
  have HC := Lib.hid hc
  clear hc
  by_cases hneg : l - (ls.length : Int) < 0
  ·
    go_enter Tryz.func52, Tryz.ntmps52
    go_wp2_with fail
    go_ret
    exact ⟨-1, rfl, by omega, by omega, fun h => by omega, Below.refl _ _⟩
  · have hlen : ls.length ≤ 1048576 := by omega
    go_enter Tryz.func52, Tryz.ntmps52
    go_wp2_with fail
    go_loopg [1, 5] (ls.length + 1) (fun kx s1 s5 wr => ∃ (i : Nat) (z : Int), i ≤ ls.length ∧ kx = ls.length + 1 - i ∧ s1 = .int .i64 z ∧ s5 = .int .i64 (i : Int) ∧ 0 ≤ z ∧ z ≤ l ∧ Hid (∀ k, (h : k < ls.length) → k < i → ls[k].length ≤ 1048576) ∧ Hid (Below w.heap.size w wr))
    case atStart => exact ⟨0, l - (ls.length : Int), Nat.zero_le _, rfl, rfl, rfl, by omega, by omega, Lib.hid (fun k _ h => absurd h (Nat.not_lt_zero k)), Lib.hid (Below.refl _ _)⟩
    case round =>
      obtain ⟨i, z, hi, rfl, rfl, rfl, hz0, hz1, HS, HR⟩ := hrel
      by_cases hlt : i < ls.length
      · obtain ⟨u, c0, hu, hn⟩ := HC.out i hlt
        obtain ⟨ua, uc, hu'⟩ := hu.len
        rw [hu'] at c0
        have c1 : wr.cell? ⟨b, off + i, none⟩ = some (.slice ua ls[i].length uc) := (HR.out.cell (p := ⟨b, off + i, none⟩) hbw).trans c0
        have SZ := Lib.hid (fun w => szI_any ua uc ls[i] z hz0 (by omega) hn w)
        obtain ⟨hs1, hs2, hs3⟩ := szL_bd ls[i] z hz0
        have HN : Hid (0 ≤ szL ls[i] z → ∀ k, (h : k < ls.length) → k < i + 1 → ls[k].length ≤ 1048576) := Lib.hid (fun hy k h hk => by
          by_cases e : k = i
          · subst e
            have := hs3 hy
            omega
          · exact HS.out k h (by omega))
        clear hs3 hu hu' c0
        generalize szL ls[i] z = y at *
        generalize ls[i].length = n at *
        have i0 : (0 : Int) ≤ (i : Int) := by omega
        have i1 : (i : Int) < (ls.length : Int) := by omega
        go_wp2_with fail
        refine (SZ.out _).mono ?_
        rintro e w1 ⟨rfl, rfl⟩
        by_cases hy : y < 0
        · go_wp2_with fail
          go_ret
          exact ⟨-1, rfl, by omega, by omega, fun h => by omega, HR.out⟩
        · have HN' := Lib.hid (HN.out (by omega))
          go_wp2_with fail
          go_roundg (ls.length + 1 - (i + 1))
          case measure => omega
          case rel => exact ⟨i + 1, y, by omega, by omega, rfl, by go_num, by omega, by omega, HN', HR⟩
      · obtain rfl : i = ls.length := by omega
        go_wp2_with fail
        go_ret
        exact ⟨z, rfl, by omega, hz1, fun _ => ⟨hlen, fun j h => HS.out j h h⟩, HR.out⟩
theorem szSS_any {v : Value} {ls : List (List Int)} (l : Int) (h0 : 0 ≤ l) (h1 : l ≤ 1048576) {w : World} (h : LinesIn w v ls) (hl : ls.length ≤ 9223372036854775807) :
    Calls Tryz.prog 52 #[v, .int .i64 l] w (SzLPost ls l w) := by
  rcases h with ⟨a, cap, rfl, rfl⟩ | ⟨b, off, cap, rfl, hb, hc⟩
  · exact szSS_empty a cap l h0 h1 w
  · exact szSS_full b off cap ls l h0 h1 w hl hb hc

set_option maxRecDepth 100000 in
set_option maxHeartbeats 1000000 in
theorem szFigure_any (s : ByteArray) (v : Value) (ls : List (List Int)) (l : Int) (h0 : 0 ≤ l) (h1 : l ≤ 1048576) (hmax : s.size ≤ maxLen) (w : World) (h : LinesIn w v ls) (hl : ls.length ≤ 9223372036854775807) :
    Calls Tryz.prog 16 #[.agg #[.string s, v], .int .i64 l] w (SzLPost ls l w) := by
  have hm : s.size ≤ 9223372036854775807 := by unfold maxLen at hmax; omega
  have HL := Lib.hid h
  clear hmax h
  by_cases h : l - (s.size : Int) < 0
  ·
    go_enter Tryz.func16, Tryz.ntmps16
    go_wp2_with fail
    go_ret
    refine ⟨-1, rfl, by omega, by omega, fun h => by omega, ?_⟩
    repeat (first | exact Below.refl _ _ | refine Below.setCell ?_ (by first | (simp; done) | omega | (simp; omega)) _ | refine Below.alloc ?_ (by first | (simp; done) | omega | (simp; omega)) _ | refine bel_drew ?_)
  · have h' : decide (l - (s.size : Int) < 0) = false := by simpa using h
    have SZ := Lib.hid (fun (W : World) (hb : Below w.heap.size w W) => szSS_any (l - (s.size : Int)) (by omega) (by omega) (HL.out.below hb) hl)
    obtain ⟨m, hm'⟩ : ∃ m, m = l - (s.size : Int) := ⟨_, rfl⟩
    rw [← hm'] at SZ
    go_enter Tryz.func16, Tryz.ntmps16
    go_wp2_with fail
    try rw [← hm']
    refine (SZ.out _ (by repeat (first | exact Below.refl _ _ | refine Below.setCell ?_ (by first | (simp; done) | omega | (simp; omega)) _ | refine Below.alloc ?_ (by first | (simp; done) | omega | (simp; omega)) _ | refine bel_drew ?_)
      )).mono ?_
    rintro e w1 ⟨z, rfl, hz0, hz1, hz2, hb1⟩
    have HB1 : Hid (Below w.heap.size w w1) := Lib.hid (by
      refine Below.trans ?_ (hb1.mono ?_)
      · repeat (first | exact Below.refl _ _ | refine Below.setCell ?_ (by first | (simp; done) | omega | (simp; omega)) _ | refine Below.alloc ?_ (by first | (simp; done) | omega | (simp; omega)) _ | refine bel_drew ?_)
      · simp)
    have HZ := Lib.hid hz2
    clear hb1 hz2
    by_cases hz : z < 0
    · go_wp2_with fail
      go_ret
      exact ⟨-1, rfl, by omega, by omega, fun h => by omega, HB1.out⟩
    · go_wp2_with fail
      go_ret
      exact ⟨z, rfl, by omega, by omega, HZ.out, HB1.out⟩

/-- The call returned a new copy. -/
def ToNPost (zs : List Int) (w : World) (e : Ending) (w' : World) : Prop :=
  e = .returned (.slice (some ⟨w.heap.size, 0, none⟩) zs.length zs.length) ∧ NRow w' w.heap.size zs ∧ Below w.heap.size w w'
set_option maxHeartbeats 400000 in
theorem toN_empty (a : Option Addr) (cap : Nat) (w : World) :
    Calls Tryz.prog 32 #[.slice a 0 cap] w (ToNPost [] w) := by
  have hmk : ∀ w, (Instr.makeSlice 41 (.int .i64 0) (.int .i64 0)).run Tryz.prog w = .ok (.slice (some ⟨w.heap.size, 0, none⟩) 0 0) (w.alloc (.cells #[] 2)) := fun _ => by kernel_rfl
  have MADE : Hid (NRow (w.alloc (.cells #[] 2)) w.heap.size []) := Lib.hid (World.rowIs_alloc w #[] 2 _ (fun k hk => by simp at hk))
  go_enter Tryz.func32, Tryz.ntmps32
  go_wp2_with fail
  clear hmk
  go_loop [4] (fun i => i = .int .i64 0) (fun _ => 0)
  case atStart => rfl
  case round =>
    subst hrel
    go_wp2_with fail
    go_ret
    exact ⟨rfl, MADE.out, (Below.refl _ _).alloc (Nat.le_refl _) _⟩
set_option maxRecDepth 100000 in
set_option maxHeartbeats 1000000 in
theorem toN_full (b off cap : Nat) (zs : List Int) (w : World) (hbw : b < w.heap.size) (hb : zs.length ≤ 1048576) (hc : ∀ j, (h : j < zs.length) → w.cell? ⟨b, off + j, none⟩ = some (.int .i64 zs[j])) :
    Calls Tryz.prog 32 #[.slice (some ⟨b, off, none⟩) zs.length cap] w (ToNPost zs w) := by
  have HC := Lib.hid hc
  clear hc
  have hmk := nums_make zs.length (by omega)
  have MADE := Lib.hid (numUp_made w zs)
  go_enter Tryz.func32, Tryz.ntmps32
  go_wp2_with fail
  clear hmk
  go_loopg [4] (zs.length + 1) (fun kx s4 wr => ∃ j : Nat, s4 = .int .i64 (j : Int) ∧ j ≤ zs.length ∧ kx = zs.length + 1 - j ∧ Hid (wr.rowIs w.heap.size 2 zs.length (numUp zs j)) ∧ Hid (Below w.heap.size w wr))
  case atStart => exact ⟨0, rfl, Nat.zero_le _, rfl, MADE, Lib.hid ((Below.refl _ _).alloc (Nat.le_refl _) _)⟩
  case round =>
    obtain ⟨j, rfl, hj, rfl, HR, HB⟩ := hrel
    by_cases hlt : j < zs.length
    · have c0 := (HB.out.cell (p := ⟨b, off + j, none⟩) hbw).trans (HC.out j hlt)
      have c1 := World.rowIs.cell HR.out hlt
      have f1 := World.rowIs.frozen HR.out j
      have PU := Lib.hid (numUp_set HR.out (show zs[j] = zs.getD j 0 by rw [List.getD, List.getElem?_eq_getElem hlt]; rfl))
      generalize zs[j] = z at *
      unfold numUp at c1
      have j0 : (0 : Int) ≤ (j : Int) := by omega
      have j1 : (j : Int) < (zs.length : Int) := by omega
      go_wp2_with fail
      go_roundg (zs.length + 1 - (j + 1))
      case measure => omega
      case rel => exact ⟨j + 1, by go_num, by omega, by omega, PU, Lib.hid (HB.out.setCell (Nat.le_refl _) _)⟩
    · obtain rfl : j = zs.length := by omega
      go_wp2_with fail
      go_ret
      exact ⟨rfl, numUp_done HR.out, HB.out⟩
theorem toN_any {v : Value} {zs : List Int} {w : World} (h : NumsIn w v zs) (hb : zs.length ≤ 1048576) :
    Calls Tryz.prog 32 #[v] w (ToNPost zs w) := by
  rcases h with ⟨a, cap, rfl, rfl⟩ | ⟨b, off, cap, rfl, hl, hc⟩
  · exact toN_empty a cap w
  · exact toN_full b off cap zs w hl hb (fun j hj => (hc j hj).1)

/-- The call returned a new copy of all lists. -/
def ToLPost (ls : List (List Int)) (w : World) (e : Ending) (w' : World) : Prop :=
  e = .returned (.slice (some ⟨w.heap.size, 0, none⟩) ls.length ls.length) ∧ (∃ bs, LRow w' w.heap.size ls bs ∧ ∀ k, k < ls.length → w.heap.size < bs k) ∧ Below w.heap.size w w'
set_option maxHeartbeats 400000 in
theorem toSS_empty (a : Option Addr) (cap : Nat) (w : World) :
    Calls Tryz.prog 55 #[.slice a 0 cap] w (ToLPost [] w) := by
  have hmk : ∀ w, (Instr.makeSlice 30 (.int .i64 0) (.int .i64 0)).run Tryz.prog w = .ok (.slice (some ⟨w.heap.size, 0, none⟩) 0 0) (w.alloc (.cells #[] 41)) := fun _ => by kernel_rfl
  have MADE : Hid (LRow (w.alloc (.cells #[] 41)) w.heap.size [] (fun _ => 0)) := Lib.hid ⟨World.rowIs_alloc w #[] 41 _ (fun k hk => by simp at hk), fun k hk => by simp at hk⟩
  go_enter Tryz.func55, Tryz.ntmps55
  go_wp2_with fail
  clear hmk
  go_loop [4] (fun i => i = .int .i64 0) (fun _ => 0)
  case atStart => rfl
  case round =>
    subst hrel
    go_wp2_with fail
    go_ret
    exact ⟨rfl, ⟨_, MADE.out, fun k hk => by simp at hk⟩, (Below.refl _ _).alloc (Nat.le_refl _) _⟩
set_option maxRecDepth 100000 in
set_option maxHeartbeats 1000000 in
theorem toSS_full (b off cap : Nat) (ls : List (List Int)) (w : World) (hbw : b < w.heap.size) (hb : ls.length ≤ 1048576) (hs : ∀ j, (h : j < ls.length) → ls[j].length ≤ 1048576)
    (hc : ∀ j, (h : j < ls.length) → ∃ u, w.cell? ⟨b, off + j, none⟩ = some u ∧ NumsIn w u ls[j] ∧ ls[j].length ≤ 9223372036854775807) :
    Calls Tryz.prog 55 #[.slice (some ⟨b, off, none⟩) ls.length cap] w (ToLPost ls w) := by
  have HC := Lib.hid hc
  have HS := Lib.hid hs
  clear hc hs
  have hmk := lines_make ls.length (by omega)
  have MADE := Lib.hid (LUp.made w ls (fun _ => 0))
  go_enter Tryz.func55, Tryz.ntmps55
  go_wp2_with fail
  clear hmk
  go_loopg [4] (ls.length + 1) (fun kx s4 wr => ∃ j : Nat, s4 = .int .i64 (j : Int) ∧ j ≤ ls.length ∧ kx = ls.length + 1 - j ∧ Hid (∃ bs, LUp wr w.heap.size ls bs j) ∧ Hid (Below w.heap.size w wr))
  case atStart => exact ⟨0, rfl, Nat.zero_le _, rfl, Lib.hid ⟨_, MADE.out⟩, Lib.hid ((Below.refl _ _).alloc (Nat.le_refl _) _)⟩
  case round =>
    obtain ⟨j, rfl, hj, rfl, HR, HB⟩ := hrel
    by_cases hlt : j < ls.length
    · obtain ⟨u, c0, hu, _⟩ := HC.out j hlt
      have c1 := (HB.out.cell (p := ⟨b, off + j, none⟩) hbw).trans c0
      have T := Lib.hid (toN_any (hu.below HB.out) (HS.out j hlt))
      have HG : Hid (ls.getD j [] = ls[j]) := Lib.hid (by rw [List.getD, List.getElem?_eq_getElem hlt]; rfl)
      clear hu c0
      generalize ls[j] = zs at *
      have j0 : (0 : Int) ≤ (j : Int) := by omega
      have j1 : (j : Int) < (ls.length : Int) := by omega
      go_wp2_with fail
      refine T.out.mono ?_
      rintro e w1 ⟨rfl, hn1, hb1⟩
      obtain ⟨bs, hu⟩ := HR.out
      have hu1 := hu.below hb1
      have c2 := World.rowIs.cell hu1.row hlt
      have f2 := World.rowIs.frozen hu1.row j
      have hlg : w.heap.size < wr.heap.size := World.rowIs.lt hu.row
      have PU := Lib.hid (LUp.put hu1 HG.out hn1 hlg)
      have HB1 := Lib.hid (HB.out.trans (hb1.mono HB.out.size))
      obtain ⟨v2, hv2⟩ : ∃ v2, v2 = lineUp ls bs j j := ⟨_, rfl⟩
      rw [← hv2] at c2
      clear hb1 hu hu1 hn1 hv2 c1
      go_wp2_with fail
      go_roundg (ls.length + 1 - (j + 1))
      case measure => omega
      case rel => exact ⟨j + 1, by go_num, by omega, by omega, Lib.hid ⟨_, PU.out⟩, Lib.hid (HB1.out.setCell (Nat.le_refl _) _)⟩
    · obtain rfl : j = ls.length := by omega
      go_wp2_with fail
      go_ret
      obtain ⟨bs, hu⟩ := HR.out
      exact ⟨rfl, ⟨bs, hu.done, fun k hk => (hu.each k hk).2⟩, HB.out⟩
theorem toSS_any {v : Value} {ls : List (List Int)} {w : World} (h : LinesIn w v ls) (hb : ls.length ≤ 1048576) (hs : ∀ j, (h : j < ls.length) → ls[j].length ≤ 1048576) :
    Calls Tryz.prog 55 #[v] w (ToLPost ls w) := by
  rcases h with ⟨a, cap, rfl, rfl⟩ | ⟨b, off, cap, rfl, hl, hc⟩
  · exact toSS_empty a cap w
  · exact toSS_full b off cap ls w hl hb hs hc

/-- The call returned a new copy of the figure. -/
def ToFPost (s : ByteArray) (ls : List (List Int)) (w : World) (e : Ending) (w' : World) : Prop :=
  ∃ g bs, e = .returned (.agg #[.string s, .slice (some ⟨g, 0, none⟩) ls.length ls.length]) ∧ LRow w' g ls bs ∧ Below w.heap.size w w'
/-- .. and where the copy lies. -/
def ToXPost (s : ByteArray) (ls : List (List Int)) (w : World) (e : Ending) (w' : World) : Prop :=
  ∃ g bs, e = .returned (.agg #[.string s, .slice (some ⟨g, 0, none⟩) ls.length ls.length]) ∧ LRow w' g ls bs ∧ Below w.heap.size w w' ∧ w.heap.size ≤ g ∧ ∀ k, k < ls.length → g < bs k
set_option maxRecDepth 100000 in
set_option maxHeartbeats 1000000 in
theorem toFigureX_any (s : ByteArray) (v : Value) (ls : List (List Int)) (w : World) (h : LinesIn w v ls) (hb : ls.length ≤ 1048576) (hs : ∀ j, (h : j < ls.length) → ls[j].length ≤ 1048576) :
    Calls Tryz.prog 18 #[.agg #[.string s, v]] w (ToXPost s ls w) := by
  have T := Lib.hid (fun (W : World) (hB : Below w.heap.size w W) => toSS_any (h.below hB) hb hs)
  clear h hs
  go_enter Tryz.func18, Tryz.ntmps18
  go_wp2_with fail
  refine (T.out _ (by repeat (first | exact Below.refl _ _ | refine Below.setCell ?_ (by first | (simp; done) | omega | (simp; omega)) _ | refine Below.alloc ?_ (by first | (simp; done) | omega | (simp; omega)) _ | refine bel_drew ?_)
    )).mono ?_
  rintro e w1 ⟨rfl, ⟨bs, hr, hbs⟩, hb1⟩
  obtain ⟨W3, hW3⟩ : ∃ W3, W3 = ((w.alloc (Obj.cells #[Value.string s, v] 32)).alloc (Obj.cells #[Value.string ⟨#[]⟩, Value.slice none 0 0] 36)).alloc (Obj.cells #[Value.string s, Value.slice none 0 0] 36) := ⟨_, rfl⟩
  have hsz : W3.heap.size = w.heap.size + 3 := by rw [hW3]; simp
  have e0 : W3.cell? ⟨w.heap.size + 1, 0, none⟩ = some (.string ⟨#[]⟩) := by rw [hW3, World.cell?_alloc_lt _ _ _ (by first | (simp; done) | (simp; omega))]; simp
  have e1 : W3.cell? ⟨w.heap.size + 1, 1, none⟩ = some (.slice none 0 0) := by rw [hW3, World.cell?_alloc_lt _ _ _ (by first | (simp; done) | (simp; omega))]; simp
  have d0 : W3.cell? ⟨w.heap.size + 1 + 1, 0, none⟩ = some (.string s) := by rw [hW3, World.cell?_alloc_at _ _ _ _ (by simp)]; rfl
  have d1 : W3.cell? ⟨w.heap.size + 1 + 1, 1, none⟩ = some (.slice none 0 0) := by rw [hW3, World.cell?_alloc_at _ _ _ _ (by simp)]; rfl
  have f0 : W3.frozen? ⟨w.heap.size + 1, 0, none⟩ = false := by rw [hW3]; first | (simp; done) | (rw [World.frozen?_alloc_past _ _ _ (by first | (simp; done) | (simp; omega))]; simp)
  have f1 : W3.frozen? ⟨w.heap.size + 1, 1, none⟩ = false := by rw [hW3]; first | (simp; done) | (rw [World.frozen?_alloc_past _ _ _ (by first | (simp; done) | (simp; omega))]; simp)
  have f2 : W3.frozen? ⟨w.heap.size + 1 + 1, 1, none⟩ = false := by rw [hW3]; first | (simp; done) | (rw [World.frozen?_alloc_at _ _ _ _ (by simp)])
  have hB3 : Below w.heap.size w W3 := by rw [hW3]; repeat (first | exact Below.refl _ _ | refine Below.setCell ?_ (by first | (simp; done) | omega | (simp; omega)) _ | refine Below.alloc ?_ (by first | (simp; done) | omega | (simp; omega)) _ | refine bel_drew ?_)
  have e0' : (w.alloc (Obj.cells #[Value.string s, v] 32)).heap.size = w.heap.size + 1 := by simp
  rw [← hW3] at hb1 hr hbs ⊢
  clear hW3
  rw [hsz] at hr hbs ⊢
  have Q0 := (hb1.cell (p := ⟨w.heap.size + 1, 0, none⟩) (by rw [hsz]; show w.heap.size + 1 < _; omega)).trans e0
  have Q1 := (hb1.cell (p := ⟨w.heap.size + 1, 1, none⟩) (by rw [hsz]; show w.heap.size + 1 < _; omega)).trans e1
  have R0 := (hb1.cell (p := ⟨w.heap.size + 1 + 1, 0, none⟩) (by rw [hsz]; show w.heap.size + 1 + 1 < _; omega)).trans d0
  have R1 := (hb1.cell (p := ⟨w.heap.size + 1 + 1, 1, none⟩) (by rw [hsz]; show w.heap.size + 1 + 1 < _; omega)).trans d1
  have G0 := (hb1.frozen (p := ⟨w.heap.size + 1, 0, none⟩) (by rw [hsz]; show w.heap.size + 1 < _; omega)).trans f0
  have G1 := (hb1.frozen (p := ⟨w.heap.size + 1, 1, none⟩) (by rw [hsz]; show w.heap.size + 1 < _; omega)).trans f1
  have G2 := (hb1.frozen (p := ⟨w.heap.size + 1 + 1, 1, none⟩) (by rw [hsz]; show w.heap.size + 1 + 1 < _; omega)).trans f2
  have HB1 := Lib.hid (hB3.trans (hb1.mono (by rw [hsz]; omega)))
  have HR := Lib.hid hr
  have hs1 := hr.lt
  clear hb1 hB3 hr e0 e1 d0 d1 f0 f1 f2 e0'
  obtain ⟨g, hg⟩ : ∃ g, g = w.heap.size + 3 := ⟨_, rfl⟩
  rw [← hg] at HR ⊢
  have HN : Hid ((∀ k, k < ls.length → bs k ≠ w.heap.size + 1 ∧ bs k ≠ w.heap.size + 1 + 1) ∧ g ≠ w.heap.size + 1 ∧ g ≠ w.heap.size + 1 + 1 ∧ w.heap.size ≤ g ∧ ∀ k, k < ls.length → g < bs k) := Lib.hid ⟨fun k hk => by have := hbs k hk; omega, by omega, by omega, by omega, fun k hk => by have := hbs k hk; omega⟩
  clear hbs
  have n1 : ¬ w.heap.size + 1 + 1 = w.heap.size + 1 := by omega
  have n2 : ¬ w.heap.size + 1 = w.heap.size + 1 + 1 := by omega
  clear hg hsz T
  go_wp2_with fail
  have k0 : (w1.setCell ⟨w.heap.size + 1 + 1, 1, none⟩ (.slice (some ⟨g, 0, none⟩) ls.length ls.length)).cell? ⟨w.heap.size + 1, 0, none⟩ = some (.string ⟨#[]⟩) := by rw [World.cell?_setCell_other (h := by simp)]; exact Q0
  have k1 : ((w1.setCell ⟨w.heap.size + 1 + 1, 1, none⟩ (.slice (some ⟨g, 0, none⟩) ls.length ls.length)).setCell ⟨w.heap.size + 1, 0, none⟩ (.string s)).cell? ⟨w.heap.size + 1, 1, none⟩ = some (.slice none 0 0) := by rw [World.cell?_setCell_other (h := by simp), World.cell?_setCell_other (h := by simp)]; exact Q1
  have r0 : (((w1.setCell ⟨w.heap.size + 1 + 1, 1, none⟩ (.slice (some ⟨g, 0, none⟩) ls.length ls.length)).setCell ⟨w.heap.size + 1, 0, none⟩ (.string s)).setCell ⟨w.heap.size + 1, 1, none⟩ (.slice (some ⟨g, 0, none⟩) ls.length ls.length)).cell? ⟨w.heap.size + 1, 0, none⟩ = some (.string s) := by rw [World.cell?_setCell_other (h := by simp), World.cell?_setCell_same (h := k0)]
  have r1 : (((w1.setCell ⟨w.heap.size + 1 + 1, 1, none⟩ (.slice (some ⟨g, 0, none⟩) ls.length ls.length)).setCell ⟨w.heap.size + 1, 0, none⟩ (.string s)).setCell ⟨w.heap.size + 1, 1, none⟩ (.slice (some ⟨g, 0, none⟩) ls.length ls.length)).cell? ⟨w.heap.size + 1, 1, none⟩ = some (.slice (some ⟨g, 0, none⟩) ls.length ls.length) := by rw [World.cell?_setCell_same (h := k1)]
  refine bodyPost_ret (v := .agg #[.string s, .slice (some ⟨g, 0, none⟩) ls.length ls.length]) (by simp [results, Tryz.results18, go_sem, r0, r1]) rfl ?_
  obtain ⟨hn, hg1, hg2, hlo, hup⟩ := HN.out
  exact ⟨g, bs, rfl, ((HR.out.setOther hg2 (fun k hk => (hn k hk).2) _).setOther hg1 (fun k hk => (hn k hk).1) _).setOther hg1 (fun k hk => (hn k hk).1) _, ((HB1.out.setCell (by simp; omega) _).setCell (by simp) _).setCell (by simp) _, hlo, hup⟩
theorem toFigure_any (s : ByteArray) (v : Value) (ls : List (List Int)) (w : World) (h : LinesIn w v ls) (hb : ls.length ≤ 1048576) (hs : ∀ j, (h : j < ls.length) → ls[j].length ≤ 1048576) :
    Calls Tryz.prog 18 #[.agg #[.string s, v]] w (ToFPost s ls w) :=
  (toFigureX_any s v ls w h hb hs).mono fun _ _ ⟨g, bs, h1, h2, h3, _, _⟩ => ⟨g, bs, h1, h2, h3⟩

/-- A struct of two cells that the call made stays. -/
theorem box_keep {W W' : World} {b : Nat} {v0 v1 : Value} (h : b < W.heap.size ∧ W.cell? ⟨b, 0, none⟩ = some v0 ∧ W.cell? ⟨b, 1, none⟩ = some v1) (hb : Below W.heap.size W W') :
    b < W'.heap.size ∧ W'.cell? ⟨b, 0, none⟩ = some v0 ∧ W'.cell? ⟨b, 1, none⟩ = some v1 := by
  obtain ⟨h0, h1, h2⟩ := h
  have := hb.size
  exact ⟨by omega, (hb.cell (p := ⟨b, 0, none⟩) h0).trans h1, (hb.cell (p := ⟨b, 1, none⟩) h0).trans h2⟩
theorem box_new (w : World) (v0 v1 : Value) (t : TypeId) : w.heap.size < (w.alloc (.cells #[v0, v1] t)).heap.size ∧ (w.alloc (.cells #[v0, v1] t)).cell? ⟨w.heap.size, 0, none⟩ = some v0 ∧ (w.alloc (.cells #[v0, v1] t)).cell? ⟨w.heap.size, 1, none⟩ = some v1 := by
  refine ⟨by simp, ?_, ?_⟩ <;> (rw [World.cell?_alloc_at _ _ _ _ rfl]; rfl)
theorem lines_fits {w : World} {v : Value} {ls : List (List Int)} (h : LinesIn w v ls) : ∀ j, (hj : j < ls.length) → ∀ x ∈ ls[j], fits x := by
  intro j hj x hx
  rcases h with ⟨a, cap, _, rfl⟩ | ⟨b, off, cap, _, _, hc⟩
  · cases hj
  · obtain ⟨u, _, hu, _⟩ := hc j hj
    rcases hu with ⟨a, cap, _, h0⟩ | ⟨b, off, cap, _, _, hz⟩
    · rw [h0] at hx
      cases hx
    · obtain ⟨k, hk, rfl⟩ := List.mem_iff_getElem.1 hx
      exact (hz k hk).2

theorem quiet_d2 {P : Program} {f : FuncId} {args : Array Value} {w : World} {n : Nat} {v : Value}
    (h : Calls P f args (w.drewN n) fun e w' => e = .returned v ∧ ∃ m, w' = (w.drewN n).drewN m) : Calls P f args (w.drewN n) fun e w'' => e = .returned v ∧ ∃ m, w'' = w.drewN m :=
  h.mono fun _ _ ⟨he, m, hm⟩ => ⟨he, n + m, by rw [hm, World.drewN_drewN]⟩
theorem bel_d2 {B : Nat} {a w : World} (h : Below B a w) (n : Nat) : Below B a (w.drewN n) := ⟨h.os, h.tape, h.output, h.size, h.block⟩
set_option maxRecDepth 100000 in
set_option maxHeartbeats 1000000 in
theorem eqN_any (b b' ca cb : Nat) (zs : List Int) (w : World) (hb : zs.length ≤ 1048577) (h1 : NRow w b zs) (h2 : NRow w b' zs) :
    Calls Tryz.prog 27 #[.slice (some ⟨b, 0, none⟩) zs.length ca, .slice (some ⟨b', 0, none⟩) zs.length cb] w fun e w' => e = .returned (.bool true) ∧ ∃ q, w' = w.drewN q := by
  have HG := Lib.hid (fun j hj => h1.at j hj)
  have HH := Lib.hid (fun j hj => h2.at j hj)
  clear h1 h2
  go_enter Tryz.func27, Tryz.ntmps27
  go_wp2_with fail
  go_loopw [5] (fun i wr => ∃ (j q : Nat), i = .int .i64 (j : Int) ∧ j ≤ zs.length ∧ wr = w.drewN q) (fun i _ => zs.length - (intOf i).toNat)
  case atStart => exact ⟨0, 0, rfl, Nat.zero_le _, rfl⟩
  case round =>
    obtain ⟨j, q, rfl, hj, rfl⟩ := hrel
    by_cases hlt : j < zs.length
    · have c1 := HG.out j hlt
      have c2 := HH.out j hlt
      generalize zs[j] = z at *
      go_wp2_with fail
      go_quiet (fail)
      go_wp2_with fail
      go_roundw
      case rel => exact ⟨j + 1, _, by go_num, by omega, rfl⟩
      case measure => (simp [intOf] <;> omega)
    · go_wp2_with fail
      go_ret
      exact ⟨rfl, q, rfl⟩
set_option maxRecDepth 100000 in
set_option maxHeartbeats 1000000 in
theorem eqSS_any (g g' ca cb : Nat) (ls : List (List Int)) (bs bs' : Nat → Nat) (w : World) (hb : ls.length ≤ 1048577) (hl : ∀ j, (h : j < ls.length) → ls[j].length ≤ 1048577) (h1 : LRow w g ls bs) (h2 : LRow w g' ls bs') :
    Calls Tryz.prog 58 #[.slice (some ⟨g, 0, none⟩) ls.length ca, .slice (some ⟨g', 0, none⟩) ls.length cb] w fun e w' => e = .returned (.bool true) ∧ Below w.heap.size w w' := by
  have H1 := Lib.hid h1
  have H2 := Lib.hid h2
  have HL := Lib.hid hl
  clear h1 h2 hl
  go_enter Tryz.func58, Tryz.ntmps58
  go_wp2_with fail
  go_loopg [5] (ls.length + 1) (fun kx s5 wr => ∃ j : Nat, s5 = .int .i64 (j : Int) ∧ j ≤ ls.length ∧ kx = ls.length + 1 - j ∧ Hid (Below w.heap.size w wr))
  case atStart => exact ⟨0, rfl, Nat.zero_le _, rfl, Lib.hid (Below.refl _ _)⟩
  case round =>
    obtain ⟨j, rfl, hj, rfl, HB⟩ := hrel
    by_cases hlt : j < ls.length
    · obtain ⟨c1, r1⟩ := (H1.out.below HB.out).at j hlt
      obtain ⟨c2, r2⟩ := (H2.out.below HB.out).at j hlt
      have EN := Lib.hid (fun n => eqN_any (bs j) (bs' j) ls[j].length ls[j].length ls[j] (wr.drewN n) (HL.out j hlt) r1 r2)
      have j0 : (0 : Int) ≤ (j : Int) := by omega
      have j1 : (j : Int) < (ls.length : Int) := by omega
      clear r1 r2 H1 H2 HL
      generalize ls[j].length = z at *
      go_wp2_with fail
      go_quiet ((go_at_call 27; with_reducible exact quiet_d2 (EN.out _)))
      rename Nat => q1
      go_wp2_with fail
      go_roundg (ls.length + 1 - (j + 1))
      case measure => omega
      case rel => exact ⟨j + 1, by go_num, by omega, by omega, Lib.hid (bel_d2 HB.out _)⟩
    · obtain rfl : j = ls.length := by omega
      go_wp2_with fail
      go_ret
      exact ⟨rfl, HB.out⟩
set_option maxRecDepth 100000 in
set_option maxHeartbeats 1000000 in
theorem eqFigure_any (s : ByteArray) (g g' : Nat) (ls : List (List Int)) (bs bs' : Nat → Nat) (w : World) (hb : ls.length ≤ 1048577) (hl : ∀ j, (h : j < ls.length) → ls[j].length ≤ 1048577) (h1 : LRow w g ls bs) (h2 : LRow w g' ls bs') :
    Calls Tryz.prog 20 #[.agg #[.string s, .slice (some ⟨g, 0, none⟩) ls.length ls.length], .agg #[.string s, .slice (some ⟨g', 0, none⟩) ls.length ls.length]] w fun e w' => e = .returned (.bool true) ∧ Below w.heap.size w w' := by
  have EQ := Lib.hid (fun (W : World) (hB : Below w.heap.size w W) => eqSS_any g g' ls.length ls.length ls bs bs' W hb hl (h1.below hB) (h2.below hB))
  have z1 : (s.toList != s.toList) = false := by simp
  have z2 : (s.toList == s.toList) = true := by simp
  clear h1 h2 hl
  go_enter Tryz.func20, Tryz.ntmps20
  go_wp2_with fail
  refine (EQ.out _ (by repeat (first | exact Below.refl _ _ | refine Below.setCell ?_ (by first | (simp; done) | omega | (simp; omega)) _ | refine Below.alloc ?_ (by first | (simp; done) | omega | (simp; omega)) _ | refine bel_drew ?_)
    )).mono ?_
  rintro e w1 ⟨rfl, hb1⟩
  have HB1 : Hid (Below w.heap.size w w1) := Lib.hid (by
    refine Below.trans ?_ (hb1.mono ?_)
    · repeat (first | exact Below.refl _ _ | refine Below.setCell ?_ (by first | (simp; done) | omega | (simp; omega)) _ | refine Below.alloc ?_ (by first | (simp; done) | omega | (simp; omega)) _ | refine bel_drew ?_)
    · simp; omega)
  clear hb1
  go_wp2_with fail
  go_ret
  exact ⟨rfl, HB1.out⟩
theorem fin_FigL : True := trivial
end

section
open Go.RowKit
set_option linter.unusedVariables false

/-- A line between two of n stars. -/
def lineB (n : Int) (x : List Int) : Bool := (x.length == 2) && (inR 0 (n - 1) x && decide (x.getD 0 0 < x.getD 1 0))
def lessP (x y : List Int) : Bool := decide (x.getD 0 0 < y.getD 0 0) || (decide (x.getD 0 0 = y.getD 0 0) && decide (x.getD 1 0 < y.getD 1 0))
def stepL (n : Int) (ls : List (List Int)) (j : Nat) : Bool := lineB n (ls.getD j []) && (j == 0 || lessP (ls.getD (j - 1) []) (ls.getD j []))
def okF (n : Int) (ls : List (List Int)) (j : Nat) : Bool := (List.range j).all (stepL n ls)
def linesB (n : Int) (ls : List (List Int)) : Bool := okF n ls ls.length && decide (ls.length ≤ 16)
theorem okF_next (n : Int) (ls : List (List Int)) (j : Nat) : okF n ls (j + 1) = (okF n ls j && stepL n ls j) := by
  unfold okF
  rw [List.range_succ, List.all_append]
  simp
theorem okF_stop (n : Int) (ls : List (List Int)) (j : Nat) (h : j < ls.length) (hs : stepL n ls j = false) : linesB n ls = false := by
  unfold linesB okF
  have : (List.range ls.length).all (stepL n ls) = false := by
    rw [List.all_eq_false]
    exact ⟨j, List.mem_range.2 h, by rw [hs]; simp⟩
  rw [this, Bool.false_and]
theorem okF_line (n : Int) (ls : List (List Int)) (j k : Nat) (h : okF n ls j = true) (hk : k < j) : lineB n (ls.getD k []) = true := by
  unfold okF at h
  rw [List.all_eq_true] at h
  have := h k (List.mem_range.2 hk)
  unfold stepL at this
  simp only [Bool.and_eq_true] at this
  exact this.1
theorem stepL_zero (n : Int) (ls : List (List Int)) : stepL n ls 0 = lineB n (ls.getD 0 []) := by simp [stepL]
theorem stepL_pos (n : Int) (ls : List (List Int)) (j k : Nat) (h : j = k + 1) : stepL n ls j = (lineB n (ls.getD j []) && lessP (ls.getD k []) (ls.getD j [])) := by subst h; simp [stepL]
theorem lineB_two {n : Int} {x : List Int} (h : lineB n x = true) : ∃ a b, x = [a, b] := by
  unfold lineB at h
  simp only [Bool.and_eq_true, beq_iff_eq] at h
  match x, h.1 with
  | [a, b], _ => exact ⟨a, b, rfl⟩
theorem getL_at (ls : List (List Int)) (j : Nat) (h : j < ls.length) : ls.getD j [] = ls[j] := by rw [List.getD, List.getElem?_eq_getElem h]; rfl

theorem NRow.drewN {w : World} {g : Nat} {zs : List Int} (h : NRow w g zs) {n : Nat} : NRow (w.drewN n) g zs := h
theorem NRow.cells {w : World} {g : Nat} {zs : List Int} (h : NRow w g zs) : ∀ j, j < zs.length → w.cell? ⟨g, 0 + j, none⟩ = some (.int .i64 (zs.getD j 0)) := by
  intro j hj
  rw [Nat.zero_add]
  exact World.rowIs.cell h hj

set_option maxHeartbeats 400000 in
theorem isIndex_any (n : Int) (h0 : 0 ≤ n) (h1 : n ≤ 1048577) (b off m cap : Nat) (zs : List Int) (w : World) (hn : zs.length = m) (hbig : m ≤ 9223372036854775807) (hc : ∀ j, j < zs.length → w.cell? ⟨b, off + j, none⟩ = some (.int .i64 (zs.getD j 0))) :
    Calls Tryz.prog 145 #[.int .i64 n, .slice (some ⟨b, off, none⟩) m cap] w fun e w' => e = .returned (.bool (inR 0 (n - 1) zs)) ∧ w = w' := by
  have W := Lib.hid (within64 0 (n - 1) b off m cap zs w hn hbig hc)
  clear hc hn
  go_enter Tryz.func145, Tryz.ntmps145
  go_wp2_with fail
  refine W.out.mono ?_
  rintro e w' ⟨rfl, rfl⟩
  go_wp2_with fail
  go_ret
  exact ⟨rfl, rfl⟩

theorem quiet_ddF {P : Program} {f : FuncId} {args : Array Value} {w : World} {n : Nat} {v : Value}
    (h : Calls P f args (w.drewN n) fun e w' => e = .returned v ∧ w.drewN n = w') : Calls P f args (w.drewN n) fun e w'' => e = .returned v ∧ ∃ m, w'' = w.drewN m :=
  h.mono fun _ _ ⟨he, hm⟩ => ⟨he, n, hm.symm⟩
set_option maxRecDepth 100000 in
set_option maxHeartbeats 1000000 in
theorem isLine_any (n : Int) (h0 : 0 ≤ n) (h1 : n ≤ 1048577) (b p : Nat) (x : List Int) (hx : x.length ≤ 1048577) (w : World) (hr : NRow w b x) (hp : w.cell? ⟨p, 0, none⟩ = some (.int .i64 n)) :
    Calls Tryz.prog 144 #[.slice (some ⟨b, 0, none⟩) x.length x.length, .pointer (some ⟨p, 0, none⟩)] w fun e w' => e = .returned (.bool (lineB n x)) ∧ ∃ q, w' = w.drewN q := by
  have II := Lib.hid (fun q => isIndex_any n h0 h1 b 0 x.length x.length x (w.drewN q) rfl (by omega) (hr.drewN.cells))
  by_cases h2 : x.length = 2
  · obtain ⟨a, c, rfl⟩ : ∃ a c, x = [a, c] := by
      match x, h2 with
      | [a, c], _ => exact ⟨a, c, rfl⟩
    have e0 := hr.at 0 (by simp)
    have e1 := hr.at 1 (by simp)
    have hv : lineB n [a, c] = (inR 0 (n - 1) [a, c] && decide (a < c)) := rfl
    rw [hv]
    simp only [List.length_cons, List.length_nil, List.getElem_cons_zero, List.getElem_cons_succ] at *
    clear hr hv h2 hx
    generalize inR 0 (n - 1) [a, c] = r at *
    cases r with
    | false =>
      rw [Bool.false_and]
      go_enter Tryz.func144, Tryz.ntmps144
      go_wp2_with fail
      go_quiet ((go_at_call 145; with_reducible exact quiet_ddF (II.out _)))
      rename Nat => q1
      go_wp2_with fail
      go_ret
      exact ⟨rfl, _, rfl⟩
    | true =>
      rw [Bool.true_and]
      go_enter Tryz.func144, Tryz.ntmps144
      go_wp2_with fail
      go_quiet ((go_at_call 145; with_reducible exact quiet_ddF (II.out _)))
      rename Nat => q1
      go_wp2_with fail
      go_ret
      exact ⟨rfl, _, rfl⟩
  · have hv : lineB n x = false := by
      unfold lineB
      rw [show (x.length == 2) = false by simpa using h2, Bool.false_and]
    rw [hv]
    have hi : ¬ (x.length : Int) = 2 := by omega
    have d1 : decide ((x.length : Int) = 2) = false := by simpa using hi
    have d2 : ((x.length : Int) == 2) = false := by simpa using hi
    clear hr hv h2
    generalize x.length = m at *
    go_enter Tryz.func144, Tryz.ntmps144
    go_wp2_with fail
    go_quiet ((go_at_call 145; with_reducible exact quiet_ddF (II.out _)))
    rename Nat => q1
    go_wp2_with fail
    go_ret
    exact ⟨rfl, _, rfl⟩

def cmpI (x y : Int) : Int := if x < y then -1 else if y < x then 1 else 0
set_option maxHeartbeats 400000 in
theorem nanI_any (x : Int) (w : World) : Calls Tryz.prog 217 #[.int .i64 x] w fun e w' => e = .returned (.bool false) ∧ w = w' := by
  have h : (x != x) = false := by simp
  have h2 : (x == x) = true := by simp
  go_enter Tryz.func217, Tryz.ntmps217
  go_wp2_with fail
  go_ret
  exact ⟨by simp, rfl⟩
set_option maxHeartbeats 400000 in
theorem cmpI_any (x y : Int) (w : World) : Calls Tryz.prog 190 #[.int .i64 x, .int .i64 y] w fun e w' => e = .returned (.int .i64 (cmpI x y)) ∧ w = w' := by
  have NX := Lib.hid (fun w => nanI_any x w)
  have NY := Lib.hid (fun w => nanI_any y w)
  unfold cmpI
  by_cases h1 : x < y
  · rw [if_pos h1]
    go_enter Tryz.func190, Tryz.ntmps190
    go_wp2_with fail
    refine (NX.out _).mono ?_
    rintro e w' ⟨rfl, rfl⟩
    go_wp2_with fail
    refine (NY.out _).mono ?_
    rintro e w' ⟨rfl, rfl⟩
    go_wp2_with fail
    go_ret
    exact ⟨rfl, rfl⟩
  · rw [if_neg h1]
    by_cases h2 : y < x
    · rw [if_pos h2]
      go_enter Tryz.func190, Tryz.ntmps190
      go_wp2_with fail
      refine (NX.out _).mono ?_
      rintro e w' ⟨rfl, rfl⟩
      go_wp2_with fail
      refine (NY.out _).mono ?_
      rintro e w' ⟨rfl, rfl⟩
      go_wp2_with fail
      go_ret
      exact ⟨rfl, rfl⟩
    · rw [if_neg h2]
      go_enter Tryz.func190, Tryz.ntmps190
      go_wp2_with fail
      refine (NX.out _).mono ?_
      rintro e w' ⟨rfl, rfl⟩
      go_wp2_with fail
      refine (NY.out _).mono ?_
      rintro e w' ⟨rfl, rfl⟩
      go_wp2_with fail
      go_ret
      exact ⟨rfl, rfl⟩
/-- What slices.Compare answers of two pairs. -/
def cmpP (a b c d : Int) : Int := if cmpI a c ≠ 0 then cmpI a c else cmpI b d
theorem cmpI_zero (x y : Int) : cmpI x y = 0 ↔ x = y := by unfold cmpI; split <;> (try split) <;> omega
theorem cmpI_lt (x y : Int) : cmpI x y < 0 ↔ x < y := by unfold cmpI; split <;> (try split) <;> omega
theorem cmpP_lt (a b c d : Int) : (cmpP a b c d < 0) ↔ lessP [a, b] [c, d] = true := by
  have h : lessP [a, b] [c, d] = (decide (a < c) || (decide (a = c) && decide (b < d))) := rfl
  rw [h]
  unfold cmpP
  by_cases h0 : cmpI a c = 0
  · rw [if_neg (by simpa using h0)]
    have := (cmpI_zero a c).1 h0
    subst this
    rw [cmpI_lt]
    simp
  · rw [if_pos h0, cmpI_lt]
    have := mt (cmpI_zero a c).2 h0
    simp [this]
set_option maxRecDepth 100000 in
set_option maxHeartbeats 1000000 in
theorem comparePair_any (b b' : Nat) (u0 u1 v0 v1 : Int) (cap cap' : Nat) (w : World) (c0 : w.cell? ⟨b, 0, none⟩ = some (.int .i64 u0)) (c1 : w.cell? ⟨b, 1, none⟩ = some (.int .i64 u1)) (d0 : w.cell? ⟨b', 0, none⟩ = some (.int .i64 v0)) (d1 : w.cell? ⟨b', 1, none⟩ = some (.int .i64 v1)) :
    Calls Tryz.prog 147 #[.slice (some ⟨b, 0, none⟩) 2 cap, .slice (some ⟨b', 0, none⟩) 2 cap'] w fun e w' => e = .returned (.int .i64 (cmpP u0 u1 v0 v1)) ∧ w = w' := by
  have C0 := Lib.hid (fun w => cmpI_any u0 v0 w)
  have C1 := Lib.hid (fun w => cmpI_any u1 v1 w)
  obtain ⟨r, hr⟩ : ∃ r, r = cmpP u0 u1 v0 v1 := ⟨_, rfl⟩
  have R0 : Hid (cmpI u0 v0 ≠ 0 → r = cmpI u0 v0) := Lib.hid (fun h => by rw [hr]; unfold cmpP; rw [if_pos h])
  have R1 : Hid (cmpI u0 v0 = 0 → r = cmpI u1 v1) := Lib.hid (fun h => by rw [hr]; unfold cmpP; rw [if_neg (by simpa using h)])
  rw [← hr]
  clear hr
  generalize cmpI u0 v0 = q0 at *
  generalize cmpI u1 v1 = q1 at *
  go_enter Tryz.func147, Tryz.ntmps147
  go_wp2_with fail
  go_loop [11] (fun t => ∃ j : Nat, t = .int .i64 (j : Int) ∧ j ≤ 2 ∧ (0 < j → q0 = 0) ∧ (1 < j → q1 = 0)) (fun t => 2 - (intOf t).toNat)
  case atStart => exact ⟨0, rfl, by omega, fun h => by omega, fun h => by omega⟩
  case round =>
    obtain ⟨j, rfl, hj, hq0, hq1⟩ := hrel
    rcases (by omega : j = 0 ∨ j = 1 ∨ j = 2) with rfl | rfl | rfl
    · go_wp2_with fail
      refine (C0.out _).mono ?_
      rintro e w' ⟨rfl, rfl⟩
      by_cases hz : q0 = 0
      · have z1 : (q0 != 0) = false := by simpa using hz
        have z2 : (q0 == 0) = true := by simpa using hz
        go_wp2_with fail
        go_round
        case rel => exact ⟨1, by go_num, by omega, fun _ => hz, fun h => by omega⟩
        case measure => simp [intOf]
      · have z1 : (q0 != 0) = true := by simpa using hz
        have z2 : (q0 == 0) = false := by simpa using hz
        have hr := R0.out hz
        go_wp2_with fail
        go_ret
        exact ⟨ret_int hr.symm, rfl⟩
    · go_wp2_with fail
      refine (C1.out _).mono ?_
      rintro e w' ⟨rfl, rfl⟩
      by_cases hz : q1 = 0
      · have z1 : (q1 != 0) = false := by simpa using hz
        have z2 : (q1 == 0) = true := by simpa using hz
        go_wp2_with fail
        go_round
        case rel => exact ⟨2, by go_num, by omega, fun _ => hq0 (by omega), fun _ => hz⟩
        case measure => simp [intOf]
      · have z1 : (q1 != 0) = true := by simpa using hz
        have z2 : (q1 == 0) = false := by simpa using hz
        have hr := R1.out (hq0 (by omega))
        go_wp2_with fail
        go_ret
        exact ⟨ret_int hr.symm, rfl⟩
    · have hr := R1.out (hq0 (by omega))
      have hz := hq1 (by omega)
      go_wp2_with fail
      go_ret
      exact ⟨ret_int (by first | omega | rw [hr, hz]), rfl⟩

theorem bel_dF {B : Nat} {a w : World} (h : Below B a w) (n : Nat) : Below B a (w.drewN n) := ⟨h.os, h.tape, h.output, h.size, h.block⟩
theorem quiet_bel {P : Program} {f : FuncId} {args : Array Value} {w : World} {v : Value}
    (h : Calls P f args w fun e w' => e = .returned v ∧ ∃ q, w' = w.drewN q) : Calls P f args w fun e w' => e = .returned v ∧ Below w.heap.size w w' :=
  h.mono fun _ _ ⟨he, q, hq⟩ => ⟨he, by rw [hq]; exact bel_dF (Below.refl _ w) q⟩
set_option maxRecDepth 100000 in
set_option maxHeartbeats 2000000 in
theorem incrL_any (n : Int) (h0 : 0 ≤ n) (h1 : n ≤ 1048577) (g cap p : Nat) (ls : List (List Int)) (bs : Nat → Nat) (w : World) (hb : ls.length ≤ 1048577) (hls : ∀ j, (h : j < ls.length) → ls[j].length ≤ 1048577) (hr : LRow w g ls bs) (hp : w.cell? ⟨p, 0, none⟩ = some (.int .i64 n)) :
    Calls Tryz.prog 146 #[.slice (some ⟨g, 0, none⟩) ls.length cap, .int .i64 16, .func (.func 144) #[] #[.pointer (some ⟨p, 0, none⟩)], .func (.func 147) #[] #[]] w fun e w' => e = .returned (.bool (linesB n ls)) ∧ Below w.heap.size w w' := by
  have H1 := Lib.hid hr
  have HLS := Lib.hid hls
  have hpl := World.block_lt_of_cell? w ⟨p, 0, none⟩ hp
  have HP := Lib.hid hp
  have KN := Lib.hid (okF_next n ls)
  have KS := Lib.hid (okF_stop n ls)
  have KE : Hid (linesB n ls = (okF n ls ls.length && decide (ls.length ≤ 16))) := Lib.hid rfl
  generalize linesB n ls = r at *
  clear hr hls hp
  by_cases hmo : 16 < ls.length
  · have hr : r = false := by rw [KE.out, show decide (ls.length ≤ 16) = false by simpa using hmo, Bool.and_false]
    subst hr
    have hmo' : (16 : Int) < (ls.length : Int) := by omega
    go_enter Tryz.func146, Tryz.ntmps146
    go_wp2_with fail
    go_ret
    exact ⟨rfl, Below.refl _ _⟩
  · have hmo' : ¬ (16 : Int) < (ls.length : Int) := by omega
    have hE : r = okF n ls ls.length := by rw [KE.out, show decide (ls.length ≤ 16) = true by simpa using Nat.not_lt.1 hmo, Bool.and_true]
    have HE := Lib.hid hE
    clear hE KE
    go_enter Tryz.func146, Tryz.ntmps146
    go_wp2_with fail
    go_loopg [17] (ls.length + 1) (fun kx s17 wr => ∃ j : Nat, s17 = .int .i64 (j : Int) ∧ j ≤ ls.length ∧ kx = ls.length + 1 - j ∧ Hid (okF n ls j = true) ∧ Hid (Below w.heap.size w wr))
    case atStart => exact ⟨0, rfl, Nat.zero_le _, rfl, Lib.hid rfl, Lib.hid (Below.refl _ _)⟩
    case round =>
      obtain ⟨j, rfl, hj, rfl, HO, HB⟩ := hrel
      by_cases hlt : j < ls.length
      · have hR := H1.out.below HB.out
        obtain ⟨c0, hx⟩ := hR.at j hlt
        have hp1 := (HB.out.cell (p := ⟨p, 0, none⟩) hpl).trans HP.out
        have IL := Lib.hid (isLine_any n h0 h1 (bs j) p ls[j] (HLS.out j hlt) wr hx hp1)
        have HS := Lib.hid (KS.out j hlt)
        have HN := Lib.hid (KN.out j)
        have GD := getL_at ls j hlt
        have j0 : (0 : Int) ≤ (j : Int) := by omega
        have j1 : (j : Int) < (ls.length : Int) := by omega
        cases hg : lineB n ls[j] with
        | false =>
          have hst : stepL n ls j = false := by unfold stepL; rw [GD, hg]; rfl
          have hr : r = false := HS.out hst
          rw [hg] at IL
          subst hr
          clear hg hst GD hR HS HN KS KN hx hp1
          generalize ls[j].length = m at *
          go_wp2_with fail
          refine IL.out.mono ?_
          rintro e w1 ⟨rfl, q, rfl⟩
          go_wp2_with fail
          go_ret
          exact ⟨rfl, bel_dF HB.out q⟩
        | true =>
          obtain ⟨a, c, hac⟩ := lineB_two hg
          rw [hg] at IL
          by_cases hz : j = 0
          · subst hz
            have hst : okF n ls (0 + 1) = true := by rw [HN.out, stepL_zero, GD, hg]; rfl
            have HT := Lib.hid hst
            clear hg hst GD hR HS HN KS KN hx hp1 hac
            generalize ls[0].length = m at *
            go_wp2_with fail
            refine IL.out.mono ?_
            rintro e w1 ⟨rfl, q, rfl⟩
            go_wp2_with fail
            go_roundg (ls.length + 1 - (0 + 1))
            case measure => omega
            case rel => exact ⟨0 + 1, by go_num, by omega, by omega, HT, Lib.hid (bel_dF HB.out q)⟩
          · obtain ⟨k, hk⟩ : ∃ k, j = k + 1 := ⟨j - 1, by omega⟩
            have hkl : k < ls.length := by omega
            obtain ⟨d0, hy⟩ := hR.at k hkl
            obtain ⟨a', c', hac'⟩ := lineB_two (by have h := okF_line n ls j k HO.out (by omega); rw [getL_at ls k hkl] at h; exact h)
            have hst : stepL n ls j = lessP [a', c'] [a, c] := by rw [stepL_pos n ls j k hk, GD, getL_at ls k hkl, hg, Bool.true_and, hac, hac']
            have ek : (j : Int) - 1 = (k : Int) := by omega
            have k0 : (0 : Int) ≤ (k : Int) := by omega
            have k1 : (k : Int) < (ls.length : Int) := by omega
            have kg : 0 < j := by omega
            have kd : decide (0 < j) = true := by simpa using kg
            have kg' : (0 : Int) < (j : Int) := by omega
            have wk : IntKind.i64.wrap (k : Int) = (k : Int) := IntWalk.i64_in _ (by omega)
            rw [hst] at HS HN
            rw [hac] at c0 hx IL
            rw [hac'] at d0 hy
            have x0 := hx.at 0 (by simp)
            have x1 := hx.at 1 (by simp)
            have y0 := hy.at 0 (by simp)
            have y1 := hy.at 1 (by simp)
            simp only [List.length_cons, List.length_nil, List.getElem_cons_zero, List.getElem_cons_succ, Nat.zero_add, Nat.reduceAdd] at c0 d0 IL x0 x1 y0 y1
            have CP := Lib.hid (fun q => comparePair_any (bs k) (bs j) a' c' a c 2 2 (wr.drewN q) y0 y1 x0 x1)
            have hlt0 := cmpP_lt a' c' a c
            generalize cmpP a' c' a c = q at *
            generalize lessP [a', c'] [a, c] = lt at *
            clear hz hR GD hg hst hk hx hy hac hac' hp1 x0 x1 y0 y1
            cases lt with
            | true =>
              have hn : ¬ (0 : Int) ≤ q := by have := hlt0.2 rfl; omega
              have hn' : decide ((0 : Int) ≤ q) = false := by simpa using hn
              have HT : Hid (okF n ls (j + 1) = true) := Lib.hid (by rw [HN.out, HO.out]; rfl)
              clear hlt0 HS HN KS KN
              go_wp2_with fail
              refine IL.out.mono ?_
              rintro e w1 ⟨rfl, q1, rfl⟩
              go_wp2_with fail
              refine (CP.out _).mono ?_
              rintro e w2 ⟨rfl, rfl⟩
              go_wp2_with fail
              go_roundg (ls.length + 1 - (j + 1))
              case measure => omega
              case rel => exact ⟨j + 1, by go_num, by omega, by omega, HT, Lib.hid (bel_dF HB.out q1)⟩
            | false =>
              have hn : (0 : Int) ≤ q := by
                rcases (show q < 0 ∨ 0 ≤ q by omega) with h | h
                · have := hlt0.1 h; cases this
                · exact h
              have hn' : decide ((0 : Int) ≤ q) = true := by simpa using hn
              have hr : r = false := HS.out rfl
              subst hr
              clear hlt0 HS HN KS KN
              go_wp2_with fail
              refine IL.out.mono ?_
              rintro e w1 ⟨rfl, q1, rfl⟩
              go_wp2_with fail
              refine (CP.out _).mono ?_
              rintro e w2 ⟨rfl, rfl⟩
              go_wp2_with fail
              go_ret
              exact ⟨rfl, bel_dF HB.out q1⟩
      · obtain rfl : j = ls.length := by omega
        go_wp2_with fail
        go_ret
        refine ⟨ret_bool ?_, HB.out⟩
        rw [HE.out, HO.out]

def figB (n : Int) (s : ByteArray) (ls : List (List Int)) : Bool := nameB s.data.toList && linesB n ls
set_option maxRecDepth 100000 in
set_option maxHeartbeats 1000000 in
theorem isValidFor_any (s : ByteArray) (hs : s.size ≤ maxLen) (n : Int) (h0 : 0 ≤ n) (h1 : n ≤ 1048577) (g cap : Nat) (ls : List (List Int)) (bs : Nat → Nat) (w : World) (hb : ls.length ≤ 1048577) (hls : ∀ j, (h : j < ls.length) → ls[j].length ≤ 1048577) (hr : LRow w g ls bs) :
    Calls Tryz.prog 103 #[.agg #[.string s, .slice (some ⟨g, 0, none⟩) ls.length cap], .int .i64 n] w fun e w' => e = .returned (.bool (figB n s ls)) ∧ Below w.heap.size w w' := by
  have I1 := Lib.hid (fun w => implName_any s w (by unfold maxLen at hs; omega))
  have I2 := Lib.hid (fun (W : World) (hB : Below w.heap.size w W) (p : Nat) hp => incrL_any n h0 h1 g cap p ls bs W hb hls (hr.below hB) hp)
  unfold figB
  clear hr hls
  generalize nameB s.data.toList = p1 at *
  generalize linesB n ls = p2 at *
  cases p1 with
  | false =>
    rw [Bool.false_and]
    go_enter Tryz.func103, Tryz.ntmps103
    go_wp2_with fail
    refine (I1.out _).mono ?_
    rintro e w1 ⟨rfl, hb1⟩
    have HB1 : Hid (Below w.heap.size w w1) := Lib.hid (by
      refine Below.trans ?_ (hb1.mono ?_)
      · repeat (first | exact Below.refl _ _ | refine Below.setCell ?_ (by first | (simp; done) | omega | (simp; omega)) _ | refine Below.alloc ?_ (by first | (simp; done) | omega | (simp; omega)) _ | refine bel_drew ?_)
      · simp; omega)
    clear hb1
    go_wp2_with fail
    go_ret
    exact ⟨rfl, HB1.out⟩
  | true =>
    rw [Bool.true_and]
    go_enter Tryz.func103, Tryz.ntmps103
    go_wp2_with fail
    refine (I1.out _).mono ?_
    rintro e w1 ⟨rfl, hb1⟩
    have HB1 : Hid (Below w.heap.size w w1) := Lib.hid (by
      refine Below.trans ?_ (hb1.mono ?_)
      · repeat (first | exact Below.refl _ _ | refine Below.setCell ?_ (by first | (simp; done) | omega | (simp; omega)) _ | refine Below.alloc ?_ (by first | (simp; done) | omega | (simp; omega)) _ | refine bel_drew ?_)
      · simp; omega)
    have q0 : w1.cell? ⟨w.heap.size, 1, none⟩ = some (.slice (some ⟨g, 0, none⟩) ls.length cap) := (hb1.cell (p := ⟨w.heap.size, 1, none⟩) (by simp; omega)).trans (by first | (simp; done) | (rw [World.cell?_alloc_lt _ _ _ (by first | (simp; done) | (simp; omega))]; simp))
    have q1 : w1.cell? ⟨w.heap.size + 1, 0, none⟩ = some (.int .i64 n) := (hb1.cell (p := ⟨w.heap.size + 1, 0, none⟩) (by simp)).trans (by first | (simp; done) | (rw [World.cell?_alloc_at _ _ _ _ (by simp)]; rfl))
    clear hb1
    go_wp2_with fail
    refine (I2.out _ HB1.out (w.heap.size + 1) q1).mono ?_
    rintro e w2 ⟨rfl, hb2⟩
    have HB2 := Lib.hid (HB1.out.trans (hb2.mono HB1.out.size))
    clear hb2
    go_wp2_with fail
    go_ret
    exact ⟨rfl, HB2.out⟩
theorem fin_FigI : True := trivial
end

section
open Go.RowKit
set_option linter.unusedVariables false

def figV (zs : List StarV) (s : ByteArray) (ls : List (List Int)) : Bool := okL zs && figB (zs.length : Int) s ls
set_option maxRecDepth 100000 in
set_option maxHeartbeats 1000000 in
theorem validFigure_any (s : ByteArray) (hs : s.size ≤ maxLen) (g cap : Nat) (ls : List (List Int)) (bs : Nat → Nat) (g' cap' : Nat) (zs : List StarV) (w : World) (hb : ls.length ≤ 1048577) (hls : ∀ j, (h : j < ls.length) → ls[j].length ≤ 1048577) (hr : LRow w g ls bs)
    (hb' : zs.length ≤ 1048577) (h1 : Row w g' zs) (hok : ∀ j, (h : j < zs.length) → zs[j].ok) :
    Calls Tryz.prog 56 #[.agg #[.string s, .slice (some ⟨g, 0, none⟩) ls.length cap], .slice (some ⟨g', 0, none⟩) zs.length cap'] w fun e w' => e = .returned (.bool (figV zs s ls)) ∧ Below w.heap.size w w' := by
  have V := Lib.hid (fun (W : World) (hB : Below w.heap.size w W) => validStars_any g' cap' zs W hb' (h1.below hB) hok)
  have F := Lib.hid (fun (W : World) (hB : Below w.heap.size w W) => isValidFor_any s hs (zs.length : Int) (by omega) (by omega) g cap ls bs W hb hls (hr.below hB))
  unfold figV
  clear hr hls h1 hok
  generalize okL zs = p1 at *
  generalize figB (zs.length : Int) s ls = p2 at *
  cases p1 with
  | false =>
    rw [Bool.false_and]
    go_enter Tryz.func56, Tryz.ntmps56
    go_wp2_with fail
    refine (V.out _ (by repeat (first | exact Below.refl _ _ | refine Below.setCell ?_ (by first | (simp; done) | omega | (simp; omega)) _ | refine Below.alloc ?_ (by first | (simp; done) | omega | (simp; omega)) _ | refine bel_drew ?_)
      )).mono ?_
    rintro e w1 ⟨rfl, hb1⟩
    have HB1 : Hid (Below w.heap.size w w1) := Lib.hid (by
      refine Below.trans ?_ (hb1.mono ?_)
      · repeat (first | exact Below.refl _ _ | refine Below.setCell ?_ (by first | (simp; done) | omega | (simp; omega)) _ | refine Below.alloc ?_ (by first | (simp; done) | omega | (simp; omega)) _ | refine bel_drew ?_)
      · simp)
    clear hb1
    go_wp2_with fail
    go_ret
    exact ⟨rfl, HB1.out⟩
  | true =>
    rw [Bool.true_and]
    go_enter Tryz.func56, Tryz.ntmps56
    go_wp2_with fail
    refine (V.out _ (by repeat (first | exact Below.refl _ _ | refine Below.setCell ?_ (by first | (simp; done) | omega | (simp; omega)) _ | refine Below.alloc ?_ (by first | (simp; done) | omega | (simp; omega)) _ | refine bel_drew ?_)
      )).mono ?_
    rintro e w1 ⟨rfl, hb1⟩
    have HB1 : Hid (Below w.heap.size w w1) := Lib.hid (by
      refine Below.trans ?_ (hb1.mono ?_)
      · repeat (first | exact Below.refl _ _ | refine Below.setCell ?_ (by first | (simp; done) | omega | (simp; omega)) _ | refine Below.alloc ?_ (by first | (simp; done) | omega | (simp; omega)) _ | refine bel_drew ?_)
      · simp)
    have q0 : w1.cell? ⟨w.heap.size, 0, none⟩ = some (.string s) := (hb1.cell (p := ⟨w.heap.size, 0, none⟩) (by simp)).trans (by simp)
    have q1 : w1.cell? ⟨w.heap.size, 1, none⟩ = some (.slice (some ⟨g, 0, none⟩) ls.length cap) := (hb1.cell (p := ⟨w.heap.size, 1, none⟩) (by simp)).trans (by simp)
    clear hb1
    go_wp2_with fail
    refine (F.out _ HB1.out).mono ?_
    rintro e w2 ⟨rfl, hb2⟩
    have HB2 := Lib.hid (HB1.out.trans (hb2.mono HB1.out.size))
    clear hb2
    go_wp2_with fail
    go_ret
    exact ⟨rfl, HB2.out⟩

set_option maxRecDepth 100000 in
set_option maxHeartbeats 4000000 in
theorem l08Lines_any (n : Int) (h0 : 0 ≤ n) (h1 : n ≤ 1048577) (g cap : Nat) (ls : List (List Int)) (bs : Nat → Nat) (w : World) (hb : ls.length ≤ 1048577) (hls : ∀ j, (h : j < ls.length) → ls[j].length ≤ 1048577) (hfit : ∀ j, (h : j < ls.length) → ∀ x ∈ ls[j], fits x) (hr : LRow w g ls bs) :
    Calls Tryz.prog 101 #[.slice (some ⟨g, 0, none⟩) ls.length cap, .int .i64 n] w fun e w' => e = .returned (.bool (linesB n ls)) ∧ Below w.heap.size w w' := by
  have H1 := Lib.hid hr
  have HLS := Lib.hid hls
  have KN := Lib.hid (okF_next n ls)
  have KS := Lib.hid (okF_stop n ls)
  have KE : Hid (linesB n ls = (okF n ls ls.length && decide (ls.length ≤ 16))) := Lib.hid rfl
  generalize linesB n ls = r at *
  clear hr hls
  have HF := Lib.hid hfit
  clear hfit
  go_enter Tryz.func101, Tryz.ntmps101
  go_wp2_with fail
  go_loopg [5] (ls.length + 1) (fun kx s5 wr => ∃ j : Nat, s5 = .int .i64 (j : Int) ∧ j ≤ ls.length ∧ kx = ls.length + 1 - j ∧ Hid (okF n ls j = true) ∧ Hid (Below w.heap.size w wr))
  case atStart => exact ⟨0, rfl, Nat.zero_le _, rfl, Lib.hid rfl, Lib.hid (Below.refl _ _)⟩
  case round =>
    obtain ⟨j, rfl, hj, rfl, HO, HB⟩ := hrel
    by_cases hlt : j < ls.length
    · have hR := H1.out.below HB.out
      obtain ⟨c0, hx⟩ := hR.at j hlt
      have HS := Lib.hid (KS.out j hlt)
      have HN := Lib.hid (KN.out j)
      have GD := getL_at ls j hlt
      have j0 : (0 : Int) ≤ (j : Int) := by omega
      have j1 : (j : Int) < (ls.length : Int) := by omega
      by_cases h2 : ls[j].length = 2
      · obtain ⟨a, c, hac⟩ : ∃ a c, ls[j] = [a, c] := by
          match ls[j], h2 with
          | [a, c], _ => exact ⟨a, c, rfl⟩
        have hfa : fits a := HF.out j hlt a (by rw [hac]; simp)
        have hg : lineB n ls[j] = (inR 0 (n - 1) [a] && inR (a + 1) (n - 1) [c]) := by
          rw [hac]
          have e : lineB n [a, c] = (inR 0 (n - 1) [a, c] && decide (a < c)) := rfl
          rw [e, inR_2, Bool.eq_iff_iff]
          simp only [Bool.and_eq_true, inR_1, decide_eq_true_eq]
          omega
        rw [hac] at c0 hx
        have x0 := hx.at 0 (by simp)
        have x1 := hx.at 1 (by simp)
        simp only [List.length_cons, List.length_nil, List.getElem_cons_zero, List.getElem_cons_succ, Nat.zero_add, Nat.reduceAdd] at c0 x0 x1
        have J0 := Lib.hid (fun w => l00In_any a 0 (n - 1) w)
        have J1 := Lib.hid (fun w => l00In_any c (a + 1) (n - 1) w)
        cases hi : inR 0 (n - 1) [a] with
        | false =>
          rw [hi, Bool.false_and] at hg
          rw [hi] at J0
          have hr : r = false := HS.out (by unfold stepL; rw [GD, hg]; rfl)
          subst hr
          clear hg GD hR HS HN KS KN hx hac h2 hi J1 hfa
          go_wp2_with fail
          go_quiet ((go_at_call 71; with_reducible exact quiet_ddF (J0.out _)))
          rename Nat => q1
          go_wp2_with fail
          go_ret
          exact ⟨rfl, bel_dF HB.out _⟩
        | true =>
          rw [hi, Bool.true_and] at hg
          rw [hi] at J0
          rw [inR_1] at hi
          have wa : IntKind.i64.wrap (a + 1) = a + 1 := IntWalk.i64_in _ (by omega)
          cases hk : inR (a + 1) (n - 1) [c] with
          | false =>
            rw [hk] at hg J1
            have hr : r = false := HS.out (by unfold stepL; rw [GD, hg]; rfl)
            subst hr
            clear hg GD hR HS HN KS KN hx hac h2 hk hfa
            go_wp2_with fail
            go_quiet ((first | (go_at_call 71; with_reducible exact quiet_ddF (J0.out _)) | (go_at_call 71; with_reducible exact quiet_ddF (J1.out _))))
            rename Nat => q1
            go_wp2_with fail
            go_ret
            exact ⟨rfl, bel_dF HB.out _⟩
          | true =>
            rw [hk] at hg J1
            by_cases hz : j = 0
            · subst hz
              have hst : okF n ls (0 + 1) = true := by rw [HN.out, stepL_zero, GD, hg]; rfl
              have HT := Lib.hid hst
              clear hg hst GD hR HS HN KS KN hx hac h2 hk hfa
              go_wp2_with fail
              go_quiet ((first | (go_at_call 71; with_reducible exact quiet_ddF (J0.out _)) | (go_at_call 71; with_reducible exact quiet_ddF (J1.out _))))
              rename Nat => q1
              go_wp2_with fail
              go_quiet (fail)
              rename Nat => q2
              go_wp2_with fail
              go_roundg (ls.length + 1 - (0 + 1))
              case measure => omega
              case rel => exact ⟨0 + 1, by go_num, by omega, by omega, HT, Lib.hid (bel_dF HB.out _)⟩
            · obtain ⟨k, hkk⟩ : ∃ k, j = k + 1 := ⟨j - 1, by omega⟩
              have hkl : k < ls.length := by omega
              obtain ⟨d0, hy⟩ := hR.at k hkl
              obtain ⟨a', c', hac'⟩ := lineB_two (by have h := okF_line n ls j k HO.out (by omega); rw [getL_at ls k hkl] at h; exact h)
              have hst : stepL n ls j = (decide (a' < a) || (decide (a' = a) && decide (c' < c))) := by rw [stepL_pos n ls j k hkk, GD, getL_at ls k hkl, hg, Bool.true_and, hac, hac']; rfl
              have ek : (j : Int) - 1 = (k : Int) := by omega
              have k0 : (0 : Int) ≤ (k : Int) := by omega
              have k1 : (k : Int) < (ls.length : Int) := by omega
              have kg : 0 < j := by omega
              have kd : decide (0 < j) = true := by simpa using kg
              have kg' : (0 : Int) < (j : Int) := by omega
              have wk : IntKind.i64.wrap (k : Int) = (k : Int) := IntWalk.i64_in _ (by omega)
              rw [hst] at HS HN
              rw [hac'] at d0 hy
              have y0 := hy.at 0 (by simp)
              have y1 := hy.at 1 (by simp)
              simp only [List.length_cons, List.length_nil, List.getElem_cons_zero, List.getElem_cons_succ, Nat.zero_add, Nat.reduceAdd] at d0 y0 y1
              clear hz hR GD hg hst hkk hx hy hac hac' hk h2 hfa
              by_cases g1 : a < a'
              · have e1 : decide (a < a') = true := by simpa using g1
                have hr : r = false := HS.out (by rw [show decide (a' < a) = false by simp; omega, show decide (a' = a) = false by simp; omega]; rfl)
                subst hr
                clear HS HN KS KN
                go_wp2_with fail
                go_quiet ((first | (go_at_call 71; with_reducible exact quiet_ddF (J0.out _)) | (go_at_call 71; with_reducible exact quiet_ddF (J1.out _))))
                rename Nat => q1
                go_wp2_with fail
                go_quiet (fail)
                rename Nat => q2
                go_wp2_with fail
                go_ret
                exact ⟨rfl, bel_dF (bel_dF HB.out _) _⟩
              · have e1 : decide (a < a') = false := by simpa using g1
                by_cases g2 : a' = a
                · have e2 : decide (a' = a) = true := by simpa using g2
                  have e2' : (a' == a) = true := by simpa using g2
                  by_cases g3 : c ≤ c'
                  · have e3 : decide (c ≤ c') = true := by simpa using g3
                    have hr : r = false := HS.out (by rw [show decide (a' < a) = false by simp; omega, show decide (c' < c) = false by simp; omega]; simp)
                    subst hr
                    clear HS HN KS KN
                    go_wp2_with fail
                    go_quiet ((first | (go_at_call 71; with_reducible exact quiet_ddF (J0.out _)) | (go_at_call 71; with_reducible exact quiet_ddF (J1.out _))))
                    rename Nat => q1
                    go_wp2_with fail
                    go_quiet (fail)
                    rename Nat => q2
                    go_wp2_with fail
                    go_ret
                    exact ⟨rfl, bel_dF (bel_dF HB.out _) _⟩
                  · have e3 : decide (c ≤ c') = false := by simpa using g3
                    have HT : Hid (okF n ls (j + 1) = true) := Lib.hid (by rw [HN.out, HO.out, show decide (a' = a) = true by simpa using g2, show decide (c' < c) = true by simp; omega]; simp)
                    clear HS HN KS KN
                    go_wp2_with fail
                    go_quiet ((first | (go_at_call 71; with_reducible exact quiet_ddF (J0.out _)) | (go_at_call 71; with_reducible exact quiet_ddF (J1.out _))))
                    rename Nat => q1
                    go_wp2_with fail
                    go_quiet (fail)
                    rename Nat => q2
                    go_wp2_with fail
                    go_roundg (ls.length + 1 - (j + 1))
                    case measure => omega
                    case rel => exact ⟨j + 1, by go_num, by omega, by omega, HT, Lib.hid (bel_dF HB.out _)⟩
                · have e2 : decide (a' = a) = false := by simpa using g2
                  have e2' : (a' == a) = false := by simpa using g2
                  have HT : Hid (okF n ls (j + 1) = true) := Lib.hid (by rw [HN.out, HO.out, show decide (a' < a) = true by simp; omega]; simp)
                  clear HS HN KS KN
                  go_wp2_with fail
                  go_quiet ((first | (go_at_call 71; with_reducible exact quiet_ddF (J0.out _)) | (go_at_call 71; with_reducible exact quiet_ddF (J1.out _))))
                  rename Nat => q1
                  go_wp2_with fail
                  go_quiet (fail)
                  rename Nat => q2
                  go_wp2_with fail
                  go_roundg (ls.length + 1 - (j + 1))
                  case measure => omega
                  case rel => exact ⟨j + 1, by go_num, by omega, by omega, HT, Lib.hid (bel_dF HB.out _)⟩
      · have hg : lineB n ls[j] = false := by
          unfold lineB
          rw [show (ls[j].length == 2) = false by simpa using h2, Bool.false_and]
        have hi : ¬ (ls[j].length : Int) = 2 := by omega
        have d1 : ((ls[j].length : Int) != 2) = true := by simpa using hi
        have d2 : ((ls[j].length : Int) == 2) = false := by simpa using hi
        have d3 : decide ((ls[j].length : Int) = 2) = false := by simpa using hi
        have hr : r = false := HS.out (by unfold stepL; rw [GD, hg]; rfl)
        subst hr
        clear hg GD hR HS HN KS KN hx h2
        generalize ls[j].length = m at *
        go_wp2_with fail
        go_quiet (fail)
        rename Nat => q1
        go_wp2_with fail
        go_ret
        exact ⟨rfl, bel_dF HB.out _⟩
    · obtain rfl : j = ls.length := by omega
      go_wp2_with fail
      go_ret
      refine ⟨ret_bool ?_, HB.out⟩
      rw [KE.out, HO.out, Bool.true_and]
      simp only [decide_eq_decide]
      omega

set_option maxRecDepth 100000 in
set_option maxHeartbeats 1000000 in
theorem l08Ok_any (s : ByteArray) (p g cap : Nat) (ls : List (List Int)) (bs : Nat → Nat) (g' cap' : Nat) (zs : List StarV) (w : World) (hp0 : w.cell? ⟨p, 0, none⟩ = some (.string s)) (hp1 : w.cell? ⟨p, 1, none⟩ = some (.slice (some ⟨g, 0, none⟩) ls.length cap)) (hb : ls.length ≤ 1048577) (hls : ∀ j, (h : j < ls.length) → ls[j].length ≤ 1048577) (hfit : ∀ j, (h : j < ls.length) → ∀ x ∈ ls[j], fits x) (hr : LRow w g ls bs)
    (hb' : zs.length ≤ 1048577) (h1 : Row w g' zs) :
    Calls Tryz.prog 53 #[.pointer (some ⟨p, 0, none⟩), .slice (some ⟨g', 0, none⟩) zs.length cap'] w fun e w' => e = .returned (.bool (figV zs s ls)) ∧ Below w.heap.size w w' := by
  have V := Lib.hid (l05Ok_any g' cap' zs w hb' h1)
  have NM := Lib.hid (fun w => l01Name_any s w)
  have F := Lib.hid (fun (W : World) (hB : Below w.heap.size w W) => l08Lines_any (zs.length : Int) (by omega) (by omega) g cap ls bs W hb hls hfit (hr.below hB))
  have hpl := World.block_lt_of_cell? w ⟨p, 0, none⟩ hp0
  have HP0 := Lib.hid hp0
  have HP1 := Lib.hid hp1
  unfold figV figB
  clear hr hls h1 hfit hp0 hp1
  generalize okL zs = p1 at *
  generalize nameB s.data.toList = p2 at *
  generalize linesB (zs.length : Int) ls = p3 at *
  cases p1 with
  | false =>
    rw [Bool.false_and]
    go_enter Tryz.func53, Tryz.ntmps53
    go_wp2_with fail
    refine (V.out).mono ?_
    rintro e w1 ⟨rfl, hb1⟩
    have HB1 := Lib.hid hb1
    clear hb1
    go_wp2_with fail
    go_ret
    exact ⟨rfl, HB1.out⟩
  | true =>
    rw [Bool.true_and]
    cases p2 with
    | false =>
      rw [Bool.false_and]
      go_enter Tryz.func53, Tryz.ntmps53
      go_wp2_with fail
      refine (V.out).mono ?_
      rintro e w1 ⟨rfl, hb1⟩
      have q0 := (hb1.cell (p := ⟨p, 0, none⟩) hpl).trans HP0.out
      have HB1 := Lib.hid hb1
      clear hb1
      go_wp2_with fail
      refine (NM.out _).mono ?_
      rintro e w2 ⟨rfl, rfl⟩
      go_wp2_with fail
      go_ret
      exact ⟨rfl, HB1.out⟩
    | true =>
      rw [Bool.true_and]
      go_enter Tryz.func53, Tryz.ntmps53
      go_wp2_with fail
      refine (V.out).mono ?_
      rintro e w1 ⟨rfl, hb1⟩
      have q0 := (hb1.cell (p := ⟨p, 0, none⟩) hpl).trans HP0.out
      have q1 := (hb1.cell (p := ⟨p, 1, none⟩) hpl).trans HP1.out
      have HB1 := Lib.hid hb1
      clear hb1
      go_wp2_with fail
      refine (NM.out _).mono ?_
      rintro e w2 ⟨rfl, rfl⟩
      go_wp2_with fail
      refine (F.out _ HB1.out).mono ?_
      rintro e w2 ⟨rfl, hb2⟩
      have HB2 := Lib.hid (HB1.out.trans (hb2.mono HB1.out.size))
      clear hb2
      go_wp2_with fail
      go_ret
      exact ⟨rfl, HB2.out⟩
theorem fin_FigV : True := trivial
end

section
open Go.RowKit
set_option linter.unusedVariables false

theorem sepN_bd (p q : Int × Int × Int) : 0 ≤ sepN p q ∧ sepN p q < 360000 := by
  unfold sepN sepV
  split
  · split
    · unfold atanV
      split
      · split
        · exact ⟨by show (0 : Int) ≤ 0; omega, by show (0 : Int) < 360000; omega⟩
        · exact dirI_bd _ _
      · exact ⟨by show (0 : Int) ≤ 0; omega, by show (0 : Int) < 360000; omega⟩
    · exact ⟨by show (0 : Int) ≤ 0; omega, by show (0 : Int) < 360000; omega⟩
  · exact ⟨by show (0 : Int) ≤ 0; omega, by show (0 : Int) < 360000; omega⟩
theorem farN_bd (x y : StarV) : 0 ≤ farN x y ∧ farN x y < 360000 := sepN_bd _ _

/-- The distance of two stars by their indices. -/
def farI (zs : List StarV) (i k : Int) : Int := farN (zs.getD i.toNat star0) (zs.getD k.toNat star0)
theorem farI_bd (zs : List StarV) (i k : Int) : 0 ≤ farI zs i k ∧ farI zs i k < 360000 := farN_bd _ _
/-- The length of the first j ways of a path. -/
def pathN (zs : List StarV) (p : List Int) : Nat → Int
  | 0 => 0
  | j + 1 => pathN zs p j + farI zs (p.getD j 0) (p.getD (j + 1) 0)
theorem pathN_bd (zs : List StarV) (p : List Int) (j : Nat) : 0 ≤ pathN zs p j ∧ pathN zs p j ≤ 360000 * j := by
  induction j with
  | zero => exact ⟨Int.le_refl _, Int.le_refl _⟩
  | succ j ih =>
    have h := farI_bd zs (p.getD j 0) (p.getD (j + 1) 0)
    unfold pathN
    omega

theorem keepTN {w W W' : World} {g o o' b q q' : Nat} {v0 v1 v2 v3 v4 u0 u1 u2 u3 u4 r0 r1 : Value} (h : (W.cell? ⟨g, o, none⟩ = some v0 ∧ W.cell? ⟨g, o + 1, none⟩ = some v1 ∧ W.cell? ⟨g, o + 2, none⟩ = some v2 ∧ W.cell? ⟨g, o + 3, none⟩ = some v3 ∧ W.cell? ⟨g, o + 4, none⟩ = some v4 ∧ W.cell? ⟨g, o', none⟩ = some u0 ∧ W.cell? ⟨g, o' + 1, none⟩ = some u1 ∧ W.cell? ⟨g, o' + 2, none⟩ = some u2 ∧ W.cell? ⟨g, o' + 3, none⟩ = some u3 ∧ W.cell? ⟨g, o' + 4, none⟩ = some u4 ∧ Below w.heap.size w W) ∧ W.cell? ⟨b, q, none⟩ = some r0 ∧ W.cell? ⟨b, q', none⟩ = some r1) (hb : Below W.heap.size W W') :
    W'.cell? ⟨g, o, none⟩ = some v0 ∧ W'.cell? ⟨g, o + 1, none⟩ = some v1 ∧ W'.cell? ⟨g, o + 2, none⟩ = some v2 ∧ W'.cell? ⟨g, o + 3, none⟩ = some v3 ∧ W'.cell? ⟨g, o + 4, none⟩ = some v4 ∧ W'.cell? ⟨g, o', none⟩ = some u0 ∧ W'.cell? ⟨g, o' + 1, none⟩ = some u1 ∧ W'.cell? ⟨g, o' + 2, none⟩ = some u2 ∧ W'.cell? ⟨g, o' + 3, none⟩ = some u3 ∧ W'.cell? ⟨g, o' + 4, none⟩ = some u4 ∧ W'.cell? ⟨b, q, none⟩ = some r0 ∧ W'.cell? ⟨b, q', none⟩ = some r1 ∧ Below w.heap.size w W' := by
  obtain ⟨h1, n0, n1⟩ := h
  have l0 := World.block_lt_of_cell? W ⟨b, q, none⟩ n0
  obtain ⟨c, _⟩ := bcell hb
  obtain ⟨h0, h1, h2, h3, h4, k0, k1, k2, k3, k4, hB⟩ := keepT h1 hb
  exact ⟨h0, h1, h2, h3, h4, k0, k1, k2, k3, k4, (c _ _ l0).trans n0, (c _ _ l0).trans n1, hB⟩
set_option maxRecDepth 100000 in
set_option maxHeartbeats 4000000 in
theorem pathLength_any (g cap b cap' : Nat) (zs : List StarV) (p : List Int) (w : World) (hs : SinesOK w) (hb : zs.length ≤ 1048577) (hp : p.length ≤ 1048577) (h1 : Row w g zs) (hok : ∀ j, (h : j < zs.length) → zs[j].ok) (h2 : NRow w b p) (hin : ∀ x ∈ p, 0 ≤ x ∧ x < (zs.length : Int)) :
    Calls Tryz.prog 57 #[.slice (some ⟨g, 0, none⟩) zs.length cap, .slice (some ⟨b, 0, none⟩) p.length cap'] w fun e w' => e = .returned (.int .i64 (pathN zs p (p.length - 1))) ∧ Below w.heap.size w w' := by
  have H1 := Lib.hid h1
  have H2 := Lib.hid h2
  have OK := Lib.hid hok
  have IN := Lib.hid hin
  have E := Lib.hid hs
  clear h1 h2 hok hin hs
  go_enter Tryz.func57, Tryz.ntmps57
  go_wp2_with fail
  go_loopg [5, 6] (p.length + 1) (fun kx s5 s6 wr => ∃ q : Nat, s5 = .int .i64 (pathN zs p (q - 1)) ∧ s6 = .int .i64 (q : Int) ∧ 1 ≤ q ∧ (q = 1 ∨ q ≤ p.length) ∧ kx = p.length + 2 - q ∧ Hid (Below w.heap.size w wr))
  case atStart => exact ⟨1, rfl, rfl, Nat.le_refl _, Or.inl rfl, rfl, Lib.hid (Below.refl _ _)⟩
  case round =>
    obtain ⟨q, rfl, rfl, hq1, hj, rfl, HB⟩ := hrel
    by_cases hlt : q < p.length
    · obtain ⟨j, hqj⟩ : ∃ j, q = j + 1 := ⟨q - 1, by omega⟩
      have hqs : q - 1 = j := by omega
      rw [hqs]
      have hj0 : j < p.length := by omega
      have hR := H1.out.below HB.out
      have hP := H2.out.below HB.out
      have a0 := hP.at j hj0
      have a1 := hP.at q hlt
      obtain ⟨i0, i1⟩ := IN.out p[j] (List.getElem_mem hj0)
      obtain ⟨k0, k1⟩ := IN.out p[q] (List.getElem_mem hlt)
      have PN : Hid (pathN zs p (q + 1 - 1) = pathN zs p j + farI zs p[j] p[q]) := Lib.hid (by
        rw [Nat.add_sub_cancel]
        subst hqj
        show pathN zs p j + farI zs (p.getD j 0) (p.getD (j + 1) 0) = _
        rw [List.getD, List.getD, List.getElem?_eq_getElem hj0, List.getElem?_eq_getElem hlt]
        rfl)
      have pb := pathN_bd zs p j
      generalize pathN zs p j = m at *
      generalize p[j] = i at *
      generalize p[q] = k at *
      obtain ⟨ni, rfl⟩ : ∃ n : Nat, i = (n : Int) := ⟨i.toNat, by omega⟩
      obtain ⟨nk, rfl⟩ : ∃ n : Nat, k = (n : Int) := ⟨k.toNat, by omega⟩
      have li : ni < zs.length := by omega
      have lk : nk < zs.length := by omega
      have hfI : farI zs (ni : Int) (nk : Int) = farN zs[ni] zs[nk] := by
        unfold farI
        rw [Int.toNat_natCast, Int.toNat_natCast, getD_at zs ni li, getD_at zs nk lk]
      rw [hfI] at PN
      have fb := farN_bd zs[ni] zs[nk]
      have D := Lib.hid (fun w hs => distSS_any zs[ni].s zs[ni].a zs[ni].b zs[ni].c zs[ni].d (OK.out ni li).2.1 zs[nk].s zs[nk].a zs[nk].b zs[nk].c zs[nk].d (OK.out nk lk).2.1 w hs)
      have hf : sepN (dirT zs[ni].a zs[ni].b) (dirT zs[nk].a zs[nk].b) = farN zs[ni] zs[nk] := rfl
      rw [hf] at D
      unfold sightS at D
      obtain ⟨c0, c1, c2, c3, c4⟩ := hR.at ni li
      obtain ⟨d0, d1, d2, d3, d4⟩ := hR.at nk lk
      clear hf hfI hR hP
      generalize farN zs[ni] zs[nk] = n at *
      generalize zs[ni] = x at *
      generalize zs[nk] = y at *
      obtain ⟨xs, xa, xb, xc, xd⟩ := x
      obtain ⟨ys, ya, yb, yc, yd⟩ := y
      simp only at D c0 c1 c2 c3 c4 d0 d1 d2 d3 d4
      have i2 : (ni : Int) < (zs.length : Int) := by omega
      have k2 : (nk : Int) < (zs.length : Int) := by omega
      have j0 : (0 : Int) ≤ (j : Int) := by omega
      have j2 : (j : Int) < (p.length : Int) := by omega
      have q0 : (0 : Int) ≤ (q : Int) := by omega
      have q2 : (q : Int) < (p.length : Int) := by omega
      have ek : (q : Int) - 1 = (j : Int) := by omega
      have wk : IntKind.i64.wrap (j : Int) = (j : Int) := IntWalk.i64_in _ (by omega)
      have wmn : IntKind.i64.wrap (m + n) = m + n := IntWalk.i64_in _ (by omega)
      clear hqj hqs
      have EE := Lib.hid (fun (W : World) (h : Below wr.heap.size wr W) => E.out.below (HB.out.trans (h.mono HB.out.size)))
      have K : Hid ((wr.cell? ⟨g, ni * 5, none⟩ = some (.string xs) ∧ wr.cell? ⟨g, ni * 5 + 1, none⟩ = some (.int .i64 xa) ∧ wr.cell? ⟨g, ni * 5 + 2, none⟩ = some (.int .i64 xb) ∧ wr.cell? ⟨g, ni * 5 + 3, none⟩ = some (.int .i64 xc) ∧ wr.cell? ⟨g, ni * 5 + 4, none⟩ = some (.int .i64 xd) ∧ wr.cell? ⟨g, nk * 5, none⟩ = some (.string ys) ∧ wr.cell? ⟨g, nk * 5 + 1, none⟩ = some (.int .i64 ya) ∧ wr.cell? ⟨g, nk * 5 + 2, none⟩ = some (.int .i64 yb) ∧ wr.cell? ⟨g, nk * 5 + 3, none⟩ = some (.int .i64 yc) ∧ wr.cell? ⟨g, nk * 5 + 4, none⟩ = some (.int .i64 yd) ∧ Below w.heap.size w wr) ∧ wr.cell? ⟨b, j, none⟩ = some (.int .i64 (ni : Int)) ∧ wr.cell? ⟨b, q, none⟩ = some (.int .i64 (nk : Int))) := Lib.hid ⟨⟨c0, c1, c2, c3, c4, d0, d1, d2, d3, d4, HB.out⟩, a0, a1⟩
      clear c0 c1 c2 c3 c4 d0 d1 d2 d3 d4 a0 a1 H1 H2 OK IN
      go_wp2_with fail
      go_region_held3 (fun W => W.cell? ⟨g, ni * 5, none⟩ = some (.string xs) ∧ W.cell? ⟨g, ni * 5 + 1, none⟩ = some (.int .i64 xa) ∧ W.cell? ⟨g, ni * 5 + 2, none⟩ = some (.int .i64 xb) ∧ W.cell? ⟨g, ni * 5 + 3, none⟩ = some (.int .i64 xc) ∧ W.cell? ⟨g, ni * 5 + 4, none⟩ = some (.int .i64 xd) ∧ W.cell? ⟨g, nk * 5, none⟩ = some (.string ys) ∧ W.cell? ⟨g, nk * 5 + 1, none⟩ = some (.int .i64 ya) ∧ W.cell? ⟨g, nk * 5 + 2, none⟩ = some (.int .i64 yb) ∧ W.cell? ⟨g, nk * 5 + 3, none⟩ = some (.int .i64 yc) ∧ W.cell? ⟨g, nk * 5 + 4, none⟩ = some (.int .i64 yd) ∧ W.cell? ⟨b, j, none⟩ = some (.int .i64 (ni : Int)) ∧ W.cell? ⟨b, q, none⟩ = some (.int .i64 (nk : Int)) ∧ Below w.heap.size w W) (first | (exact keepTN K.out (drewS wr)) | (exact keepTN K.out z1) | go_keep) ((first
        | (go_at_call 62; (with_reducible refine (D.out _ (EE.out _ (drewS wr))).mono ?_); rintro e u1 ⟨rfl, hu1⟩; have z1 := undrewS hu1)))
      all_goals
        rename_i held
        have HH := Lib.hid held.2.2.2.2.2.2.2.2.2.2.2.2
        clear held K
        go_wp2_with fail
        go_roundg (p.length + 2 - (q + 1))
        case measure => omega
        case rel => exact ⟨q + 1, by rw [PN.out], by go_num, by omega, by omega, by omega, HH⟩
    · have hj' : q - 1 = p.length - 1 := by omega
      have jn : ¬ ((q : Int) < (p.length : Int)) := by omega
      go_wp2_with fail
      go_ret
      exact ⟨by first | rfl | rw [hj'], HB.out⟩

/-- The length of the first j lines. -/
def lenF (zs : List StarV) (ls : List (List Int)) : Nat → Int
  | 0 => 0
  | j + 1 => lenF zs ls j + farI zs ((ls.getD j []).getD 0 0) ((ls.getD j []).getD 1 0)
theorem lenF_bd (zs : List StarV) (ls : List (List Int)) (j : Nat) : 0 ≤ lenF zs ls j ∧ lenF zs ls j ≤ 360000 * j := by
  induction j with
  | zero => exact ⟨Int.le_refl _, Int.le_refl _⟩
  | succ j ih =>
    have h := farI_bd zs ((ls.getD j []).getD 0 0) ((ls.getD j []).getD 1 0)
    unfold lenF
    omega
def figLenV (zs : List StarV) (s : ByteArray) (ls : List (List Int)) : Int × Int := if figV zs s ls = true then (lenF zs ls ls.length, 0) else (0, 1)
theorem figV_ok {zs : List StarV} {s : ByteArray} {ls : List (List Int)} (h : figV zs s ls = true) : okL zs = true ∧ ls.length ≤ 16 ∧ ∀ j, (hj : j < ls.length) → ∃ a c : Nat, ls[j] = [(a : Int), (c : Int)] ∧ a < zs.length ∧ c < zs.length ∧ a < c := by
  unfold figV figB linesB at h
  simp only [Bool.and_eq_true, decide_eq_true_eq] at h
  obtain ⟨h1, _, h2, h3⟩ := h
  refine ⟨h1, h3, fun j hj => ?_⟩
  have hl := okF_line _ ls _ j h2 hj
  rw [getL_at ls j hj] at hl
  obtain ⟨a, c, hac⟩ := lineB_two hl
  rw [hac] at hl ⊢
  have e : lineB (zs.length : Int) [a, c] = (inR 0 ((zs.length : Int) - 1) [a, c] && decide (a < c)) := rfl
  rw [e, inR_2] at hl
  simp only [Bool.and_eq_true, inR_1, decide_eq_true_eq] at hl
  exact ⟨a.toNat, c.toNat, by rw [Int.toNat_of_nonneg (by omega), Int.toNat_of_nonneg (by omega)], by omega, by omega, by omega⟩

set_option maxRecDepth 100000 in
set_option maxHeartbeats 4000000 in
theorem implFigLen_any (s : ByteArray) (hs : s.size ≤ maxLen) (g cap : Nat) (ls : List (List Int)) (bs : Nat → Nat) (g' cap' : Nat) (zs : List StarV) (w : World) (hw : SinesOK w) (hb : ls.length ≤ 1048577) (hls : ∀ j, (h : j < ls.length) → ls[j].length ≤ 1048577) (hr : LRow w g ls bs)
    (hb' : zs.length ≤ 1048577) (h1 : Row w g' zs) (hok : ∀ j, (h : j < zs.length) → zs[j].ok) :
    Calls Tryz.prog 19 #[.agg #[.string s, .slice (some ⟨g, 0, none⟩) ls.length cap], .slice (some ⟨g', 0, none⟩) zs.length cap'] w fun e w' => e = .returned (.tuple #[.int .i64 (figLenV zs s ls).1, .int .i64 (figLenV zs s ls).2]) ∧ Below w.heap.size w w' := by
  have V := Lib.hid (fun (W : World) (hB : Below w.heap.size w W) => validFigure_any s hs g cap ls bs g' cap' zs W hb hls (hr.below hB) hb' (h1.below hB) hok)
  have HL := Lib.hid hr
  have H1 := Lib.hid h1
  have OK := Lib.hid hok
  have E := Lib.hid hw
  unfold figLenV
  clear hr hls h1 hok hw
  cases hv : figV zs s ls with
  | false =>
    rw [if_neg (by simp)]
    rw [hv] at V
    clear hv
    go_enter Tryz.func19, Tryz.ntmps19
    go_wp2_with fail
    refine (V.out _ (by repeat (first | exact Below.refl _ _ | refine Below.setCell ?_ (by first | (simp; done) | omega | (simp; omega)) _ | refine Below.alloc ?_ (by first | (simp; done) | omega | (simp; omega)) _ | refine bel_drew ?_))).mono ?_
    rintro e w1 ⟨rfl, hb1⟩
    have HB1 : Hid (Below w.heap.size w w1) := Lib.hid (by
      refine Below.trans ?_ (hb1.mono ?_)
      · repeat (first | exact Below.refl _ _ | refine Below.setCell ?_ (by first | (simp; done) | omega | (simp; omega)) _ | refine Below.alloc ?_ (by first | (simp; done) | omega | (simp; omega)) _ | refine bel_drew ?_)
      · simp)
    clear hb1
    go_wp2_with fail
    go_ret2
    exact ⟨rfl, HB1.out⟩
  | true =>
    rw [if_pos rfl]
    rw [hv] at V
    obtain ⟨ho, hl16, hln⟩ := figV_ok hv
    have hz24 := okL_len ho
    have LN := Lib.hid hln
    clear hv hln
    go_enter Tryz.func19, Tryz.ntmps19
    go_wp2_with fail
    refine (V.out _ (by repeat (first | exact Below.refl _ _ | refine Below.setCell ?_ (by first | (simp; done) | omega | (simp; omega)) _ | refine Below.alloc ?_ (by first | (simp; done) | omega | (simp; omega)) _ | refine bel_drew ?_))).mono ?_
    rintro e w1 ⟨rfl, hb1⟩
    have HB1 : Hid (Below w.heap.size w w1) := Lib.hid (by
      refine Below.trans ?_ (hb1.mono ?_)
      · repeat (first | exact Below.refl _ _ | refine Below.setCell ?_ (by first | (simp; done) | omega | (simp; omega)) _ | refine Below.alloc ?_ (by first | (simp; done) | omega | (simp; omega)) _ | refine bel_drew ?_)
      · simp)
    have q1 : w1.cell? ⟨w.heap.size, 1, none⟩ = some (.slice (some ⟨g, 0, none⟩) ls.length cap) := (hb1.cell (p := ⟨w.heap.size, 1, none⟩) (by simp)).trans (by simp)
    clear hb1 V
    go_wp2_with fail
    clear q1
    go_loopg [6, 16] (ls.length + 1) (fun kx s6 s16 wr => ∃ j : Nat, s6 = .int .i64 (lenF zs ls j) ∧ s16 = .int .i64 (j : Int) ∧ j ≤ ls.length ∧ kx = ls.length + 1 - j ∧ Hid (Below w.heap.size w wr))
    case atStart => exact ⟨0, rfl, rfl, Nat.zero_le _, rfl, HB1⟩
    case round =>
      obtain ⟨j, rfl, rfl, hj, rfl, HB⟩ := hrel
      by_cases hlt : j < ls.length
      · obtain ⟨a, c, hac, la, lc, _⟩ := LN.out j hlt
        obtain ⟨c0, hx⟩ := (HL.out.below HB.out).at j hlt
        have LF : Hid (lenF zs ls (j + 1) = lenF zs ls j + farI zs a c) := Lib.hid (by
          show lenF zs ls j + farI zs ((ls.getD j []).getD 0 0) ((ls.getD j []).getD 1 0) = _
          rw [getL_at ls j hlt, hac]
          rfl)
        have P := Lib.hid (pathLength_any g' cap' (bs j) ls[j].length zs ls[j] wr (E.out.below HB.out) hb' (by rw [hac]; simp) (H1.out.below HB.out) OK.out hx (by
          intro x hx
          rw [hac] at hx
          simp only [List.mem_cons, List.not_mem_nil, or_false] at hx
          rcases hx with rfl | rfl <;> omega))
        have PV : pathN zs ls[j] (ls[j].length - 1) = farI zs a c := by
          rw [hac]
          show 0 + farI zs (a : Int) (c : Int) = _
          omega
        rw [PV] at P
        have lb := lenF_bd zs ls j
        have fb := farI_bd zs a c
        clear hx PV hac
        generalize lenF zs ls j = m at *
        generalize farI zs a c = n at *
        generalize ls[j].length = k at *
        have j0 : (0 : Int) ≤ (j : Int) := by omega
        have j1 : (j : Int) < (ls.length : Int) := by omega
        go_wp2_with fail
        refine P.out.mono ?_
        rintro e w2 ⟨rfl, hb2⟩
        have HB2 := Lib.hid (HB.out.trans (hb2.mono HB.out.size))
        clear hb2
        go_wp2_with fail
        go_roundg (ls.length + 1 - (j + 1))
        case measure => omega
        case rel => exact ⟨j + 1, by rw [LF.out], by go_num, by omega, by omega, HB2⟩
      · obtain rfl : j = ls.length := by omega
        go_wp2_with fail
        go_ret2
        exact ⟨rfl, HB.out⟩

set_option maxRecDepth 100000 in
set_option maxHeartbeats 4000000 in
theorem specFigLen_any (s : ByteArray) (g cap : Nat) (ls : List (List Int)) (bs : Nat → Nat) (g' cap' : Nat) (zs : List StarV) (w : World) (hb : ls.length ≤ 1048577) (hls : ∀ j, (h : j < ls.length) → ls[j].length ≤ 1048577) (hfit : ∀ j, (h : j < ls.length) → ∀ x ∈ ls[j], fits x) (hr : LRow w g ls bs)
    (hb' : zs.length ≤ 1048577) (h1 : Row w g' zs) :
    Calls Tryz.prog 17 #[.agg #[.string s, .slice (some ⟨g, 0, none⟩) ls.length cap], .slice (some ⟨g', 0, none⟩) zs.length cap'] w fun e w' => e = .returned (.tuple #[.int .i64 (figLenV zs s ls).1, .int .i64 (figLenV zs s ls).2]) ∧ Below w.heap.size w w' := by
  have V := Lib.hid (fun (W : World) (hB : Below w.heap.size w W) p hp0 hp1 => l08Ok_any s p g cap ls bs g' cap' zs W hp0 hp1 hb hls hfit (hr.below hB) hb' (h1.below hB))
  have HL := Lib.hid hr
  have H1 := Lib.hid h1
  unfold figLenV
  clear hr hls h1 hfit
  cases hv : figV zs s ls with
  | false =>
    rw [if_neg (by simp)]
    rw [hv] at V
    clear hv
    go_enter Tryz.func17, Tryz.ntmps17
    go_wp2_with fail
    refine (V.out _ (by repeat (first | exact Below.refl _ _ | refine Below.setCell ?_ (by first | (simp; done) | omega | (simp; omega)) _ | refine Below.alloc ?_ (by first | (simp; done) | omega | (simp; omega)) _ | refine bel_drew ?_)) w.heap.size (by simp) (by simp)).mono ?_
    rintro e w1 ⟨rfl, hb1⟩
    have HB1 : Hid (Below w.heap.size w w1) := Lib.hid (by
      refine Below.trans ?_ (hb1.mono ?_)
      · repeat (first | exact Below.refl _ _ | refine Below.setCell ?_ (by first | (simp; done) | omega | (simp; omega)) _ | refine Below.alloc ?_ (by first | (simp; done) | omega | (simp; omega)) _ | refine bel_drew ?_)
      · simp)
    clear hb1
    go_wp2_with fail
    go_ret2
    exact ⟨rfl, HB1.out⟩
  | true =>
    rw [if_pos rfl]
    rw [hv] at V
    obtain ⟨ho, hl16, hln⟩ := figV_ok hv
    have hz24 := okL_len ho
    have LN := Lib.hid hln
    have DR := Lib.hid (okL_dir ho)
    clear hv hln ho
    go_enter Tryz.func17, Tryz.ntmps17
    go_wp2_with fail
    refine (V.out _ (by repeat (first | exact Below.refl _ _ | refine Below.setCell ?_ (by first | (simp; done) | omega | (simp; omega)) _ | refine Below.alloc ?_ (by first | (simp; done) | omega | (simp; omega)) _ | refine bel_drew ?_)) w.heap.size (by simp) (by simp)).mono ?_
    rintro e w1 ⟨rfl, hb1⟩
    have HB1 : Hid (Below w.heap.size w w1 ∧ w1.cell? ⟨w.heap.size, 1, none⟩ = some (.slice (some ⟨g, 0, none⟩) ls.length cap)) := Lib.hid ⟨by
      refine Below.trans ?_ (hb1.mono ?_)
      · repeat (first | exact Below.refl _ _ | refine Below.setCell ?_ (by first | (simp; done) | omega | (simp; omega)) _ | refine Below.alloc ?_ (by first | (simp; done) | omega | (simp; omega)) _ | refine bel_drew ?_)
      · simp, (hb1.cell (p := ⟨w.heap.size, 1, none⟩) (by simp)).trans (by simp)⟩
    clear hb1 V
    go_wp2_with fail
    go_loopg [6, 7] (ls.length + 1) (fun kx s6 s7 wr => ∃ j : Nat, s6 = .int .i64 (lenF zs ls j) ∧ s7 = .int .i64 (j : Int) ∧ j ≤ ls.length ∧ kx = ls.length + 1 - j ∧ Hid (Below w.heap.size w wr ∧ wr.cell? ⟨w.heap.size, 1, none⟩ = some (.slice (some ⟨g, 0, none⟩) ls.length cap)))
    case atStart => exact ⟨0, rfl, rfl, Nat.zero_le _, rfl, HB1⟩
    case round =>
      obtain ⟨j, rfl, rfl, hj, rfl, HBC⟩ := hrel
      have HB := Lib.hid HBC.out.1
      have qc := HBC.out.2
      by_cases hlt : j < ls.length
      · obtain ⟨a, c, hac, la, lc, _⟩ := LN.out j hlt
        obtain ⟨c0, hx⟩ := (HL.out.below HB.out).at j hlt
        have LF : Hid (lenF zs ls (j + 1) = lenF zs ls j + farI zs a c) := Lib.hid (by
          show lenF zs ls j + farI zs ((ls.getD j []).getD 0 0) ((ls.getD j []).getD 1 0) = _
          rw [getL_at ls j hlt, hac]
          rfl)
        rw [hac] at c0 hx
        have x0 := hx.at 0 (by simp)
        have x1 := hx.at 1 (by simp)
        simp only [List.length_cons, List.length_nil, List.getElem_cons_zero, List.getElem_cons_succ, Nat.zero_add, Nat.reduceAdd] at c0 x0 x1
        have hR := H1.out.below HB.out
        have sa := hR.at a la
        have sc := hR.at c lc
        have hfI : farI zs a c = farN zs[a] zs[c] := by
          unfold farI
          rw [Int.toNat_natCast, Int.toNat_natCast, getD_at zs a la, getD_at zs c lc]
        have FA := Lib.hid (far_any g' (a * 5) g' (c * 5) zs[a] zs[c] (DR.out a la) (DR.out c lc) wr.drew sa.c1 sa.c2 sc.c1 sc.c2)
        rw [← hfI] at FA
        have lb := lenF_bd zs ls j
        have fb := farI_bd zs a c
        have K : Hid (wr.cell? ⟨w.heap.size, 1, none⟩ = some (.slice (some ⟨g, 0, none⟩) ls.length cap) ∧ wr.cell? ⟨g, j, none⟩ = some (.slice (some ⟨bs j, 0, none⟩) 2 2) ∧ wr.cell? ⟨bs j, 0, none⟩ = some (.int .i64 (a : Int)) ∧ wr.cell? ⟨bs j, 1, none⟩ = some (.int .i64 (c : Int)) ∧ Below w.heap.size w wr) := Lib.hid ⟨qc, c0, x0, x1, HB.out⟩
        clear hx hac hR sa sc hfI
        generalize lenF zs ls j = m at *
        generalize farI zs a c = n at *
        have j0 : (0 : Int) ≤ (j : Int) := by omega
        have j1 : (j : Int) < (ls.length : Int) := by omega
        have wmn : IntKind.i64.wrap (m + n) = m + n := IntWalk.i64_in _ (by omega)
        have a1 : (a : Int) < (zs.length : Int) := by omega
        have c1 : (c : Int) < (zs.length : Int) := by omega
        clear c0 x0 x1
        go_wp2_with fail
        go_region_held3 (fun W => W.cell? ⟨w.heap.size, 1, none⟩ = some (.slice (some ⟨g, 0, none⟩) ls.length cap) ∧ W.cell? ⟨g, j, none⟩ = some (.slice (some ⟨bs j, 0, none⟩) 2 2) ∧ W.cell? ⟨bs j, 0, none⟩ = some (.int .i64 (a : Int)) ∧ W.cell? ⟨bs j, 1, none⟩ = some (.int .i64 (c : Int)) ∧ Below w.heap.size w W) (first | (exact keepW4 K.out (drewG wr)) | (exact keepW4 K.out z1) | go_keep) ((go_at_call 54; (with_reducible refine (FA.out).mono ?_); rintro e u1 ⟨rfl, hu1⟩; have z1 := undrewG hu1))
        all_goals
          rename_i held
          have HH := Lib.hid (And.intro held.2.2.2.2 held.1)
          clear held K
          go_wp2_with fail
          go_roundg (ls.length + 1 - (j + 1))
          case measure => omega
          case rel => exact ⟨j + 1, by rw [LF.out], by go_num, by omega, by omega, HH⟩
      · obtain rfl : j = ls.length := by omega
        go_wp2_with fail
        go_ret2
        exact ⟨rfl, HB.out⟩
theorem fin_FigLen : True := trivial
end
end Go.Proofs.YtoellkbmhpekdaaGreatDoor
