/-
  Cells that stay: n cells and what lies below them.
  Figures as arguments: what a list of lists of numbers and a figure read as; a row of rows of one's own.
  Figures: the contracts of szFigure, toFigure, eqFigure and of their parts (package laws).
  Lines of figures: the contracts of isIndex, isValidFor with its closure, slices.Compare, isIncreasing (package impl).
  Valid figures: the contracts of ValidFigure (packages impl and spec), l08Ok, l08Lines (package spec).
  FigureLength and pathLength (packages impl and spec).
  The stars of a figure: lists without repetitions in increasing order; the contracts of l00Put, l08Stars (package spec).
  The stars of a figure (package impl): the contracts of slices.Concat at its lines and of ends.
  FigureSpan (packages impl and spec).
  Orders: the mathematics of a list that has each index once.
  Orders of stars (package spec): l08Order, l08Tour.
  The length of a tour (package spec): l08Tour.
  slices.Sorted(slices.Values(list)) at numbers (package impl): the sorted copy; isOrder.
  TourLength (package impl).
-/
import Derived.Test.YtjghopepgfgebaaGreatDoorVec0
import Derived.Test.YtjghopepgfgebaaGreatDoorStar0
import Derived.Deep.OwnRows
import Derived.OpenShut
import Derived.ChangeSlices
import Derived.Deep.LoopGhost
import Derived.WideMake
import Derived.Deep.RegionHeld3
import Derived.Deep.QuietTactic
import Derived.BigQuiet
import Derived.Deep.Draws
import Derived.Test.YtjghopepgfgebaaGreatDoorStar1
import Derived.Test.YtjghopepgfgebaaGreatDoorStarI
import Derived.Test.YtjghopepgfgebaaGreatDoorLin1
import Derived.Lib.SlicesCompact
import Derived.Test.YtjghopepgfgebaaGreatDoorShelfSort
import Derived.Sort.OwnSortedInts
import Derived.Test.YtjghopepgfgebaaGreatDoorCore3
import Derived.RangeFuncBox
import Derived.RangeFuncLeaves
import Derived.Shelf.Abstract
import Derived.WalkKit
import Derived.OwnWalkIn
import Derived.TacticsInMore
import Derived.LoopNIn
import Derived.LoopIn
import Derived.Maps.AppendAt
namespace Go.Proofs.YtjghopepgfgebaaGreatDoor
section
open Go.RowKit
set_option linter.unusedVariables false

theorem undrewG {W u : World} (h : Below W.drew.heap.size W.drew u) : Below W.heap.size W u := ⟨h.os, h.tape, h.output, h.size, h.block⟩
theorem drewG (W : World) : Below W.heap.size W W.drew := ⟨rfl, rfl, rfl, Nat.le_refl _, fun _ _ => rfl⟩
theorem keepG1 {w W W' : World} {B b0 o0 : Nat} {v0 : Value} (h : W.cell? ⟨b0, o0, none⟩ = some v0 ∧ Below B w W) (hB : B ≤ W.heap.size) (hb : Below W.heap.size W W') :
    W'.cell? ⟨b0, o0, none⟩ = some v0 ∧ Below B w W' := by
  obtain ⟨h0, hw⟩ := h
  obtain ⟨c, _⟩ := bcell hb
  exact ⟨(c _ _ (World.block_lt_of_cell? W ⟨b0, o0, none⟩ h0)).trans h0, hw.trans (hb.mono hB)⟩
theorem keepW1 {w W W' : World} {b0 o0 : Nat} {v0 : Value} (h : W.cell? ⟨b0, o0, none⟩ = some v0 ∧ Below w.heap.size w W) (hb : Below W.heap.size W W') :
    W'.cell? ⟨b0, o0, none⟩ = some v0 ∧ Below w.heap.size w W' := keepG1 h (h.2).size hb
theorem keepG2 {w W W' : World} {B b0 o0 b1 o1 : Nat} {v0 v1 : Value} (h : W.cell? ⟨b0, o0, none⟩ = some v0 ∧ W.cell? ⟨b1, o1, none⟩ = some v1 ∧ Below B w W) (hB : B ≤ W.heap.size) (hb : Below W.heap.size W W') :
    W'.cell? ⟨b0, o0, none⟩ = some v0 ∧ W'.cell? ⟨b1, o1, none⟩ = some v1 ∧ Below B w W' := by
  obtain ⟨h0, h1, hw⟩ := h
  obtain ⟨c, _⟩ := bcell hb
  exact ⟨(c _ _ (World.block_lt_of_cell? W ⟨b0, o0, none⟩ h0)).trans h0, (c _ _ (World.block_lt_of_cell? W ⟨b1, o1, none⟩ h1)).trans h1, hw.trans (hb.mono hB)⟩
theorem keepW2 {w W W' : World} {b0 o0 b1 o1 : Nat} {v0 v1 : Value} (h : W.cell? ⟨b0, o0, none⟩ = some v0 ∧ W.cell? ⟨b1, o1, none⟩ = some v1 ∧ Below w.heap.size w W) (hb : Below W.heap.size W W') :
    W'.cell? ⟨b0, o0, none⟩ = some v0 ∧ W'.cell? ⟨b1, o1, none⟩ = some v1 ∧ Below w.heap.size w W' := keepG2 h (h.2.2).size hb
theorem keepG3 {w W W' : World} {B b0 o0 b1 o1 b2 o2 : Nat} {v0 v1 v2 : Value} (h : W.cell? ⟨b0, o0, none⟩ = some v0 ∧ W.cell? ⟨b1, o1, none⟩ = some v1 ∧ W.cell? ⟨b2, o2, none⟩ = some v2 ∧ Below B w W) (hB : B ≤ W.heap.size) (hb : Below W.heap.size W W') :
    W'.cell? ⟨b0, o0, none⟩ = some v0 ∧ W'.cell? ⟨b1, o1, none⟩ = some v1 ∧ W'.cell? ⟨b2, o2, none⟩ = some v2 ∧ Below B w W' := by
  obtain ⟨h0, h1, h2, hw⟩ := h
  obtain ⟨c, _⟩ := bcell hb
  exact ⟨(c _ _ (World.block_lt_of_cell? W ⟨b0, o0, none⟩ h0)).trans h0, (c _ _ (World.block_lt_of_cell? W ⟨b1, o1, none⟩ h1)).trans h1, (c _ _ (World.block_lt_of_cell? W ⟨b2, o2, none⟩ h2)).trans h2, hw.trans (hb.mono hB)⟩
theorem keepW3 {w W W' : World} {b0 o0 b1 o1 b2 o2 : Nat} {v0 v1 v2 : Value} (h : W.cell? ⟨b0, o0, none⟩ = some v0 ∧ W.cell? ⟨b1, o1, none⟩ = some v1 ∧ W.cell? ⟨b2, o2, none⟩ = some v2 ∧ Below w.heap.size w W) (hb : Below W.heap.size W W') :
    W'.cell? ⟨b0, o0, none⟩ = some v0 ∧ W'.cell? ⟨b1, o1, none⟩ = some v1 ∧ W'.cell? ⟨b2, o2, none⟩ = some v2 ∧ Below w.heap.size w W' := keepG3 h (h.2.2.2).size hb
theorem keepG4 {w W W' : World} {B b0 o0 b1 o1 b2 o2 b3 o3 : Nat} {v0 v1 v2 v3 : Value} (h : W.cell? ⟨b0, o0, none⟩ = some v0 ∧ W.cell? ⟨b1, o1, none⟩ = some v1 ∧ W.cell? ⟨b2, o2, none⟩ = some v2 ∧ W.cell? ⟨b3, o3, none⟩ = some v3 ∧ Below B w W) (hB : B ≤ W.heap.size) (hb : Below W.heap.size W W') :
    W'.cell? ⟨b0, o0, none⟩ = some v0 ∧ W'.cell? ⟨b1, o1, none⟩ = some v1 ∧ W'.cell? ⟨b2, o2, none⟩ = some v2 ∧ W'.cell? ⟨b3, o3, none⟩ = some v3 ∧ Below B w W' := by
  obtain ⟨h0, h1, h2, h3, hw⟩ := h
  obtain ⟨c, _⟩ := bcell hb
  exact ⟨(c _ _ (World.block_lt_of_cell? W ⟨b0, o0, none⟩ h0)).trans h0, (c _ _ (World.block_lt_of_cell? W ⟨b1, o1, none⟩ h1)).trans h1, (c _ _ (World.block_lt_of_cell? W ⟨b2, o2, none⟩ h2)).trans h2, (c _ _ (World.block_lt_of_cell? W ⟨b3, o3, none⟩ h3)).trans h3, hw.trans (hb.mono hB)⟩
theorem keepW4 {w W W' : World} {b0 o0 b1 o1 b2 o2 b3 o3 : Nat} {v0 v1 v2 v3 : Value} (h : W.cell? ⟨b0, o0, none⟩ = some v0 ∧ W.cell? ⟨b1, o1, none⟩ = some v1 ∧ W.cell? ⟨b2, o2, none⟩ = some v2 ∧ W.cell? ⟨b3, o3, none⟩ = some v3 ∧ Below w.heap.size w W) (hb : Below W.heap.size W W') :
    W'.cell? ⟨b0, o0, none⟩ = some v0 ∧ W'.cell? ⟨b1, o1, none⟩ = some v1 ∧ W'.cell? ⟨b2, o2, none⟩ = some v2 ∧ W'.cell? ⟨b3, o3, none⟩ = some v3 ∧ Below w.heap.size w W' := keepG4 h (h.2.2.2.2).size hb
theorem keepG5 {w W W' : World} {B b0 o0 b1 o1 b2 o2 b3 o3 b4 o4 : Nat} {v0 v1 v2 v3 v4 : Value} (h : W.cell? ⟨b0, o0, none⟩ = some v0 ∧ W.cell? ⟨b1, o1, none⟩ = some v1 ∧ W.cell? ⟨b2, o2, none⟩ = some v2 ∧ W.cell? ⟨b3, o3, none⟩ = some v3 ∧ W.cell? ⟨b4, o4, none⟩ = some v4 ∧ Below B w W) (hB : B ≤ W.heap.size) (hb : Below W.heap.size W W') :
    W'.cell? ⟨b0, o0, none⟩ = some v0 ∧ W'.cell? ⟨b1, o1, none⟩ = some v1 ∧ W'.cell? ⟨b2, o2, none⟩ = some v2 ∧ W'.cell? ⟨b3, o3, none⟩ = some v3 ∧ W'.cell? ⟨b4, o4, none⟩ = some v4 ∧ Below B w W' := by
  obtain ⟨h0, h1, h2, h3, h4, hw⟩ := h
  obtain ⟨c, _⟩ := bcell hb
  exact ⟨(c _ _ (World.block_lt_of_cell? W ⟨b0, o0, none⟩ h0)).trans h0, (c _ _ (World.block_lt_of_cell? W ⟨b1, o1, none⟩ h1)).trans h1, (c _ _ (World.block_lt_of_cell? W ⟨b2, o2, none⟩ h2)).trans h2, (c _ _ (World.block_lt_of_cell? W ⟨b3, o3, none⟩ h3)).trans h3, (c _ _ (World.block_lt_of_cell? W ⟨b4, o4, none⟩ h4)).trans h4, hw.trans (hb.mono hB)⟩
theorem keepW5 {w W W' : World} {b0 o0 b1 o1 b2 o2 b3 o3 b4 o4 : Nat} {v0 v1 v2 v3 v4 : Value} (h : W.cell? ⟨b0, o0, none⟩ = some v0 ∧ W.cell? ⟨b1, o1, none⟩ = some v1 ∧ W.cell? ⟨b2, o2, none⟩ = some v2 ∧ W.cell? ⟨b3, o3, none⟩ = some v3 ∧ W.cell? ⟨b4, o4, none⟩ = some v4 ∧ Below w.heap.size w W) (hb : Below W.heap.size W W') :
    W'.cell? ⟨b0, o0, none⟩ = some v0 ∧ W'.cell? ⟨b1, o1, none⟩ = some v1 ∧ W'.cell? ⟨b2, o2, none⟩ = some v2 ∧ W'.cell? ⟨b3, o3, none⟩ = some v3 ∧ W'.cell? ⟨b4, o4, none⟩ = some v4 ∧ Below w.heap.size w W' := keepG5 h (h.2.2.2.2.2).size hb
theorem keepG6 {w W W' : World} {B b0 o0 b1 o1 b2 o2 b3 o3 b4 o4 b5 o5 : Nat} {v0 v1 v2 v3 v4 v5 : Value} (h : W.cell? ⟨b0, o0, none⟩ = some v0 ∧ W.cell? ⟨b1, o1, none⟩ = some v1 ∧ W.cell? ⟨b2, o2, none⟩ = some v2 ∧ W.cell? ⟨b3, o3, none⟩ = some v3 ∧ W.cell? ⟨b4, o4, none⟩ = some v4 ∧ W.cell? ⟨b5, o5, none⟩ = some v5 ∧ Below B w W) (hB : B ≤ W.heap.size) (hb : Below W.heap.size W W') :
    W'.cell? ⟨b0, o0, none⟩ = some v0 ∧ W'.cell? ⟨b1, o1, none⟩ = some v1 ∧ W'.cell? ⟨b2, o2, none⟩ = some v2 ∧ W'.cell? ⟨b3, o3, none⟩ = some v3 ∧ W'.cell? ⟨b4, o4, none⟩ = some v4 ∧ W'.cell? ⟨b5, o5, none⟩ = some v5 ∧ Below B w W' := by
  obtain ⟨h0, h1, h2, h3, h4, h5, hw⟩ := h
  obtain ⟨c, _⟩ := bcell hb
  exact ⟨(c _ _ (World.block_lt_of_cell? W ⟨b0, o0, none⟩ h0)).trans h0, (c _ _ (World.block_lt_of_cell? W ⟨b1, o1, none⟩ h1)).trans h1, (c _ _ (World.block_lt_of_cell? W ⟨b2, o2, none⟩ h2)).trans h2, (c _ _ (World.block_lt_of_cell? W ⟨b3, o3, none⟩ h3)).trans h3, (c _ _ (World.block_lt_of_cell? W ⟨b4, o4, none⟩ h4)).trans h4, (c _ _ (World.block_lt_of_cell? W ⟨b5, o5, none⟩ h5)).trans h5, hw.trans (hb.mono hB)⟩
theorem keepW6 {w W W' : World} {b0 o0 b1 o1 b2 o2 b3 o3 b4 o4 b5 o5 : Nat} {v0 v1 v2 v3 v4 v5 : Value} (h : W.cell? ⟨b0, o0, none⟩ = some v0 ∧ W.cell? ⟨b1, o1, none⟩ = some v1 ∧ W.cell? ⟨b2, o2, none⟩ = some v2 ∧ W.cell? ⟨b3, o3, none⟩ = some v3 ∧ W.cell? ⟨b4, o4, none⟩ = some v4 ∧ W.cell? ⟨b5, o5, none⟩ = some v5 ∧ Below w.heap.size w W) (hb : Below W.heap.size W W') :
    W'.cell? ⟨b0, o0, none⟩ = some v0 ∧ W'.cell? ⟨b1, o1, none⟩ = some v1 ∧ W'.cell? ⟨b2, o2, none⟩ = some v2 ∧ W'.cell? ⟨b3, o3, none⟩ = some v3 ∧ W'.cell? ⟨b4, o4, none⟩ = some v4 ∧ W'.cell? ⟨b5, o5, none⟩ = some v5 ∧ Below w.heap.size w W' := keepG6 h (h.2.2.2.2.2.2).size hb
theorem keepG7 {w W W' : World} {B b0 o0 b1 o1 b2 o2 b3 o3 b4 o4 b5 o5 b6 o6 : Nat} {v0 v1 v2 v3 v4 v5 v6 : Value} (h : W.cell? ⟨b0, o0, none⟩ = some v0 ∧ W.cell? ⟨b1, o1, none⟩ = some v1 ∧ W.cell? ⟨b2, o2, none⟩ = some v2 ∧ W.cell? ⟨b3, o3, none⟩ = some v3 ∧ W.cell? ⟨b4, o4, none⟩ = some v4 ∧ W.cell? ⟨b5, o5, none⟩ = some v5 ∧ W.cell? ⟨b6, o6, none⟩ = some v6 ∧ Below B w W) (hB : B ≤ W.heap.size) (hb : Below W.heap.size W W') :
    W'.cell? ⟨b0, o0, none⟩ = some v0 ∧ W'.cell? ⟨b1, o1, none⟩ = some v1 ∧ W'.cell? ⟨b2, o2, none⟩ = some v2 ∧ W'.cell? ⟨b3, o3, none⟩ = some v3 ∧ W'.cell? ⟨b4, o4, none⟩ = some v4 ∧ W'.cell? ⟨b5, o5, none⟩ = some v5 ∧ W'.cell? ⟨b6, o6, none⟩ = some v6 ∧ Below B w W' := by
  obtain ⟨h0, h1, h2, h3, h4, h5, h6, hw⟩ := h
  obtain ⟨c, _⟩ := bcell hb
  exact ⟨(c _ _ (World.block_lt_of_cell? W ⟨b0, o0, none⟩ h0)).trans h0, (c _ _ (World.block_lt_of_cell? W ⟨b1, o1, none⟩ h1)).trans h1, (c _ _ (World.block_lt_of_cell? W ⟨b2, o2, none⟩ h2)).trans h2, (c _ _ (World.block_lt_of_cell? W ⟨b3, o3, none⟩ h3)).trans h3, (c _ _ (World.block_lt_of_cell? W ⟨b4, o4, none⟩ h4)).trans h4, (c _ _ (World.block_lt_of_cell? W ⟨b5, o5, none⟩ h5)).trans h5, (c _ _ (World.block_lt_of_cell? W ⟨b6, o6, none⟩ h6)).trans h6, hw.trans (hb.mono hB)⟩
theorem keepW7 {w W W' : World} {b0 o0 b1 o1 b2 o2 b3 o3 b4 o4 b5 o5 b6 o6 : Nat} {v0 v1 v2 v3 v4 v5 v6 : Value} (h : W.cell? ⟨b0, o0, none⟩ = some v0 ∧ W.cell? ⟨b1, o1, none⟩ = some v1 ∧ W.cell? ⟨b2, o2, none⟩ = some v2 ∧ W.cell? ⟨b3, o3, none⟩ = some v3 ∧ W.cell? ⟨b4, o4, none⟩ = some v4 ∧ W.cell? ⟨b5, o5, none⟩ = some v5 ∧ W.cell? ⟨b6, o6, none⟩ = some v6 ∧ Below w.heap.size w W) (hb : Below W.heap.size W W') :
    W'.cell? ⟨b0, o0, none⟩ = some v0 ∧ W'.cell? ⟨b1, o1, none⟩ = some v1 ∧ W'.cell? ⟨b2, o2, none⟩ = some v2 ∧ W'.cell? ⟨b3, o3, none⟩ = some v3 ∧ W'.cell? ⟨b4, o4, none⟩ = some v4 ∧ W'.cell? ⟨b5, o5, none⟩ = some v5 ∧ W'.cell? ⟨b6, o6, none⟩ = some v6 ∧ Below w.heap.size w W' := keepG7 h (h.2.2.2.2.2.2.2).size hb
theorem keepG8 {w W W' : World} {B b0 o0 b1 o1 b2 o2 b3 o3 b4 o4 b5 o5 b6 o6 b7 o7 : Nat} {v0 v1 v2 v3 v4 v5 v6 v7 : Value} (h : W.cell? ⟨b0, o0, none⟩ = some v0 ∧ W.cell? ⟨b1, o1, none⟩ = some v1 ∧ W.cell? ⟨b2, o2, none⟩ = some v2 ∧ W.cell? ⟨b3, o3, none⟩ = some v3 ∧ W.cell? ⟨b4, o4, none⟩ = some v4 ∧ W.cell? ⟨b5, o5, none⟩ = some v5 ∧ W.cell? ⟨b6, o6, none⟩ = some v6 ∧ W.cell? ⟨b7, o7, none⟩ = some v7 ∧ Below B w W) (hB : B ≤ W.heap.size) (hb : Below W.heap.size W W') :
    W'.cell? ⟨b0, o0, none⟩ = some v0 ∧ W'.cell? ⟨b1, o1, none⟩ = some v1 ∧ W'.cell? ⟨b2, o2, none⟩ = some v2 ∧ W'.cell? ⟨b3, o3, none⟩ = some v3 ∧ W'.cell? ⟨b4, o4, none⟩ = some v4 ∧ W'.cell? ⟨b5, o5, none⟩ = some v5 ∧ W'.cell? ⟨b6, o6, none⟩ = some v6 ∧ W'.cell? ⟨b7, o7, none⟩ = some v7 ∧ Below B w W' := by
  obtain ⟨h0, h1, h2, h3, h4, h5, h6, h7, hw⟩ := h
  obtain ⟨c, _⟩ := bcell hb
  exact ⟨(c _ _ (World.block_lt_of_cell? W ⟨b0, o0, none⟩ h0)).trans h0, (c _ _ (World.block_lt_of_cell? W ⟨b1, o1, none⟩ h1)).trans h1, (c _ _ (World.block_lt_of_cell? W ⟨b2, o2, none⟩ h2)).trans h2, (c _ _ (World.block_lt_of_cell? W ⟨b3, o3, none⟩ h3)).trans h3, (c _ _ (World.block_lt_of_cell? W ⟨b4, o4, none⟩ h4)).trans h4, (c _ _ (World.block_lt_of_cell? W ⟨b5, o5, none⟩ h5)).trans h5, (c _ _ (World.block_lt_of_cell? W ⟨b6, o6, none⟩ h6)).trans h6, (c _ _ (World.block_lt_of_cell? W ⟨b7, o7, none⟩ h7)).trans h7, hw.trans (hb.mono hB)⟩
theorem keepW8 {w W W' : World} {b0 o0 b1 o1 b2 o2 b3 o3 b4 o4 b5 o5 b6 o6 b7 o7 : Nat} {v0 v1 v2 v3 v4 v5 v6 v7 : Value} (h : W.cell? ⟨b0, o0, none⟩ = some v0 ∧ W.cell? ⟨b1, o1, none⟩ = some v1 ∧ W.cell? ⟨b2, o2, none⟩ = some v2 ∧ W.cell? ⟨b3, o3, none⟩ = some v3 ∧ W.cell? ⟨b4, o4, none⟩ = some v4 ∧ W.cell? ⟨b5, o5, none⟩ = some v5 ∧ W.cell? ⟨b6, o6, none⟩ = some v6 ∧ W.cell? ⟨b7, o7, none⟩ = some v7 ∧ Below w.heap.size w W) (hb : Below W.heap.size W W') :
    W'.cell? ⟨b0, o0, none⟩ = some v0 ∧ W'.cell? ⟨b1, o1, none⟩ = some v1 ∧ W'.cell? ⟨b2, o2, none⟩ = some v2 ∧ W'.cell? ⟨b3, o3, none⟩ = some v3 ∧ W'.cell? ⟨b4, o4, none⟩ = some v4 ∧ W'.cell? ⟨b5, o5, none⟩ = some v5 ∧ W'.cell? ⟨b6, o6, none⟩ = some v6 ∧ W'.cell? ⟨b7, o7, none⟩ = some v7 ∧ Below w.heap.size w W' := keepG8 h (h.2.2.2.2.2.2.2.2).size hb
theorem keepG9 {w W W' : World} {B b0 o0 b1 o1 b2 o2 b3 o3 b4 o4 b5 o5 b6 o6 b7 o7 b8 o8 : Nat} {v0 v1 v2 v3 v4 v5 v6 v7 v8 : Value} (h : W.cell? ⟨b0, o0, none⟩ = some v0 ∧ W.cell? ⟨b1, o1, none⟩ = some v1 ∧ W.cell? ⟨b2, o2, none⟩ = some v2 ∧ W.cell? ⟨b3, o3, none⟩ = some v3 ∧ W.cell? ⟨b4, o4, none⟩ = some v4 ∧ W.cell? ⟨b5, o5, none⟩ = some v5 ∧ W.cell? ⟨b6, o6, none⟩ = some v6 ∧ W.cell? ⟨b7, o7, none⟩ = some v7 ∧ W.cell? ⟨b8, o8, none⟩ = some v8 ∧ Below B w W) (hB : B ≤ W.heap.size) (hb : Below W.heap.size W W') :
    W'.cell? ⟨b0, o0, none⟩ = some v0 ∧ W'.cell? ⟨b1, o1, none⟩ = some v1 ∧ W'.cell? ⟨b2, o2, none⟩ = some v2 ∧ W'.cell? ⟨b3, o3, none⟩ = some v3 ∧ W'.cell? ⟨b4, o4, none⟩ = some v4 ∧ W'.cell? ⟨b5, o5, none⟩ = some v5 ∧ W'.cell? ⟨b6, o6, none⟩ = some v6 ∧ W'.cell? ⟨b7, o7, none⟩ = some v7 ∧ W'.cell? ⟨b8, o8, none⟩ = some v8 ∧ Below B w W' := by
  obtain ⟨h0, h1, h2, h3, h4, h5, h6, h7, h8, hw⟩ := h
  obtain ⟨c, _⟩ := bcell hb
  exact ⟨(c _ _ (World.block_lt_of_cell? W ⟨b0, o0, none⟩ h0)).trans h0, (c _ _ (World.block_lt_of_cell? W ⟨b1, o1, none⟩ h1)).trans h1, (c _ _ (World.block_lt_of_cell? W ⟨b2, o2, none⟩ h2)).trans h2, (c _ _ (World.block_lt_of_cell? W ⟨b3, o3, none⟩ h3)).trans h3, (c _ _ (World.block_lt_of_cell? W ⟨b4, o4, none⟩ h4)).trans h4, (c _ _ (World.block_lt_of_cell? W ⟨b5, o5, none⟩ h5)).trans h5, (c _ _ (World.block_lt_of_cell? W ⟨b6, o6, none⟩ h6)).trans h6, (c _ _ (World.block_lt_of_cell? W ⟨b7, o7, none⟩ h7)).trans h7, (c _ _ (World.block_lt_of_cell? W ⟨b8, o8, none⟩ h8)).trans h8, hw.trans (hb.mono hB)⟩
theorem keepW9 {w W W' : World} {b0 o0 b1 o1 b2 o2 b3 o3 b4 o4 b5 o5 b6 o6 b7 o7 b8 o8 : Nat} {v0 v1 v2 v3 v4 v5 v6 v7 v8 : Value} (h : W.cell? ⟨b0, o0, none⟩ = some v0 ∧ W.cell? ⟨b1, o1, none⟩ = some v1 ∧ W.cell? ⟨b2, o2, none⟩ = some v2 ∧ W.cell? ⟨b3, o3, none⟩ = some v3 ∧ W.cell? ⟨b4, o4, none⟩ = some v4 ∧ W.cell? ⟨b5, o5, none⟩ = some v5 ∧ W.cell? ⟨b6, o6, none⟩ = some v6 ∧ W.cell? ⟨b7, o7, none⟩ = some v7 ∧ W.cell? ⟨b8, o8, none⟩ = some v8 ∧ Below w.heap.size w W) (hb : Below W.heap.size W W') :
    W'.cell? ⟨b0, o0, none⟩ = some v0 ∧ W'.cell? ⟨b1, o1, none⟩ = some v1 ∧ W'.cell? ⟨b2, o2, none⟩ = some v2 ∧ W'.cell? ⟨b3, o3, none⟩ = some v3 ∧ W'.cell? ⟨b4, o4, none⟩ = some v4 ∧ W'.cell? ⟨b5, o5, none⟩ = some v5 ∧ W'.cell? ⟨b6, o6, none⟩ = some v6 ∧ W'.cell? ⟨b7, o7, none⟩ = some v7 ∧ W'.cell? ⟨b8, o8, none⟩ = some v8 ∧ Below w.heap.size w W' := keepG9 h (h.2.2.2.2.2.2.2.2.2).size hb
theorem keepG10 {w W W' : World} {B b0 o0 b1 o1 b2 o2 b3 o3 b4 o4 b5 o5 b6 o6 b7 o7 b8 o8 b9 o9 : Nat} {v0 v1 v2 v3 v4 v5 v6 v7 v8 v9 : Value} (h : W.cell? ⟨b0, o0, none⟩ = some v0 ∧ W.cell? ⟨b1, o1, none⟩ = some v1 ∧ W.cell? ⟨b2, o2, none⟩ = some v2 ∧ W.cell? ⟨b3, o3, none⟩ = some v3 ∧ W.cell? ⟨b4, o4, none⟩ = some v4 ∧ W.cell? ⟨b5, o5, none⟩ = some v5 ∧ W.cell? ⟨b6, o6, none⟩ = some v6 ∧ W.cell? ⟨b7, o7, none⟩ = some v7 ∧ W.cell? ⟨b8, o8, none⟩ = some v8 ∧ W.cell? ⟨b9, o9, none⟩ = some v9 ∧ Below B w W) (hB : B ≤ W.heap.size) (hb : Below W.heap.size W W') :
    W'.cell? ⟨b0, o0, none⟩ = some v0 ∧ W'.cell? ⟨b1, o1, none⟩ = some v1 ∧ W'.cell? ⟨b2, o2, none⟩ = some v2 ∧ W'.cell? ⟨b3, o3, none⟩ = some v3 ∧ W'.cell? ⟨b4, o4, none⟩ = some v4 ∧ W'.cell? ⟨b5, o5, none⟩ = some v5 ∧ W'.cell? ⟨b6, o6, none⟩ = some v6 ∧ W'.cell? ⟨b7, o7, none⟩ = some v7 ∧ W'.cell? ⟨b8, o8, none⟩ = some v8 ∧ W'.cell? ⟨b9, o9, none⟩ = some v9 ∧ Below B w W' := by
  obtain ⟨h0, h1, h2, h3, h4, h5, h6, h7, h8, h9, hw⟩ := h
  obtain ⟨c, _⟩ := bcell hb
  exact ⟨(c _ _ (World.block_lt_of_cell? W ⟨b0, o0, none⟩ h0)).trans h0, (c _ _ (World.block_lt_of_cell? W ⟨b1, o1, none⟩ h1)).trans h1, (c _ _ (World.block_lt_of_cell? W ⟨b2, o2, none⟩ h2)).trans h2, (c _ _ (World.block_lt_of_cell? W ⟨b3, o3, none⟩ h3)).trans h3, (c _ _ (World.block_lt_of_cell? W ⟨b4, o4, none⟩ h4)).trans h4, (c _ _ (World.block_lt_of_cell? W ⟨b5, o5, none⟩ h5)).trans h5, (c _ _ (World.block_lt_of_cell? W ⟨b6, o6, none⟩ h6)).trans h6, (c _ _ (World.block_lt_of_cell? W ⟨b7, o7, none⟩ h7)).trans h7, (c _ _ (World.block_lt_of_cell? W ⟨b8, o8, none⟩ h8)).trans h8, (c _ _ (World.block_lt_of_cell? W ⟨b9, o9, none⟩ h9)).trans h9, hw.trans (hb.mono hB)⟩
theorem keepW10 {w W W' : World} {b0 o0 b1 o1 b2 o2 b3 o3 b4 o4 b5 o5 b6 o6 b7 o7 b8 o8 b9 o9 : Nat} {v0 v1 v2 v3 v4 v5 v6 v7 v8 v9 : Value} (h : W.cell? ⟨b0, o0, none⟩ = some v0 ∧ W.cell? ⟨b1, o1, none⟩ = some v1 ∧ W.cell? ⟨b2, o2, none⟩ = some v2 ∧ W.cell? ⟨b3, o3, none⟩ = some v3 ∧ W.cell? ⟨b4, o4, none⟩ = some v4 ∧ W.cell? ⟨b5, o5, none⟩ = some v5 ∧ W.cell? ⟨b6, o6, none⟩ = some v6 ∧ W.cell? ⟨b7, o7, none⟩ = some v7 ∧ W.cell? ⟨b8, o8, none⟩ = some v8 ∧ W.cell? ⟨b9, o9, none⟩ = some v9 ∧ Below w.heap.size w W) (hb : Below W.heap.size W W') :
    W'.cell? ⟨b0, o0, none⟩ = some v0 ∧ W'.cell? ⟨b1, o1, none⟩ = some v1 ∧ W'.cell? ⟨b2, o2, none⟩ = some v2 ∧ W'.cell? ⟨b3, o3, none⟩ = some v3 ∧ W'.cell? ⟨b4, o4, none⟩ = some v4 ∧ W'.cell? ⟨b5, o5, none⟩ = some v5 ∧ W'.cell? ⟨b6, o6, none⟩ = some v6 ∧ W'.cell? ⟨b7, o7, none⟩ = some v7 ∧ W'.cell? ⟨b8, o8, none⟩ = some v8 ∧ W'.cell? ⟨b9, o9, none⟩ = some v9 ∧ Below w.heap.size w W' := keepG10 h (h.2.2.2.2.2.2.2.2.2.2).size hb
theorem keepG11 {w W W' : World} {B b0 o0 b1 o1 b2 o2 b3 o3 b4 o4 b5 o5 b6 o6 b7 o7 b8 o8 b9 o9 b10 o10 : Nat} {v0 v1 v2 v3 v4 v5 v6 v7 v8 v9 v10 : Value} (h : W.cell? ⟨b0, o0, none⟩ = some v0 ∧ W.cell? ⟨b1, o1, none⟩ = some v1 ∧ W.cell? ⟨b2, o2, none⟩ = some v2 ∧ W.cell? ⟨b3, o3, none⟩ = some v3 ∧ W.cell? ⟨b4, o4, none⟩ = some v4 ∧ W.cell? ⟨b5, o5, none⟩ = some v5 ∧ W.cell? ⟨b6, o6, none⟩ = some v6 ∧ W.cell? ⟨b7, o7, none⟩ = some v7 ∧ W.cell? ⟨b8, o8, none⟩ = some v8 ∧ W.cell? ⟨b9, o9, none⟩ = some v9 ∧ W.cell? ⟨b10, o10, none⟩ = some v10 ∧ Below B w W) (hB : B ≤ W.heap.size) (hb : Below W.heap.size W W') :
    W'.cell? ⟨b0, o0, none⟩ = some v0 ∧ W'.cell? ⟨b1, o1, none⟩ = some v1 ∧ W'.cell? ⟨b2, o2, none⟩ = some v2 ∧ W'.cell? ⟨b3, o3, none⟩ = some v3 ∧ W'.cell? ⟨b4, o4, none⟩ = some v4 ∧ W'.cell? ⟨b5, o5, none⟩ = some v5 ∧ W'.cell? ⟨b6, o6, none⟩ = some v6 ∧ W'.cell? ⟨b7, o7, none⟩ = some v7 ∧ W'.cell? ⟨b8, o8, none⟩ = some v8 ∧ W'.cell? ⟨b9, o9, none⟩ = some v9 ∧ W'.cell? ⟨b10, o10, none⟩ = some v10 ∧ Below B w W' := by
  obtain ⟨h0, h1, h2, h3, h4, h5, h6, h7, h8, h9, h10, hw⟩ := h
  obtain ⟨c, _⟩ := bcell hb
  exact ⟨(c _ _ (World.block_lt_of_cell? W ⟨b0, o0, none⟩ h0)).trans h0, (c _ _ (World.block_lt_of_cell? W ⟨b1, o1, none⟩ h1)).trans h1, (c _ _ (World.block_lt_of_cell? W ⟨b2, o2, none⟩ h2)).trans h2, (c _ _ (World.block_lt_of_cell? W ⟨b3, o3, none⟩ h3)).trans h3, (c _ _ (World.block_lt_of_cell? W ⟨b4, o4, none⟩ h4)).trans h4, (c _ _ (World.block_lt_of_cell? W ⟨b5, o5, none⟩ h5)).trans h5, (c _ _ (World.block_lt_of_cell? W ⟨b6, o6, none⟩ h6)).trans h6, (c _ _ (World.block_lt_of_cell? W ⟨b7, o7, none⟩ h7)).trans h7, (c _ _ (World.block_lt_of_cell? W ⟨b8, o8, none⟩ h8)).trans h8, (c _ _ (World.block_lt_of_cell? W ⟨b9, o9, none⟩ h9)).trans h9, (c _ _ (World.block_lt_of_cell? W ⟨b10, o10, none⟩ h10)).trans h10, hw.trans (hb.mono hB)⟩
theorem keepW11 {w W W' : World} {b0 o0 b1 o1 b2 o2 b3 o3 b4 o4 b5 o5 b6 o6 b7 o7 b8 o8 b9 o9 b10 o10 : Nat} {v0 v1 v2 v3 v4 v5 v6 v7 v8 v9 v10 : Value} (h : W.cell? ⟨b0, o0, none⟩ = some v0 ∧ W.cell? ⟨b1, o1, none⟩ = some v1 ∧ W.cell? ⟨b2, o2, none⟩ = some v2 ∧ W.cell? ⟨b3, o3, none⟩ = some v3 ∧ W.cell? ⟨b4, o4, none⟩ = some v4 ∧ W.cell? ⟨b5, o5, none⟩ = some v5 ∧ W.cell? ⟨b6, o6, none⟩ = some v6 ∧ W.cell? ⟨b7, o7, none⟩ = some v7 ∧ W.cell? ⟨b8, o8, none⟩ = some v8 ∧ W.cell? ⟨b9, o9, none⟩ = some v9 ∧ W.cell? ⟨b10, o10, none⟩ = some v10 ∧ Below w.heap.size w W) (hb : Below W.heap.size W W') :
    W'.cell? ⟨b0, o0, none⟩ = some v0 ∧ W'.cell? ⟨b1, o1, none⟩ = some v1 ∧ W'.cell? ⟨b2, o2, none⟩ = some v2 ∧ W'.cell? ⟨b3, o3, none⟩ = some v3 ∧ W'.cell? ⟨b4, o4, none⟩ = some v4 ∧ W'.cell? ⟨b5, o5, none⟩ = some v5 ∧ W'.cell? ⟨b6, o6, none⟩ = some v6 ∧ W'.cell? ⟨b7, o7, none⟩ = some v7 ∧ W'.cell? ⟨b8, o8, none⟩ = some v8 ∧ W'.cell? ⟨b9, o9, none⟩ = some v9 ∧ W'.cell? ⟨b10, o10, none⟩ = some v10 ∧ Below w.heap.size w W' := keepG11 h (h.2.2.2.2.2.2.2.2.2.2.2).size hb
theorem keepG12 {w W W' : World} {B b0 o0 b1 o1 b2 o2 b3 o3 b4 o4 b5 o5 b6 o6 b7 o7 b8 o8 b9 o9 b10 o10 b11 o11 : Nat} {v0 v1 v2 v3 v4 v5 v6 v7 v8 v9 v10 v11 : Value} (h : W.cell? ⟨b0, o0, none⟩ = some v0 ∧ W.cell? ⟨b1, o1, none⟩ = some v1 ∧ W.cell? ⟨b2, o2, none⟩ = some v2 ∧ W.cell? ⟨b3, o3, none⟩ = some v3 ∧ W.cell? ⟨b4, o4, none⟩ = some v4 ∧ W.cell? ⟨b5, o5, none⟩ = some v5 ∧ W.cell? ⟨b6, o6, none⟩ = some v6 ∧ W.cell? ⟨b7, o7, none⟩ = some v7 ∧ W.cell? ⟨b8, o8, none⟩ = some v8 ∧ W.cell? ⟨b9, o9, none⟩ = some v9 ∧ W.cell? ⟨b10, o10, none⟩ = some v10 ∧ W.cell? ⟨b11, o11, none⟩ = some v11 ∧ Below B w W) (hB : B ≤ W.heap.size) (hb : Below W.heap.size W W') :
    W'.cell? ⟨b0, o0, none⟩ = some v0 ∧ W'.cell? ⟨b1, o1, none⟩ = some v1 ∧ W'.cell? ⟨b2, o2, none⟩ = some v2 ∧ W'.cell? ⟨b3, o3, none⟩ = some v3 ∧ W'.cell? ⟨b4, o4, none⟩ = some v4 ∧ W'.cell? ⟨b5, o5, none⟩ = some v5 ∧ W'.cell? ⟨b6, o6, none⟩ = some v6 ∧ W'.cell? ⟨b7, o7, none⟩ = some v7 ∧ W'.cell? ⟨b8, o8, none⟩ = some v8 ∧ W'.cell? ⟨b9, o9, none⟩ = some v9 ∧ W'.cell? ⟨b10, o10, none⟩ = some v10 ∧ W'.cell? ⟨b11, o11, none⟩ = some v11 ∧ Below B w W' := by
  obtain ⟨h0, h1, h2, h3, h4, h5, h6, h7, h8, h9, h10, h11, hw⟩ := h
  obtain ⟨c, _⟩ := bcell hb
  exact ⟨(c _ _ (World.block_lt_of_cell? W ⟨b0, o0, none⟩ h0)).trans h0, (c _ _ (World.block_lt_of_cell? W ⟨b1, o1, none⟩ h1)).trans h1, (c _ _ (World.block_lt_of_cell? W ⟨b2, o2, none⟩ h2)).trans h2, (c _ _ (World.block_lt_of_cell? W ⟨b3, o3, none⟩ h3)).trans h3, (c _ _ (World.block_lt_of_cell? W ⟨b4, o4, none⟩ h4)).trans h4, (c _ _ (World.block_lt_of_cell? W ⟨b5, o5, none⟩ h5)).trans h5, (c _ _ (World.block_lt_of_cell? W ⟨b6, o6, none⟩ h6)).trans h6, (c _ _ (World.block_lt_of_cell? W ⟨b7, o7, none⟩ h7)).trans h7, (c _ _ (World.block_lt_of_cell? W ⟨b8, o8, none⟩ h8)).trans h8, (c _ _ (World.block_lt_of_cell? W ⟨b9, o9, none⟩ h9)).trans h9, (c _ _ (World.block_lt_of_cell? W ⟨b10, o10, none⟩ h10)).trans h10, (c _ _ (World.block_lt_of_cell? W ⟨b11, o11, none⟩ h11)).trans h11, hw.trans (hb.mono hB)⟩
theorem keepW12 {w W W' : World} {b0 o0 b1 o1 b2 o2 b3 o3 b4 o4 b5 o5 b6 o6 b7 o7 b8 o8 b9 o9 b10 o10 b11 o11 : Nat} {v0 v1 v2 v3 v4 v5 v6 v7 v8 v9 v10 v11 : Value} (h : W.cell? ⟨b0, o0, none⟩ = some v0 ∧ W.cell? ⟨b1, o1, none⟩ = some v1 ∧ W.cell? ⟨b2, o2, none⟩ = some v2 ∧ W.cell? ⟨b3, o3, none⟩ = some v3 ∧ W.cell? ⟨b4, o4, none⟩ = some v4 ∧ W.cell? ⟨b5, o5, none⟩ = some v5 ∧ W.cell? ⟨b6, o6, none⟩ = some v6 ∧ W.cell? ⟨b7, o7, none⟩ = some v7 ∧ W.cell? ⟨b8, o8, none⟩ = some v8 ∧ W.cell? ⟨b9, o9, none⟩ = some v9 ∧ W.cell? ⟨b10, o10, none⟩ = some v10 ∧ W.cell? ⟨b11, o11, none⟩ = some v11 ∧ Below w.heap.size w W) (hb : Below W.heap.size W W') :
    W'.cell? ⟨b0, o0, none⟩ = some v0 ∧ W'.cell? ⟨b1, o1, none⟩ = some v1 ∧ W'.cell? ⟨b2, o2, none⟩ = some v2 ∧ W'.cell? ⟨b3, o3, none⟩ = some v3 ∧ W'.cell? ⟨b4, o4, none⟩ = some v4 ∧ W'.cell? ⟨b5, o5, none⟩ = some v5 ∧ W'.cell? ⟨b6, o6, none⟩ = some v6 ∧ W'.cell? ⟨b7, o7, none⟩ = some v7 ∧ W'.cell? ⟨b8, o8, none⟩ = some v8 ∧ W'.cell? ⟨b9, o9, none⟩ = some v9 ∧ W'.cell? ⟨b10, o10, none⟩ = some v10 ∧ W'.cell? ⟨b11, o11, none⟩ = some v11 ∧ Below w.heap.size w W' := keepG12 h (h.2.2.2.2.2.2.2.2.2.2.2.2).size hb
theorem keepG13 {w W W' : World} {B b0 o0 b1 o1 b2 o2 b3 o3 b4 o4 b5 o5 b6 o6 b7 o7 b8 o8 b9 o9 b10 o10 b11 o11 b12 o12 : Nat} {v0 v1 v2 v3 v4 v5 v6 v7 v8 v9 v10 v11 v12 : Value} (h : W.cell? ⟨b0, o0, none⟩ = some v0 ∧ W.cell? ⟨b1, o1, none⟩ = some v1 ∧ W.cell? ⟨b2, o2, none⟩ = some v2 ∧ W.cell? ⟨b3, o3, none⟩ = some v3 ∧ W.cell? ⟨b4, o4, none⟩ = some v4 ∧ W.cell? ⟨b5, o5, none⟩ = some v5 ∧ W.cell? ⟨b6, o6, none⟩ = some v6 ∧ W.cell? ⟨b7, o7, none⟩ = some v7 ∧ W.cell? ⟨b8, o8, none⟩ = some v8 ∧ W.cell? ⟨b9, o9, none⟩ = some v9 ∧ W.cell? ⟨b10, o10, none⟩ = some v10 ∧ W.cell? ⟨b11, o11, none⟩ = some v11 ∧ W.cell? ⟨b12, o12, none⟩ = some v12 ∧ Below B w W) (hB : B ≤ W.heap.size) (hb : Below W.heap.size W W') :
    W'.cell? ⟨b0, o0, none⟩ = some v0 ∧ W'.cell? ⟨b1, o1, none⟩ = some v1 ∧ W'.cell? ⟨b2, o2, none⟩ = some v2 ∧ W'.cell? ⟨b3, o3, none⟩ = some v3 ∧ W'.cell? ⟨b4, o4, none⟩ = some v4 ∧ W'.cell? ⟨b5, o5, none⟩ = some v5 ∧ W'.cell? ⟨b6, o6, none⟩ = some v6 ∧ W'.cell? ⟨b7, o7, none⟩ = some v7 ∧ W'.cell? ⟨b8, o8, none⟩ = some v8 ∧ W'.cell? ⟨b9, o9, none⟩ = some v9 ∧ W'.cell? ⟨b10, o10, none⟩ = some v10 ∧ W'.cell? ⟨b11, o11, none⟩ = some v11 ∧ W'.cell? ⟨b12, o12, none⟩ = some v12 ∧ Below B w W' := by
  obtain ⟨h0, h1, h2, h3, h4, h5, h6, h7, h8, h9, h10, h11, h12, hw⟩ := h
  obtain ⟨c, _⟩ := bcell hb
  exact ⟨(c _ _ (World.block_lt_of_cell? W ⟨b0, o0, none⟩ h0)).trans h0, (c _ _ (World.block_lt_of_cell? W ⟨b1, o1, none⟩ h1)).trans h1, (c _ _ (World.block_lt_of_cell? W ⟨b2, o2, none⟩ h2)).trans h2, (c _ _ (World.block_lt_of_cell? W ⟨b3, o3, none⟩ h3)).trans h3, (c _ _ (World.block_lt_of_cell? W ⟨b4, o4, none⟩ h4)).trans h4, (c _ _ (World.block_lt_of_cell? W ⟨b5, o5, none⟩ h5)).trans h5, (c _ _ (World.block_lt_of_cell? W ⟨b6, o6, none⟩ h6)).trans h6, (c _ _ (World.block_lt_of_cell? W ⟨b7, o7, none⟩ h7)).trans h7, (c _ _ (World.block_lt_of_cell? W ⟨b8, o8, none⟩ h8)).trans h8, (c _ _ (World.block_lt_of_cell? W ⟨b9, o9, none⟩ h9)).trans h9, (c _ _ (World.block_lt_of_cell? W ⟨b10, o10, none⟩ h10)).trans h10, (c _ _ (World.block_lt_of_cell? W ⟨b11, o11, none⟩ h11)).trans h11, (c _ _ (World.block_lt_of_cell? W ⟨b12, o12, none⟩ h12)).trans h12, hw.trans (hb.mono hB)⟩
theorem keepW13 {w W W' : World} {b0 o0 b1 o1 b2 o2 b3 o3 b4 o4 b5 o5 b6 o6 b7 o7 b8 o8 b9 o9 b10 o10 b11 o11 b12 o12 : Nat} {v0 v1 v2 v3 v4 v5 v6 v7 v8 v9 v10 v11 v12 : Value} (h : W.cell? ⟨b0, o0, none⟩ = some v0 ∧ W.cell? ⟨b1, o1, none⟩ = some v1 ∧ W.cell? ⟨b2, o2, none⟩ = some v2 ∧ W.cell? ⟨b3, o3, none⟩ = some v3 ∧ W.cell? ⟨b4, o4, none⟩ = some v4 ∧ W.cell? ⟨b5, o5, none⟩ = some v5 ∧ W.cell? ⟨b6, o6, none⟩ = some v6 ∧ W.cell? ⟨b7, o7, none⟩ = some v7 ∧ W.cell? ⟨b8, o8, none⟩ = some v8 ∧ W.cell? ⟨b9, o9, none⟩ = some v9 ∧ W.cell? ⟨b10, o10, none⟩ = some v10 ∧ W.cell? ⟨b11, o11, none⟩ = some v11 ∧ W.cell? ⟨b12, o12, none⟩ = some v12 ∧ Below w.heap.size w W) (hb : Below W.heap.size W W') :
    W'.cell? ⟨b0, o0, none⟩ = some v0 ∧ W'.cell? ⟨b1, o1, none⟩ = some v1 ∧ W'.cell? ⟨b2, o2, none⟩ = some v2 ∧ W'.cell? ⟨b3, o3, none⟩ = some v3 ∧ W'.cell? ⟨b4, o4, none⟩ = some v4 ∧ W'.cell? ⟨b5, o5, none⟩ = some v5 ∧ W'.cell? ⟨b6, o6, none⟩ = some v6 ∧ W'.cell? ⟨b7, o7, none⟩ = some v7 ∧ W'.cell? ⟨b8, o8, none⟩ = some v8 ∧ W'.cell? ⟨b9, o9, none⟩ = some v9 ∧ W'.cell? ⟨b10, o10, none⟩ = some v10 ∧ W'.cell? ⟨b11, o11, none⟩ = some v11 ∧ W'.cell? ⟨b12, o12, none⟩ = some v12 ∧ Below w.heap.size w W' := keepG13 h (h.2.2.2.2.2.2.2.2.2.2.2.2.2).size hb
theorem keepG14 {w W W' : World} {B b0 o0 b1 o1 b2 o2 b3 o3 b4 o4 b5 o5 b6 o6 b7 o7 b8 o8 b9 o9 b10 o10 b11 o11 b12 o12 b13 o13 : Nat} {v0 v1 v2 v3 v4 v5 v6 v7 v8 v9 v10 v11 v12 v13 : Value} (h : W.cell? ⟨b0, o0, none⟩ = some v0 ∧ W.cell? ⟨b1, o1, none⟩ = some v1 ∧ W.cell? ⟨b2, o2, none⟩ = some v2 ∧ W.cell? ⟨b3, o3, none⟩ = some v3 ∧ W.cell? ⟨b4, o4, none⟩ = some v4 ∧ W.cell? ⟨b5, o5, none⟩ = some v5 ∧ W.cell? ⟨b6, o6, none⟩ = some v6 ∧ W.cell? ⟨b7, o7, none⟩ = some v7 ∧ W.cell? ⟨b8, o8, none⟩ = some v8 ∧ W.cell? ⟨b9, o9, none⟩ = some v9 ∧ W.cell? ⟨b10, o10, none⟩ = some v10 ∧ W.cell? ⟨b11, o11, none⟩ = some v11 ∧ W.cell? ⟨b12, o12, none⟩ = some v12 ∧ W.cell? ⟨b13, o13, none⟩ = some v13 ∧ Below B w W) (hB : B ≤ W.heap.size) (hb : Below W.heap.size W W') :
    W'.cell? ⟨b0, o0, none⟩ = some v0 ∧ W'.cell? ⟨b1, o1, none⟩ = some v1 ∧ W'.cell? ⟨b2, o2, none⟩ = some v2 ∧ W'.cell? ⟨b3, o3, none⟩ = some v3 ∧ W'.cell? ⟨b4, o4, none⟩ = some v4 ∧ W'.cell? ⟨b5, o5, none⟩ = some v5 ∧ W'.cell? ⟨b6, o6, none⟩ = some v6 ∧ W'.cell? ⟨b7, o7, none⟩ = some v7 ∧ W'.cell? ⟨b8, o8, none⟩ = some v8 ∧ W'.cell? ⟨b9, o9, none⟩ = some v9 ∧ W'.cell? ⟨b10, o10, none⟩ = some v10 ∧ W'.cell? ⟨b11, o11, none⟩ = some v11 ∧ W'.cell? ⟨b12, o12, none⟩ = some v12 ∧ W'.cell? ⟨b13, o13, none⟩ = some v13 ∧ Below B w W' := by
  obtain ⟨h0, h1, h2, h3, h4, h5, h6, h7, h8, h9, h10, h11, h12, h13, hw⟩ := h
  obtain ⟨c, _⟩ := bcell hb
  exact ⟨(c _ _ (World.block_lt_of_cell? W ⟨b0, o0, none⟩ h0)).trans h0, (c _ _ (World.block_lt_of_cell? W ⟨b1, o1, none⟩ h1)).trans h1, (c _ _ (World.block_lt_of_cell? W ⟨b2, o2, none⟩ h2)).trans h2, (c _ _ (World.block_lt_of_cell? W ⟨b3, o3, none⟩ h3)).trans h3, (c _ _ (World.block_lt_of_cell? W ⟨b4, o4, none⟩ h4)).trans h4, (c _ _ (World.block_lt_of_cell? W ⟨b5, o5, none⟩ h5)).trans h5, (c _ _ (World.block_lt_of_cell? W ⟨b6, o6, none⟩ h6)).trans h6, (c _ _ (World.block_lt_of_cell? W ⟨b7, o7, none⟩ h7)).trans h7, (c _ _ (World.block_lt_of_cell? W ⟨b8, o8, none⟩ h8)).trans h8, (c _ _ (World.block_lt_of_cell? W ⟨b9, o9, none⟩ h9)).trans h9, (c _ _ (World.block_lt_of_cell? W ⟨b10, o10, none⟩ h10)).trans h10, (c _ _ (World.block_lt_of_cell? W ⟨b11, o11, none⟩ h11)).trans h11, (c _ _ (World.block_lt_of_cell? W ⟨b12, o12, none⟩ h12)).trans h12, (c _ _ (World.block_lt_of_cell? W ⟨b13, o13, none⟩ h13)).trans h13, hw.trans (hb.mono hB)⟩
theorem keepW14 {w W W' : World} {b0 o0 b1 o1 b2 o2 b3 o3 b4 o4 b5 o5 b6 o6 b7 o7 b8 o8 b9 o9 b10 o10 b11 o11 b12 o12 b13 o13 : Nat} {v0 v1 v2 v3 v4 v5 v6 v7 v8 v9 v10 v11 v12 v13 : Value} (h : W.cell? ⟨b0, o0, none⟩ = some v0 ∧ W.cell? ⟨b1, o1, none⟩ = some v1 ∧ W.cell? ⟨b2, o2, none⟩ = some v2 ∧ W.cell? ⟨b3, o3, none⟩ = some v3 ∧ W.cell? ⟨b4, o4, none⟩ = some v4 ∧ W.cell? ⟨b5, o5, none⟩ = some v5 ∧ W.cell? ⟨b6, o6, none⟩ = some v6 ∧ W.cell? ⟨b7, o7, none⟩ = some v7 ∧ W.cell? ⟨b8, o8, none⟩ = some v8 ∧ W.cell? ⟨b9, o9, none⟩ = some v9 ∧ W.cell? ⟨b10, o10, none⟩ = some v10 ∧ W.cell? ⟨b11, o11, none⟩ = some v11 ∧ W.cell? ⟨b12, o12, none⟩ = some v12 ∧ W.cell? ⟨b13, o13, none⟩ = some v13 ∧ Below w.heap.size w W) (hb : Below W.heap.size W W') :
    W'.cell? ⟨b0, o0, none⟩ = some v0 ∧ W'.cell? ⟨b1, o1, none⟩ = some v1 ∧ W'.cell? ⟨b2, o2, none⟩ = some v2 ∧ W'.cell? ⟨b3, o3, none⟩ = some v3 ∧ W'.cell? ⟨b4, o4, none⟩ = some v4 ∧ W'.cell? ⟨b5, o5, none⟩ = some v5 ∧ W'.cell? ⟨b6, o6, none⟩ = some v6 ∧ W'.cell? ⟨b7, o7, none⟩ = some v7 ∧ W'.cell? ⟨b8, o8, none⟩ = some v8 ∧ W'.cell? ⟨b9, o9, none⟩ = some v9 ∧ W'.cell? ⟨b10, o10, none⟩ = some v10 ∧ W'.cell? ⟨b11, o11, none⟩ = some v11 ∧ W'.cell? ⟨b12, o12, none⟩ = some v12 ∧ W'.cell? ⟨b13, o13, none⟩ = some v13 ∧ Below w.heap.size w W' := keepG14 h (h.2.2.2.2.2.2.2.2.2.2.2.2.2.2).size hb
theorem fin_Keep : True := trivial
end

section
open Go.RowKit Go.Joins Go.ChangeShapes Go.WideShapes Go.Deep
set_option linter.unusedVariables false

theorem info_n64 : (Tryz.prog.info? 2).map (fun i => (i.zero, i.size, i.bytes)) = some (some (.int .i64 0), 1, 8) := by kernel_rfl
/-- A slice that came in holds these numbers. -/
def NumsIn (w : World) (v : Value) (zs : List Int) : Prop :=
  (∃ a cap, v = .slice a 0 cap ∧ zs = []) ∨ (∃ b off cap, v = .slice (some ⟨b, off, none⟩) zs.length cap ∧ b < w.heap.size ∧ ∀ j, (h : j < zs.length) → w.cell? ⟨b, off + j, none⟩ = some (.int .i64 zs[j]) ∧ (-9223372036854775808 ≤ zs[j] ∧ zs[j] ≤ 9223372036854775807))
theorem NumsIn.below {w w' : World} {v : Value} {zs : List Int} (h : NumsIn w v zs) (hb : Below w.heap.size w w') : NumsIn w' v zs := by
  rcases h with h | ⟨b, off, cap, hv, hl, hc⟩
  · exact .inl h
  · exact .inr ⟨b, off, cap, hv, by have := hb.size; omega, fun j hj => ⟨(hb.cell (p := ⟨b, off + j, none⟩) hl).trans (hc j hj).1, (hc j hj).2⟩⟩
theorem NumsIn.len {w : World} {v : Value} {zs : List Int} (h : NumsIn w v zs) : ∃ a cap, v = .slice a zs.length cap := by
  rcases h with ⟨a, cap, rfl, rfl⟩ | ⟨b, off, cap, rfl, _⟩
  · exact ⟨a, cap, rfl⟩
  · exact ⟨_, cap, rfl⟩
/-- A slice that came in holds these lists. -/
def LinesIn (w : World) (v : Value) (ls : List (List Int)) : Prop :=
  (∃ a cap, v = .slice a 0 cap ∧ ls = []) ∨ (∃ b off cap, v = .slice (some ⟨b, off, none⟩) ls.length cap ∧ b < w.heap.size ∧ ∀ j, (h : j < ls.length) → ∃ u, w.cell? ⟨b, off + j, none⟩ = some u ∧ NumsIn w u ls[j] ∧ ls[j].length ≤ 9223372036854775807)
theorem LinesIn.below {w w' : World} {v : Value} {ls : List (List Int)} (h : LinesIn w v ls) (hb : Below w.heap.size w w') : LinesIn w' v ls := by
  rcases h with h | ⟨b, off, cap, hv, hl, hc⟩
  · exact .inl h
  · exact .inr ⟨b, off, cap, hv, by have := hb.size; omega, fun j hj => by
      obtain ⟨u, c, hu, hn⟩ := hc j hj
      exact ⟨u, (hb.cell (p := ⟨b, off + j, none⟩) hl).trans c, hu.below hb, hn⟩⟩

section
variable {H : Type} {enc : TypeId × Value → H} {w : World} {base : Nat} {held : Bool}
theorem ints_in {fuel : Nat} {sa : Option Addr} {sn sc : Nat} {x : DataW H × List MemPlace}
    (hf : DataW.trod enc Tryz.prog w base (fun _ => true) held fuel 27 [.slice sa sn sc] = some x) : ∃ zs : List Int, NumsIn w (.slice sa sn sc) zs ∧ zs.length ≤ 9223372036854775807 := by
  rcases open_ints Tryz.underlying27 Tryz.underlying2 (by kernel_rfl) hf with ⟨hcs, hx⟩ | ⟨a, len', cap', zs, hcs, _, hl, hm, hz, hx, hcell, hwz⟩
  · simp at hcs
    obtain ⟨rfl, rfl, rfl⟩ := hcs
    exact ⟨[], .inl ⟨_, _, rfl, rfl⟩, by simp⟩
  · simp at hcs
    obtain ⟨rfl, rfl, rfl⟩ := hcs
    simp only [if_true] at hz
    by_cases hl0 : sn = 0
    · subst hl0
      exact ⟨[], .inl ⟨_, _, rfl, rfl⟩, by simp⟩
    · obtain ⟨b, off, spot⟩ := a
      have hspot : spot = none := by simpa [Addr.add] using World.cell?_spot (hcell 0 (by omega))
      subst hspot
      have hlt : (zs.take sn).length = sn := by simp; omega
      have hget : ∀ j, (h : j < (zs.take sn).length) → w.cell? ⟨b, off + j, none⟩ = some (.int .i64 (zs.take sn)[j]) := by
        intro j hj
        have h1 := hcell j (by omega)
        rw [add_plain] at h1
        rw [h1]
        simp [List.getD, show j < zs.length by omega]
      exact ⟨zs.take sn, .inr ⟨b, off, sc, by rw [hlt], World.block_lt_of_cell? w ⟨b, off + 0, none⟩ (hget 0 (by omega)), fun j hj => ⟨hget j hj, wf_fits (hwz _ (List.mem_of_mem_take (List.getElem_mem hj)))⟩⟩, by rw [hlt]; unfold maxLen at hm; omega⟩
theorem here_ends : True := trivial
end

/-- Block g is a row of these numbers. -/
def NRow (w : World) (g : Nat) (zs : List Int) : Prop := w.rowIs g 2 zs.length (fun k => .int .i64 (zs.getD k 0))
theorem NRow.below {w w' : World} {g : Nat} {zs : List Int} (h : NRow w g zs) (hb : Below w.heap.size w w') : NRow w' g zs := World.rowIs.of_block h (hb.block g (World.rowIs.lt h))
theorem NRow.at {w : World} {g : Nat} {zs : List Int} (h : NRow w g zs) (j : Nat) (hj : j < zs.length) : w.cell? ⟨g, j, none⟩ = some (.int .i64 zs[j]) := by
  rw [World.rowIs.cell h hj, List.getD, List.getElem?_eq_getElem hj]
  rfl
/-- Block g is a row of slices of these lists, each in a row of its own. -/
structure LRow (w : World) (g : Nat) (ls : List (List Int)) (bs : Nat → Nat) : Prop where
  row : w.rowIs g 27 ls.length (fun k => .slice (some ⟨bs k, 0, none⟩) (ls.getD k []).length (ls.getD k []).length)
  each : ∀ k, k < ls.length → NRow w (bs k) (ls.getD k [])
theorem LRow.lt {w : World} {g : Nat} {ls : List (List Int)} {bs : Nat → Nat} (h : LRow w g ls bs) : g < w.heap.size := World.rowIs.lt h.row
theorem LRow.below {w w' : World} {g : Nat} {ls : List (List Int)} {bs : Nat → Nat} (h : LRow w g ls bs) (hb : Below w.heap.size w w') : LRow w' g ls bs :=
  ⟨World.rowIs.of_block h.row (hb.block g h.lt), fun k hk => (h.each k hk).below hb⟩
theorem LRow.at {w : World} {g : Nat} {ls : List (List Int)} {bs : Nat → Nat} (h : LRow w g ls bs) (j : Nat) (hj : j < ls.length) : w.cell? ⟨g, j, none⟩ = some (.slice (some ⟨bs j, 0, none⟩) ls[j].length ls[j].length) ∧ NRow w (bs j) ls[j] := by
  have e : ls.getD j [] = ls[j] := by rw [List.getD, List.getElem?_eq_getElem hj]; rfl
  have h1 := World.rowIs.cell h.row hj
  have h2 := h.each j hj
  rw [e] at h1 h2
  exact ⟨h1, h2⟩
/-- The rows so far. -/
def lineUp (ls : List (List Int)) (bs : Nat → Nat) (j k : Nat) : Value := if k < j then .slice (some ⟨bs k, 0, none⟩) (ls.getD k []).length (ls.getD k []).length else .slice none 0 0

theorem nums_make (n : Nat) (hn : n ≤ 1048577) (w : World) :
    (Instr.makeSlice 27 (.int .i64 (n : Int)) (.int .i64 (n : Int))).run Tryz.prog w = .ok (.slice (some ⟨w.heap.size, 0, none⟩) n n) (w.alloc (.cells (madeCells #[.int .i64 0] n) 2)) := by
  obtain ⟨i, hi, hzz⟩ := Option.map_eq_some_iff.1 info_n64
  simp only [Prod.mk.injEq] at hzz
  obtain ⟨hz, hs, hb⟩ := hzz
  have hr := run_make (P := Tryz.prog) w 27 2 i _ Tryz.underlying27 hi hz .i64 .i64 (n : Int) (n : Int) (by omega) (Int.le_refl _) (by rw [hb]; omega) (by omega)
  simp only [Int.toNat_natCast, hs, Nat.mul_one] at hr
  exact hr
theorem info_ints : (Tryz.prog.info? 27).map (fun i => (i.zero, i.size, i.bytes)) = some (some (.slice none 0 0), 1, 24) := by kernel_rfl
/-- A copy of numbers so far. -/
def numUp (zs : List Int) (j k : Nat) : Value := .int .i64 (if k < j then zs.getD k 0 else 0)
theorem numUp_set {w : World} {g : Nat} {zs : List Int} {j : Nat} (h : w.rowIs g 2 zs.length (numUp zs j)) {v : Int} (hv : v = zs.getD j 0) : (w.setCell ⟨g, j, none⟩ (.int .i64 v)).rowIs g 2 zs.length (numUp zs (j + 1)) := by
  refine World.rowIs.congr (World.rowIs.set h j (.int .i64 v)) (fun k _ => ?_)
  unfold numUp
  by_cases c : k = j
  · subst c
    rw [if_pos rfl, if_pos (by omega), hv]
  · rw [if_neg c]
    by_cases d : k < j
    · rw [if_pos d, if_pos (by omega)]
    · rw [if_neg d, if_neg (by omega)]
theorem numUp_done {w : World} {g : Nat} {zs : List Int} (h : w.rowIs g 2 zs.length (numUp zs zs.length)) : NRow w g zs :=
  World.rowIs.congr h (fun k hk => by unfold numUp; rw [if_pos hk])
theorem numUp_made (w : World) (zs : List Int) : (w.alloc (.cells (madeCells #[.int .i64 0] zs.length) 2)).rowIs w.heap.size 2 zs.length (numUp zs 0) :=
  World.rowIs.congr (World.rowIs_made w (.int .i64 0) zs.length 2) (fun _ _ => by unfold numUp; rw [if_neg (Nat.not_lt_zero _)])

/-- The rows copied so far. -/
structure LUp (w : World) (g : Nat) (ls : List (List Int)) (bs : Nat → Nat) (j : Nat) : Prop where
  row : w.rowIs g 27 ls.length (lineUp ls bs j)
  each : ∀ k, k < j → NRow w (bs k) (ls.getD k []) ∧ g < bs k
theorem LUp.made (w : World) (ls : List (List Int)) (bs : Nat → Nat) : LUp (w.alloc (.cells (madeCells #[.slice none 0 0] ls.length) 27)) w.heap.size ls bs 0 :=
  ⟨World.rowIs.congr (World.rowIs_made w (.slice none 0 0) ls.length 27) (fun _ _ => by unfold lineUp; rw [if_neg (Nat.not_lt_zero _)]), fun k hk => absurd hk (Nat.not_lt_zero k)⟩
theorem LUp.below {w w' : World} {g : Nat} {ls : List (List Int)} {bs : Nat → Nat} {j : Nat} (h : LUp w g ls bs j) (hb : Below w.heap.size w w') : LUp w' g ls bs j :=
  ⟨World.rowIs.of_block h.row (hb.block g (World.rowIs.lt h.row)), fun k hk => ⟨(h.each k hk).1.below hb, (h.each k hk).2⟩⟩
theorem LUp.done {w : World} {g : Nat} {ls : List (List Int)} {bs : Nat → Nat} (h : LUp w g ls bs ls.length) : LRow w g ls bs :=
  ⟨World.rowIs.congr h.row (fun k hk => by unfold lineUp; rw [if_pos hk]), fun k hk => (h.each k hk).1⟩
theorem LUp.put {w : World} {g : Nat} {ls : List (List Int)} {bs : Nat → Nat} {j b : Nat} {zs : List Int} (h : LUp w g ls bs j) (hz : ls.getD j [] = zs) (hn : NRow w b zs) (hg : g < b) :
    LUp (w.setCell ⟨g, j, none⟩ (.slice (some ⟨b, 0, none⟩) zs.length zs.length)) g ls (fun k => if k = j then b else bs k) (j + 1) := by
  refine ⟨World.rowIs.congr (World.rowIs.set h.row j _) (fun k _ => ?_), fun k hk => ?_⟩
  · unfold lineUp
    by_cases c : k = j
    · subst c
      rw [if_pos rfl, if_pos (by omega)]
      simp only [if_true, hz]
    · simp only [if_neg c]
      by_cases d : k < j
      · rw [if_pos d, if_pos (by omega)]
      · rw [if_neg d, if_neg (by omega)]
  · by_cases c : k = j
    · subst c
      simp only [if_true, hz]
      exact ⟨World.rowIs.setOther hn (by show b ≠ g; omega) _, hg⟩
    · simp only [if_neg c]
      obtain ⟨h1, h2⟩ := h.each k (by omega)
      exact ⟨World.rowIs.setOther h1 (by show bs k ≠ g; omega) _, h2⟩
theorem LRow.setOther {w : World} {g : Nat} {ls : List (List Int)} {bs : Nat → Nat} (h : LRow w g ls bs) {a : Addr} (hg : g ≠ a.block) (hk : ∀ k, k < ls.length → bs k ≠ a.block) (v : Value) : LRow (w.setCell a v) g ls bs :=
  ⟨World.rowIs.setOther h.row hg v, fun k hl => World.rowIs.setOther (h.each k hl) (hk k hl) v⟩
theorem fin_Fig0 : True := trivial
end

section
open Go.RowKit
set_option linter.unusedVariables false

def szL (zs : List Int) (l : Int) : Int := if l - (zs.length : Int) < 0 then -1 else l - (zs.length : Int)
theorem szL_bd (zs : List Int) (l : Int) (h0 : 0 ≤ l) : -1 ≤ szL zs l ∧ szL zs l ≤ l ∧ (0 ≤ szL zs l → (zs.length : Int) ≤ l) := by unfold szL; split <;> omega
/-- What szInt64SS answers: below 0, or the lists are short. -/
def SzLPost (ls : List (List Int)) (l : Int) (w : World) (e : Ending) (w' : World) : Prop :=
  ∃ z : Int, e = .returned (.int .i64 z) ∧ -1 ≤ z ∧ z ≤ l ∧ (0 ≤ z → ls.length ≤ 1048576 ∧ ∀ j, (h : j < ls.length) → ls[j].length ≤ 1048576) ∧ Below w.heap.size w w'

/-- The call returned a new copy. -/
def ToNPost (zs : List Int) (w : World) (e : Ending) (w' : World) : Prop :=
  e = .returned (.slice (some ⟨w.heap.size, 0, none⟩) zs.length zs.length) ∧ NRow w' w.heap.size zs ∧ Below w.heap.size w w'
set_option maxHeartbeats 400000 in
theorem toN_empty (a : Option Addr) (cap : Nat) (w : World) :
    Calls Tryz.prog 17 #[.slice a 0 cap] w (ToNPost [] w) := by
  have hmk : ∀ w, (Instr.makeSlice 27 (.int .i64 0) (.int .i64 0)).run Tryz.prog w = .ok (.slice (some ⟨w.heap.size, 0, none⟩) 0 0) (w.alloc (.cells #[] 2)) := fun _ => by kernel_rfl
  have MADE : Hid (NRow (w.alloc (.cells #[] 2)) w.heap.size []) := Lib.hid (World.rowIs_alloc w #[] 2 _ (fun k hk => by simp at hk))
  go_enter Tryz.func17, Tryz.ntmps17
  go_wp2_with fail
  clear hmk
  go_loop [4] (fun i => i = .int .i64 0) (fun _ => 0)
  case atStart => rfl
  case round =>
    subst hrel
    go_wp2_with fail
    go_ret
    exact ⟨rfl, MADE.out, (Below.refl _ _).alloc (Nat.le_refl _) _⟩
set_option maxRecDepth 100000 in
set_option maxHeartbeats 1000000 in
theorem toN_full (b off cap : Nat) (zs : List Int) (w : World) (hbw : b < w.heap.size) (hb : zs.length ≤ 1048576) (hc : ∀ j, (h : j < zs.length) → w.cell? ⟨b, off + j, none⟩ = some (.int .i64 zs[j])) :
    Calls Tryz.prog 17 #[.slice (some ⟨b, off, none⟩) zs.length cap] w (ToNPost zs w) := by
  have HC := Lib.hid hc
  clear hc
  have hmk := nums_make zs.length (by omega)
  have MADE := Lib.hid (numUp_made w zs)
  go_enter Tryz.func17, Tryz.ntmps17
  go_wp2_with fail
  clear hmk
  go_loopg [4] (zs.length + 1) (fun kx s4 wr => ∃ j : Nat, s4 = .int .i64 (j : Int) ∧ j ≤ zs.length ∧ kx = zs.length + 1 - j ∧ Hid (wr.rowIs w.heap.size 2 zs.length (numUp zs j)) ∧ Hid (Below w.heap.size w wr))
  case atStart => exact ⟨0, rfl, Nat.zero_le _, rfl, MADE, Lib.hid ((Below.refl _ _).alloc (Nat.le_refl _) _)⟩
  case round =>
    obtain ⟨j, rfl, hj, rfl, HR, HB⟩ := hrel
    by_cases hlt : j < zs.length
    · have c0 := (HB.out.cell (p := ⟨b, off + j, none⟩) hbw).trans (HC.out j hlt)
      have c1 := World.rowIs.cell HR.out hlt
      have f1 := World.rowIs.frozen HR.out j
      have PU := Lib.hid (numUp_set HR.out (show zs[j] = zs.getD j 0 by rw [List.getD, List.getElem?_eq_getElem hlt]; rfl))
      generalize zs[j] = z at *
      unfold numUp at c1
      have j0 : (0 : Int) ≤ (j : Int) := by omega
      have j1 : (j : Int) < (zs.length : Int) := by omega
      go_wp2_with fail
      go_roundg (zs.length + 1 - (j + 1))
      case measure => omega
      case rel => exact ⟨j + 1, by go_num, by omega, by omega, PU, Lib.hid (HB.out.setCell (Nat.le_refl _) _)⟩
    · obtain rfl : j = zs.length := by omega
      go_wp2_with fail
      go_ret
      exact ⟨rfl, numUp_done HR.out, HB.out⟩
theorem toN_any {v : Value} {zs : List Int} {w : World} (h : NumsIn w v zs) (hb : zs.length ≤ 1048576) :
    Calls Tryz.prog 17 #[v] w (ToNPost zs w) := by
  rcases h with ⟨a, cap, rfl, rfl⟩ | ⟨b, off, cap, rfl, hl, hc⟩
  · exact toN_empty a cap w
  · exact toN_full b off cap zs w hl hb (fun j hj => (hc j hj).1)

/-- The call returned a new copy of all lists. -/
def ToLPost (ls : List (List Int)) (w : World) (e : Ending) (w' : World) : Prop :=
  e = .returned (.slice (some ⟨w.heap.size, 0, none⟩) ls.length ls.length) ∧ (∃ bs, LRow w' w.heap.size ls bs ∧ ∀ k, k < ls.length → w.heap.size < bs k) ∧ Below w.heap.size w w'
/-- The call returned a new copy of the figure. -/
def ToFPost (s : ByteArray) (ls : List (List Int)) (w : World) (e : Ending) (w' : World) : Prop :=
  ∃ g bs, e = .returned (.agg #[.string s, .slice (some ⟨g, 0, none⟩) ls.length ls.length]) ∧ LRow w' g ls bs ∧ Below w.heap.size w w'
/-- .. and where the copy lies. -/
def ToXPost (s : ByteArray) (ls : List (List Int)) (w : World) (e : Ending) (w' : World) : Prop :=
  ∃ g bs, e = .returned (.agg #[.string s, .slice (some ⟨g, 0, none⟩) ls.length ls.length]) ∧ LRow w' g ls bs ∧ Below w.heap.size w w' ∧ w.heap.size ≤ g ∧ ∀ k, k < ls.length → g < bs k
/-- A struct of two cells that the call made stays. -/
theorem box_keep {W W' : World} {b : Nat} {v0 v1 : Value} (h : b < W.heap.size ∧ W.cell? ⟨b, 0, none⟩ = some v0 ∧ W.cell? ⟨b, 1, none⟩ = some v1) (hb : Below W.heap.size W W') :
    b < W'.heap.size ∧ W'.cell? ⟨b, 0, none⟩ = some v0 ∧ W'.cell? ⟨b, 1, none⟩ = some v1 := by
  obtain ⟨h0, h1, h2⟩ := h
  have := hb.size
  exact ⟨by omega, (hb.cell (p := ⟨b, 0, none⟩) h0).trans h1, (hb.cell (p := ⟨b, 1, none⟩) h0).trans h2⟩
theorem box_new (w : World) (v0 v1 : Value) (t : TypeId) : w.heap.size < (w.alloc (.cells #[v0, v1] t)).heap.size ∧ (w.alloc (.cells #[v0, v1] t)).cell? ⟨w.heap.size, 0, none⟩ = some v0 ∧ (w.alloc (.cells #[v0, v1] t)).cell? ⟨w.heap.size, 1, none⟩ = some v1 := by
  refine ⟨by simp, ?_, ?_⟩ <;> (rw [World.cell?_alloc_at _ _ _ _ rfl]; rfl)
theorem lines_fits {w : World} {v : Value} {ls : List (List Int)} (h : LinesIn w v ls) : ∀ j, (hj : j < ls.length) → ∀ x ∈ ls[j], fits x := by
  intro j hj x hx
  rcases h with ⟨a, cap, _, rfl⟩ | ⟨b, off, cap, _, _, hc⟩
  · cases hj
  · obtain ⟨u, _, hu, _⟩ := hc j hj
    rcases hu with ⟨a, cap, _, h0⟩ | ⟨b, off, cap, _, _, hz⟩
    · rw [h0] at hx
      cases hx
    · obtain ⟨k, hk, rfl⟩ := List.mem_iff_getElem.1 hx
      exact (hz k hk).2

theorem quiet_d2 {P : Program} {f : FuncId} {args : Array Value} {w : World} {n : Nat} {v : Value}
    (h : Calls P f args (w.drewN n) fun e w' => e = .returned v ∧ ∃ m, w' = (w.drewN n).drewN m) : Calls P f args (w.drewN n) fun e w'' => e = .returned v ∧ ∃ m, w'' = w.drewN m :=
  h.mono fun _ _ ⟨he, m, hm⟩ => ⟨he, n + m, by rw [hm, World.drewN_drewN]⟩
theorem bel_d2 {B : Nat} {a w : World} (h : Below B a w) (n : Nat) : Below B a (w.drewN n) := ⟨h.os, h.tape, h.output, h.size, h.block⟩
set_option maxRecDepth 100000 in
set_option maxHeartbeats 1000000 in
theorem eqN_any (b b' ca cb : Nat) (zs : List Int) (w : World) (hb : zs.length ≤ 1048577) (h1 : NRow w b zs) (h2 : NRow w b' zs) :
    Calls Tryz.prog 11 #[.slice (some ⟨b, 0, none⟩) zs.length ca, .slice (some ⟨b', 0, none⟩) zs.length cb] w fun e w' => e = .returned (.bool true) ∧ ∃ q, w' = w.drewN q := by
  have HG := Lib.hid (fun j hj => h1.at j hj)
  have HH := Lib.hid (fun j hj => h2.at j hj)
  clear h1 h2
  go_enter Tryz.func11, Tryz.ntmps11
  go_wp2_with fail
  go_loopw [5] (fun i wr => ∃ (j q : Nat), i = .int .i64 (j : Int) ∧ j ≤ zs.length ∧ wr = w.drewN q) (fun i _ => zs.length - (intOf i).toNat)
  case atStart => exact ⟨0, 0, rfl, Nat.zero_le _, rfl⟩
  case round =>
    obtain ⟨j, q, rfl, hj, rfl⟩ := hrel
    by_cases hlt : j < zs.length
    · have c1 := HG.out j hlt
      have c2 := HH.out j hlt
      generalize zs[j] = z at *
      go_wp2_with fail
      go_quiet (fail)
      go_wp2_with fail
      go_roundw
      case rel => exact ⟨j + 1, _, by go_num, by omega, rfl⟩
      case measure => (simp [intOf] <;> omega)
    · go_wp2_with fail
      go_ret
      exact ⟨rfl, q, rfl⟩
theorem fin_FigL : True := trivial
end

section
open Go.RowKit
set_option linter.unusedVariables false

/-- A line between two of n stars. -/
def lineB (n : Int) (x : List Int) : Bool := (x.length == 2) && (inR 0 (n - 1) x && decide (x.getD 0 0 < x.getD 1 0))
def lessP (x y : List Int) : Bool := decide (x.getD 0 0 < y.getD 0 0) || (decide (x.getD 0 0 = y.getD 0 0) && decide (x.getD 1 0 < y.getD 1 0))
def stepL (n : Int) (ls : List (List Int)) (j : Nat) : Bool := lineB n (ls.getD j []) && (j == 0 || lessP (ls.getD (j - 1) []) (ls.getD j []))
def okF (n : Int) (ls : List (List Int)) (j : Nat) : Bool := (List.range j).all (stepL n ls)
def linesB (n : Int) (ls : List (List Int)) : Bool := okF n ls ls.length && decide (ls.length ≤ 16)
theorem okF_next (n : Int) (ls : List (List Int)) (j : Nat) : okF n ls (j + 1) = (okF n ls j && stepL n ls j) := by
  unfold okF
  rw [List.range_succ, List.all_append]
  simp
theorem okF_stop (n : Int) (ls : List (List Int)) (j : Nat) (h : j < ls.length) (hs : stepL n ls j = false) : linesB n ls = false := by
  unfold linesB okF
  have : (List.range ls.length).all (stepL n ls) = false := by
    rw [List.all_eq_false]
    exact ⟨j, List.mem_range.2 h, by rw [hs]; simp⟩
  rw [this, Bool.false_and]
theorem okF_line (n : Int) (ls : List (List Int)) (j k : Nat) (h : okF n ls j = true) (hk : k < j) : lineB n (ls.getD k []) = true := by
  unfold okF at h
  rw [List.all_eq_true] at h
  have := h k (List.mem_range.2 hk)
  unfold stepL at this
  simp only [Bool.and_eq_true] at this
  exact this.1
theorem stepL_zero (n : Int) (ls : List (List Int)) : stepL n ls 0 = lineB n (ls.getD 0 []) := by simp [stepL]
theorem stepL_pos (n : Int) (ls : List (List Int)) (j k : Nat) (h : j = k + 1) : stepL n ls j = (lineB n (ls.getD j []) && lessP (ls.getD k []) (ls.getD j [])) := by subst h; simp [stepL]
theorem lineB_two {n : Int} {x : List Int} (h : lineB n x = true) : ∃ a b, x = [a, b] := by
  unfold lineB at h
  simp only [Bool.and_eq_true, beq_iff_eq] at h
  match x, h.1 with
  | [a, b], _ => exact ⟨a, b, rfl⟩
theorem getL_at (ls : List (List Int)) (j : Nat) (h : j < ls.length) : ls.getD j [] = ls[j] := by rw [List.getD, List.getElem?_eq_getElem h]; rfl

theorem NRow.drewN {w : World} {g : Nat} {zs : List Int} (h : NRow w g zs) {n : Nat} : NRow (w.drewN n) g zs := h
theorem NRow.cells {w : World} {g : Nat} {zs : List Int} (h : NRow w g zs) : ∀ j, j < zs.length → w.cell? ⟨g, 0 + j, none⟩ = some (.int .i64 (zs.getD j 0)) := by
  intro j hj
  rw [Nat.zero_add]
  exact World.rowIs.cell h hj

theorem quiet_ddF {P : Program} {f : FuncId} {args : Array Value} {w : World} {n : Nat} {v : Value}
    (h : Calls P f args (w.drewN n) fun e w' => e = .returned v ∧ w.drewN n = w') : Calls P f args (w.drewN n) fun e w'' => e = .returned v ∧ ∃ m, w'' = w.drewN m :=
  h.mono fun _ _ ⟨he, hm⟩ => ⟨he, n, hm.symm⟩
def cmpI (x y : Int) : Int := if x < y then -1 else if y < x then 1 else 0
set_option maxHeartbeats 400000 in
theorem nanI_any (x : Int) (w : World) : Calls Tryz.prog 179 #[.int .i64 x] w fun e w' => e = .returned (.bool false) ∧ w = w' := by
  have h : (x != x) = false := by simp
  have h2 : (x == x) = true := by simp
  go_enter Tryz.func179, Tryz.ntmps179
  go_wp2_with fail
  go_ret
  exact ⟨by simp, rfl⟩
/-- What slices.Compare answers of two pairs. -/
def cmpP (a b c d : Int) : Int := if cmpI a c ≠ 0 then cmpI a c else cmpI b d
theorem cmpI_zero (x y : Int) : cmpI x y = 0 ↔ x = y := by unfold cmpI; split <;> (try split) <;> omega
theorem cmpI_lt (x y : Int) : cmpI x y < 0 ↔ x < y := by unfold cmpI; split <;> (try split) <;> omega
theorem cmpP_lt (a b c d : Int) : (cmpP a b c d < 0) ↔ lessP [a, b] [c, d] = true := by
  have h : lessP [a, b] [c, d] = (decide (a < c) || (decide (a = c) && decide (b < d))) := rfl
  rw [h]
  unfold cmpP
  by_cases h0 : cmpI a c = 0
  · rw [if_neg (by simpa using h0)]
    have := (cmpI_zero a c).1 h0
    subst this
    rw [cmpI_lt]
    simp
  · rw [if_pos h0, cmpI_lt]
    have := mt (cmpI_zero a c).2 h0
    simp [this]
theorem bel_dF {B : Nat} {a w : World} (h : Below B a w) (n : Nat) : Below B a (w.drewN n) := ⟨h.os, h.tape, h.output, h.size, h.block⟩
theorem quiet_bel {P : Program} {f : FuncId} {args : Array Value} {w : World} {v : Value}
    (h : Calls P f args w fun e w' => e = .returned v ∧ ∃ q, w' = w.drewN q) : Calls P f args w fun e w' => e = .returned v ∧ Below w.heap.size w w' :=
  h.mono fun _ _ ⟨he, q, hq⟩ => ⟨he, by rw [hq]; exact bel_dF (Below.refl _ w) q⟩
def figB (n : Int) (s : ByteArray) (ls : List (List Int)) : Bool := nameB s.data.toList && linesB n ls
theorem fin_FigI : True := trivial
end

section
open Go.RowKit
set_option linter.unusedVariables false

def figV (zs : List StarV) (s : ByteArray) (ls : List (List Int)) : Bool := okL zs && figB (zs.length : Int) s ls
theorem fin_FigV : True := trivial
end

section
open Go.RowKit
set_option linter.unusedVariables false

theorem sepN_bd (p q : Int × Int × Int) : 0 ≤ sepN p q ∧ sepN p q < 360000 := by
  unfold sepN sepV
  split
  · split
    · unfold atanV
      split
      · split
        · exact ⟨by show (0 : Int) ≤ 0; omega, by show (0 : Int) < 360000; omega⟩
        · exact dirI_bd _ _
      · exact ⟨by show (0 : Int) ≤ 0; omega, by show (0 : Int) < 360000; omega⟩
    · exact ⟨by show (0 : Int) ≤ 0; omega, by show (0 : Int) < 360000; omega⟩
  · exact ⟨by show (0 : Int) ≤ 0; omega, by show (0 : Int) < 360000; omega⟩
theorem farN_bd (x y : StarV) : 0 ≤ farN x y ∧ farN x y < 360000 := sepN_bd _ _

/-- The distance of two stars by their indices. -/
def farI (zs : List StarV) (i k : Int) : Int := farN (zs.getD i.toNat star0) (zs.getD k.toNat star0)
theorem farI_bd (zs : List StarV) (i k : Int) : 0 ≤ farI zs i k ∧ farI zs i k < 360000 := farN_bd _ _
/-- The length of the first j ways of a path. -/
def pathN (zs : List StarV) (p : List Int) : Nat → Int
  | 0 => 0
  | j + 1 => pathN zs p j + farI zs (p.getD j 0) (p.getD (j + 1) 0)
theorem pathN_bd (zs : List StarV) (p : List Int) (j : Nat) : 0 ≤ pathN zs p j ∧ pathN zs p j ≤ 360000 * j := by
  induction j with
  | zero => exact ⟨Int.le_refl _, Int.le_refl _⟩
  | succ j ih =>
    have h := farI_bd zs (p.getD j 0) (p.getD (j + 1) 0)
    unfold pathN
    omega

theorem keepTN {w W W' : World} {g o o' b q q' : Nat} {v0 v1 v2 v3 v4 u0 u1 u2 u3 u4 r0 r1 : Value} (h : (W.cell? ⟨g, o, none⟩ = some v0 ∧ W.cell? ⟨g, o + 1, none⟩ = some v1 ∧ W.cell? ⟨g, o + 2, none⟩ = some v2 ∧ W.cell? ⟨g, o + 3, none⟩ = some v3 ∧ W.cell? ⟨g, o + 4, none⟩ = some v4 ∧ W.cell? ⟨g, o', none⟩ = some u0 ∧ W.cell? ⟨g, o' + 1, none⟩ = some u1 ∧ W.cell? ⟨g, o' + 2, none⟩ = some u2 ∧ W.cell? ⟨g, o' + 3, none⟩ = some u3 ∧ W.cell? ⟨g, o' + 4, none⟩ = some u4 ∧ Below w.heap.size w W) ∧ W.cell? ⟨b, q, none⟩ = some r0 ∧ W.cell? ⟨b, q', none⟩ = some r1) (hb : Below W.heap.size W W') :
    W'.cell? ⟨g, o, none⟩ = some v0 ∧ W'.cell? ⟨g, o + 1, none⟩ = some v1 ∧ W'.cell? ⟨g, o + 2, none⟩ = some v2 ∧ W'.cell? ⟨g, o + 3, none⟩ = some v3 ∧ W'.cell? ⟨g, o + 4, none⟩ = some v4 ∧ W'.cell? ⟨g, o', none⟩ = some u0 ∧ W'.cell? ⟨g, o' + 1, none⟩ = some u1 ∧ W'.cell? ⟨g, o' + 2, none⟩ = some u2 ∧ W'.cell? ⟨g, o' + 3, none⟩ = some u3 ∧ W'.cell? ⟨g, o' + 4, none⟩ = some u4 ∧ W'.cell? ⟨b, q, none⟩ = some r0 ∧ W'.cell? ⟨b, q', none⟩ = some r1 ∧ Below w.heap.size w W' := by
  obtain ⟨h1, n0, n1⟩ := h
  have l0 := World.block_lt_of_cell? W ⟨b, q, none⟩ n0
  obtain ⟨c, _⟩ := bcell hb
  obtain ⟨h0, h1, h2, h3, h4, k0, k1, k2, k3, k4, hB⟩ := keepT h1 hb
  exact ⟨h0, h1, h2, h3, h4, k0, k1, k2, k3, k4, (c _ _ l0).trans n0, (c _ _ l0).trans n1, hB⟩
set_option maxRecDepth 100000 in
set_option maxHeartbeats 4000000 in
theorem pathLength_any (g cap b cap' : Nat) (zs : List StarV) (p : List Int) (w : World) (hs : SinesOK w) (hb : zs.length ≤ 1048577) (hp : p.length ≤ 1048577) (h1 : Row w g zs) (hok : ∀ j, (h : j < zs.length) → zs[j].ok) (h2 : NRow w b p) (hin : ∀ x ∈ p, 0 ≤ x ∧ x < (zs.length : Int)) :
    Calls Tryz.prog 43 #[.slice (some ⟨g, 0, none⟩) zs.length cap, .slice (some ⟨b, 0, none⟩) p.length cap'] w fun e w' => e = .returned (.int .i64 (pathN zs p (p.length - 1))) ∧ Below w.heap.size w w' := by
  have H1 := Lib.hid h1
  have H2 := Lib.hid h2
  have OK := Lib.hid hok
  have IN := Lib.hid hin
  have E := Lib.hid hs
  clear h1 h2 hok hin hs
  go_enter Tryz.func43, Tryz.ntmps43
  go_wp2_with fail
  go_loopg [5, 6] (p.length + 1) (fun kx s5 s6 wr => ∃ q : Nat, s5 = .int .i64 (pathN zs p (q - 1)) ∧ s6 = .int .i64 (q : Int) ∧ 1 ≤ q ∧ (q = 1 ∨ q ≤ p.length) ∧ kx = p.length + 2 - q ∧ Hid (Below w.heap.size w wr))
  case atStart => exact ⟨1, rfl, rfl, Nat.le_refl _, Or.inl rfl, rfl, Lib.hid (Below.refl _ _)⟩
  case round =>
    obtain ⟨q, rfl, rfl, hq1, hj, rfl, HB⟩ := hrel
    by_cases hlt : q < p.length
    · obtain ⟨j, hqj⟩ : ∃ j, q = j + 1 := ⟨q - 1, by omega⟩
      have hqs : q - 1 = j := by omega
      rw [hqs]
      have hj0 : j < p.length := by omega
      have hR := H1.out.below HB.out
      have hP := H2.out.below HB.out
      have a0 := hP.at j hj0
      have a1 := hP.at q hlt
      obtain ⟨i0, i1⟩ := IN.out p[j] (List.getElem_mem hj0)
      obtain ⟨k0, k1⟩ := IN.out p[q] (List.getElem_mem hlt)
      have PN : Hid (pathN zs p (q + 1 - 1) = pathN zs p j + farI zs p[j] p[q]) := Lib.hid (by
        rw [Nat.add_sub_cancel]
        subst hqj
        show pathN zs p j + farI zs (p.getD j 0) (p.getD (j + 1) 0) = _
        rw [List.getD, List.getD, List.getElem?_eq_getElem hj0, List.getElem?_eq_getElem hlt]
        rfl)
      have pb := pathN_bd zs p j
      generalize pathN zs p j = m at *
      generalize p[j] = i at *
      generalize p[q] = k at *
      obtain ⟨ni, rfl⟩ : ∃ n : Nat, i = (n : Int) := ⟨i.toNat, by omega⟩
      obtain ⟨nk, rfl⟩ : ∃ n : Nat, k = (n : Int) := ⟨k.toNat, by omega⟩
      have li : ni < zs.length := by omega
      have lk : nk < zs.length := by omega
      have hfI : farI zs (ni : Int) (nk : Int) = farN zs[ni] zs[nk] := by
        unfold farI
        rw [Int.toNat_natCast, Int.toNat_natCast, getD_at zs ni li, getD_at zs nk lk]
      rw [hfI] at PN
      have fb := farN_bd zs[ni] zs[nk]
      have D := Lib.hid (fun w hs => distSS_any zs[ni].s zs[ni].a zs[ni].b zs[ni].c zs[ni].d (OK.out ni li).2.1 zs[nk].s zs[nk].a zs[nk].b zs[nk].c zs[nk].d (OK.out nk lk).2.1 w hs)
      have hf : sepN (dirT zs[ni].a zs[ni].b) (dirT zs[nk].a zs[nk].b) = farN zs[ni] zs[nk] := rfl
      rw [hf] at D
      unfold sightS at D
      obtain ⟨c0, c1, c2, c3, c4⟩ := hR.at ni li
      obtain ⟨d0, d1, d2, d3, d4⟩ := hR.at nk lk
      clear hf hfI hR hP
      generalize farN zs[ni] zs[nk] = n at *
      generalize zs[ni] = x at *
      generalize zs[nk] = y at *
      obtain ⟨xs, xa, xb, xc, xd⟩ := x
      obtain ⟨ys, ya, yb, yc, yd⟩ := y
      simp only at D c0 c1 c2 c3 c4 d0 d1 d2 d3 d4
      have i2 : (ni : Int) < (zs.length : Int) := by omega
      have k2 : (nk : Int) < (zs.length : Int) := by omega
      have j0 : (0 : Int) ≤ (j : Int) := by omega
      have j2 : (j : Int) < (p.length : Int) := by omega
      have q0 : (0 : Int) ≤ (q : Int) := by omega
      have q2 : (q : Int) < (p.length : Int) := by omega
      have ek : (q : Int) - 1 = (j : Int) := by omega
      have wk : IntKind.i64.wrap (j : Int) = (j : Int) := IntWalk.i64_in _ (by omega)
      have wmn : IntKind.i64.wrap (m + n) = m + n := IntWalk.i64_in _ (by omega)
      clear hqj hqs
      have EE := Lib.hid (fun (W : World) (h : Below wr.heap.size wr W) => E.out.below (HB.out.trans (h.mono HB.out.size)))
      have K : Hid ((wr.cell? ⟨g, ni * 5, none⟩ = some (.string xs) ∧ wr.cell? ⟨g, ni * 5 + 1, none⟩ = some (.int .i64 xa) ∧ wr.cell? ⟨g, ni * 5 + 2, none⟩ = some (.int .i64 xb) ∧ wr.cell? ⟨g, ni * 5 + 3, none⟩ = some (.int .i64 xc) ∧ wr.cell? ⟨g, ni * 5 + 4, none⟩ = some (.int .i64 xd) ∧ wr.cell? ⟨g, nk * 5, none⟩ = some (.string ys) ∧ wr.cell? ⟨g, nk * 5 + 1, none⟩ = some (.int .i64 ya) ∧ wr.cell? ⟨g, nk * 5 + 2, none⟩ = some (.int .i64 yb) ∧ wr.cell? ⟨g, nk * 5 + 3, none⟩ = some (.int .i64 yc) ∧ wr.cell? ⟨g, nk * 5 + 4, none⟩ = some (.int .i64 yd) ∧ Below w.heap.size w wr) ∧ wr.cell? ⟨b, j, none⟩ = some (.int .i64 (ni : Int)) ∧ wr.cell? ⟨b, q, none⟩ = some (.int .i64 (nk : Int))) := Lib.hid ⟨⟨c0, c1, c2, c3, c4, d0, d1, d2, d3, d4, HB.out⟩, a0, a1⟩
      clear c0 c1 c2 c3 c4 d0 d1 d2 d3 d4 a0 a1 H1 H2 OK IN
      go_wp2_with fail
      go_region_held3 (fun W => W.cell? ⟨g, ni * 5, none⟩ = some (.string xs) ∧ W.cell? ⟨g, ni * 5 + 1, none⟩ = some (.int .i64 xa) ∧ W.cell? ⟨g, ni * 5 + 2, none⟩ = some (.int .i64 xb) ∧ W.cell? ⟨g, ni * 5 + 3, none⟩ = some (.int .i64 xc) ∧ W.cell? ⟨g, ni * 5 + 4, none⟩ = some (.int .i64 xd) ∧ W.cell? ⟨g, nk * 5, none⟩ = some (.string ys) ∧ W.cell? ⟨g, nk * 5 + 1, none⟩ = some (.int .i64 ya) ∧ W.cell? ⟨g, nk * 5 + 2, none⟩ = some (.int .i64 yb) ∧ W.cell? ⟨g, nk * 5 + 3, none⟩ = some (.int .i64 yc) ∧ W.cell? ⟨g, nk * 5 + 4, none⟩ = some (.int .i64 yd) ∧ W.cell? ⟨b, j, none⟩ = some (.int .i64 (ni : Int)) ∧ W.cell? ⟨b, q, none⟩ = some (.int .i64 (nk : Int)) ∧ Below w.heap.size w W) (first | (exact keepTN K.out (drewS wr)) | (exact keepTN K.out z1) | go_keep) ((first
        | (go_at_call 68; (with_reducible refine (D.out _ (EE.out _ (drewS wr))).mono ?_); rintro e u1 ⟨rfl, hu1⟩; have z1 := undrewS hu1)))
      all_goals
        rename_i held
        have HH := Lib.hid held.2.2.2.2.2.2.2.2.2.2.2.2
        clear held K
        go_wp2_with fail
        go_roundg (p.length + 2 - (q + 1))
        case measure => omega
        case rel => exact ⟨q + 1, by rw [PN.out], by go_num, by omega, by omega, by omega, HH⟩
    · have hj' : q - 1 = p.length - 1 := by omega
      have jn : ¬ ((q : Int) < (p.length : Int)) := by omega
      go_wp2_with fail
      go_ret
      exact ⟨by first | rfl | rw [hj'], HB.out⟩

/-- The length of the first j lines. -/
def lenF (zs : List StarV) (ls : List (List Int)) : Nat → Int
  | 0 => 0
  | j + 1 => lenF zs ls j + farI zs ((ls.getD j []).getD 0 0) ((ls.getD j []).getD 1 0)
theorem lenF_bd (zs : List StarV) (ls : List (List Int)) (j : Nat) : 0 ≤ lenF zs ls j ∧ lenF zs ls j ≤ 360000 * j := by
  induction j with
  | zero => exact ⟨Int.le_refl _, Int.le_refl _⟩
  | succ j ih =>
    have h := farI_bd zs ((ls.getD j []).getD 0 0) ((ls.getD j []).getD 1 0)
    unfold lenF
    omega
def figLenV (zs : List StarV) (s : ByteArray) (ls : List (List Int)) : Int × Int := if figV zs s ls = true then (lenF zs ls ls.length, 0) else (0, 1)
theorem figV_ok {zs : List StarV} {s : ByteArray} {ls : List (List Int)} (h : figV zs s ls = true) : okL zs = true ∧ ls.length ≤ 16 ∧ ∀ j, (hj : j < ls.length) → ∃ a c : Nat, ls[j] = [(a : Int), (c : Int)] ∧ a < zs.length ∧ c < zs.length ∧ a < c := by
  unfold figV figB linesB at h
  simp only [Bool.and_eq_true, decide_eq_true_eq] at h
  obtain ⟨h1, _, h2, h3⟩ := h
  refine ⟨h1, h3, fun j hj => ?_⟩
  have hl := okF_line _ ls _ j h2 hj
  rw [getL_at ls j hj] at hl
  obtain ⟨a, c, hac⟩ := lineB_two hl
  rw [hac] at hl ⊢
  have e : lineB (zs.length : Int) [a, c] = (inR 0 ((zs.length : Int) - 1) [a, c] && decide (a < c)) := rfl
  rw [e, inR_2] at hl
  simp only [Bool.and_eq_true, inR_1, decide_eq_true_eq] at hl
  exact ⟨a.toNat, c.toNat, by rw [Int.toNat_of_nonneg (by omega), Int.toNat_of_nonneg (by omega)], by omega, by omega, by omega⟩

theorem fin_FigLen : True := trivial
end

section
open Go.RowKit Go.Lib
set_option linter.unusedVariables false

def putL : List Int → Int → List Int
  | [], x => [x]
  | y :: ys, x => if y < x then y :: putL ys x else if y = x then y :: ys else x :: y :: ys
theorem putL_mem (xs : List Int) (x z : Int) : z ∈ putL xs x ↔ z ∈ xs ∨ z = x := by
  induction xs with
  | nil => simp [putL]
  | cons y ys ih =>
    unfold putL
    split
    · rw [List.mem_cons, ih, List.mem_cons, or_assoc]
    · split
      · rename_i h
        subst h
        simp only [List.mem_cons]
        constructor
        · intro h; exact Or.inl h
        · rintro (h | h)
          · exact h
          · exact Or.inl h
      · simp only [List.mem_cons]
        constructor
        · rintro (h | h | h)
          · exact Or.inr h
          · exact Or.inl (Or.inl h)
          · exact Or.inl (Or.inr h)
        · rintro ((h | h) | h)
          · exact Or.inr (Or.inl h)
          · exact Or.inr (Or.inr h)
          · exact Or.inl h
theorem putL_sorted (xs : List Int) (x : Int) (h : xs.Pairwise (· < ·)) : (putL xs x).Pairwise (· < ·) := by
  induction xs with
  | nil => simp [putL]
  | cons y ys ih =>
    rw [List.pairwise_cons] at h
    unfold putL
    split
    · rename_i hy
      rw [List.pairwise_cons]
      refine ⟨fun z hz => ?_, ih h.2⟩
      rcases (putL_mem ys x z).1 hz with h1 | h1
      · exact h.1 z h1
      · rw [h1]; exact hy
    · split
      · rw [List.pairwise_cons]; exact h
      · rename_i h1 h2
        rw [List.pairwise_cons, List.pairwise_cons]
        refine ⟨fun z hz => ?_, h⟩
        rcases List.mem_cons.1 hz with h3 | h3
        · rw [h3]; omega
        · have := h.1 z h3; omega
theorem uniqS (l1 l2 : List Int) (h1 : l1.Pairwise (· < ·)) (h2 : l2.Pairwise (· < ·)) (h : ∀ z, z ∈ l1 ↔ z ∈ l2) : l1 = l2 := by
  induction l1 generalizing l2 with
  | nil =>
    cases l2 with
    | nil => rfl
    | cons y ys => exact absurd ((h y).2 List.mem_cons_self) (by simp)
  | cons x xs ih =>
    cases l2 with
    | nil => exact absurd ((h x).1 List.mem_cons_self) (by simp)
    | cons y ys =>
      rw [List.pairwise_cons] at h1 h2
      have hxy : x = y := by
        rcases List.mem_cons.1 ((h x).1 List.mem_cons_self) with e | e
        · exact e
        · rcases List.mem_cons.1 ((h y).2 List.mem_cons_self) with e' | e'
          · exact e'.symm
          · have a := h2.1 x e
            have b := h1.1 y e'
            omega
      subst hxy
      congr 1
      refine ih ys h1.2 h2.2 (fun z => ⟨fun hz => ?_, fun hz => ?_⟩)
      · rcases List.mem_cons.1 ((h z).1 (List.mem_cons_of_mem _ hz)) with e | e
        · have := h1.1 z hz; omega
        · exact e
      · rcases List.mem_cons.1 ((h z).2 (List.mem_cons_of_mem _ hz)) with e | e
        · have := h2.1 z hz; omega
        · exact e
theorem fold_sorted (zs : List Int) : ∀ (xs : List Int), xs.Pairwise (· < ·) → (zs.foldl putL xs).Pairwise (· < ·) ∧ ∀ z, z ∈ zs.foldl putL xs ↔ z ∈ xs ∨ z ∈ zs := by
  induction zs with
  | nil => intro xs h; exact ⟨h, fun z => by simp⟩
  | cons y ys ih =>
    intro xs h
    obtain ⟨a, b⟩ := ih (putL xs y) (putL_sorted xs y h)
    refine ⟨a, fun z => ?_⟩
    rw [List.foldl_cons, b, putL_mem, List.mem_cons, or_assoc]
theorem compact_ok (d : Array Int) (hs : ∀ i j, i ≤ j → j < d.size → d[i]! ≤ d[j]!) (m : Nat) (hm : m ≤ d.size) :
    (compactUpTo d m).Pairwise (· < ·) ∧ ∀ z, z ∈ compactUpTo d m ↔ ∃ j, j < m ∧ d[j]! = z := by
  induction m with
  | zero => exact ⟨by simp [compactUpTo], fun z => by simp [compactUpTo]⟩
  | succ m ih =>
    obtain ⟨a, b⟩ := ih (by omega)
    rw [compactUpTo_succ]
    by_cases h0 : m = 0
    · subst h0
      have e : compactUpTo d 0 = [] := by simp [compactUpTo]
      have k : keeps d 0 = true := keeps_lt_one d 0 (by omega)
      rw [e, k]
      refine ⟨by simp, fun z => ?_⟩
      simp only [if_true, List.nil_append, List.mem_singleton]
      constructor
      · intro h; exact ⟨0, by omega, h.symm⟩
      · rintro ⟨j, hj, h⟩
        obtain rfl : j = 0 := by omega
        exact h.symm
    · by_cases hk : d[m]! = d[m - 1]!
      · rw [keeps_neg (by omega) hk]
        simp only [Bool.false_eq_true, if_false, List.append_nil]
        refine ⟨a, fun z => ?_⟩
        rw [b]
        constructor
        · rintro ⟨j, hj, h⟩; exact ⟨j, by omega, h⟩
        · rintro ⟨j, hj, h⟩
          by_cases c : j = m
          · subst c; exact ⟨j - 1, by omega, by rw [← hk]; exact h⟩
          · exact ⟨j, by omega, h⟩
      · rw [keeps_pos hk]
        simp only [if_true]
        refine ⟨?_, fun z => ?_⟩
        · rw [List.pairwise_append]
          refine ⟨a, by simp, fun x hx y hy => ?_⟩
          obtain ⟨j, hj, h⟩ := (b x).1 hx
          rw [List.mem_singleton] at hy
          have h1 := hs j (m - 1) (by omega) (by omega)
          have h2 := hs (m - 1) m (by omega) (by omega)
          rw [hy, ← h]
          omega
        · rw [List.mem_append, b, List.mem_singleton]
          constructor
          · rintro (⟨j, hj, h⟩ | h)
            · exact ⟨j, by omega, h⟩
            · exact ⟨m, by omega, h.symm⟩
          · rintro ⟨j, hj, h⟩
            by_cases c : j = m
            · subst c; exact Or.inr h.symm
            · exact Or.inl ⟨j, by omega, h⟩
theorem ends_eq (zs : List Int) : compact (zs.mergeSort fun x y => decide (x ≤ y)) = zs.foldl putL [] := by
  have hsort : (zs.mergeSort fun x y => decide (x ≤ y)).Pairwise (· ≤ ·) := by
    have h := List.pairwise_mergeSort (le := fun x y : Int => decide (x ≤ y)) (fun a b c h1 h2 => by simp at *; omega) (fun a b => by simp; omega) zs
    exact h.imp (fun h => by simpa using h)
  have hmem : ∀ z, z ∈ (zs.mergeSort fun x y => decide (x ≤ y)) ↔ z ∈ zs := fun z => (List.mergeSort_perm zs _).mem_iff
  generalize (zs.mergeSort fun x y => decide (x ≤ y)) = ys at *
  have hget : ∀ j (h : j < ys.length), ys.toArray[j]! = ys[j] := fun j h => by simp [h]
  obtain ⟨a, b⟩ := compact_ok ys.toArray (fun i j hij hj => by
    have hj' : j < ys.length := by simpa using hj
    rw [hget i (by omega), hget j hj']
    rcases Nat.lt_or_ge i j with c | c
    · exact List.pairwise_iff_getElem.1 hsort i j (by omega) hj' c
    · obtain rfl : i = j := by omega
      exact Int.le_refl _) ys.length (by simp)
  obtain ⟨c, d⟩ := fold_sorted zs [] List.Pairwise.nil
  refine uniqS _ _ a c (fun z => ?_)
  show z ∈ compactUpTo ys.toArray ys.length ↔ _
  rw [b, d, ← hmem z]
  simp only [List.not_mem_nil, false_or]
  constructor
  · rintro ⟨j, hj, h⟩
    rw [hget j hj] at h
    rw [← h]
    exact List.getElem_mem hj
  · intro h
    obtain ⟨j, hj, h⟩ := List.mem_iff_getElem.1 h
    exact ⟨j, hj, by rw [hget j hj]; exact h⟩

theorem own_belowE {B : Nat} {w0 w w1 : World} {e : TypeId} {v : Value} {n : Nat} {xs : List Value} {o : Obj} (hown : w.ownsRow B e 1 v n xs) (hb : Below B w0 w) (hB : B ≤ w.heap.size)
    (hg : (w.alloc o).grownBy w1 v.ownBlock) : Below B w0 w1 ∧ B ≤ w1.heap.size := by
  refine ⟨(hb.alloc hB o).grown hg (by simp; omega) (fun k hk => (hown.lt k hk).1), ?_⟩
  have := hg.size
  simp at this
  omega
theorem one_cellE (w : World) (T : TypeId) (c : Int) : ∀ (j : Nat) u, [Value.int .i64 c][j]? = some u → (w.alloc (.cells #[.int .i64 c] T)).cell? ((⟨w.heap.size, 0, none⟩ : Addr).add j) = some u := by
  intro j u hj
  match j, hj with
  | 0, hj => simp at hj; subst hj; simp [Addr.add]
theorem one_plainE (c : Int) : ∀ u ∈ [Value.int .i64 c], u.oneCell' = true := by
  intro u hu
  simp at hu
  subst hu
  rfl
theorem ownsRow_belowE {B : Nat} {w w' : World} {e : TypeId} {v : Value} {n : Nat} {xs : List Value} (h : w.ownsRow B e 1 v n xs) (hb : Below w.heap.size w w') : w'.ownsRow B e 1 v n xs :=
  h.kept (⟨hb.os, hb.tape, hb.output, hb.size, fun k hk _ => hb.block k hk⟩ : w.grownBy w' none) (by cases hv : v.ownBlock <;> simp)

/-- One step of putting a number into a list. -/
def stepP (x : Int) (s : List Int × Bool) (y : Int) : List Int × Bool := if s.2 = false ∧ x ≤ y then ((if x < y then s.1 ++ [x] else s.1) ++ [y], true) else (s.1 ++ [y], s.2)
theorem stepP_true (x : Int) (ys : List Int) : ∀ o, ys.foldl (stepP x) (o, true) = (o ++ ys, true) := by
  induction ys with
  | nil => intro o; simp
  | cons y ys ih =>
    intro o
    rw [List.foldl_cons]
    have e : stepP x (o, true) y = (o ++ [y], true) := by unfold stepP; simp
    rw [e, ih, List.append_assoc]
    rfl
theorem stepP_false (x : Int) (ys : List Int) : ∀ o, (ys.foldl (stepP x) (o, false)).2 = true ∧ (ys.foldl (stepP x) (o, false)).1 = o ++ putL ys x ∨ (ys.foldl (stepP x) (o, false)).2 = false ∧ (ys.foldl (stepP x) (o, false)).1 ++ [x] = o ++ putL ys x := by
  induction ys with
  | nil => intro o; right; simp [putL]
  | cons y ys ih =>
    intro o
    rw [List.foldl_cons]
    by_cases h : x ≤ y
    · left
      have e : stepP x (o, false) y = ((if x < y then o ++ [x] else o) ++ [y], true) := by unfold stepP; simp [h]
      rw [e, stepP_true]
      refine ⟨rfl, ?_⟩
      have ep : putL (y :: ys) x = if y = x then y :: ys else x :: y :: ys := by rw [putL, if_neg (by omega)]
      show (if x < y then o ++ [x] else o) ++ [y] ++ ys = _
      rw [ep]
      by_cases c : x < y
      · rw [if_pos c, if_neg (by omega)]
        simp
      · rw [if_neg c, if_pos (by omega)]
        simp
    · have e : stepP x (o, false) y = (o ++ [y], false) := by unfold stepP; simp [h]
      rw [e]
      have ep : putL (y :: ys) x = y :: putL ys x := by rw [putL, if_pos (by omega)]
      rcases ih (o ++ [y]) with ⟨a, b⟩ | ⟨a, b⟩
      · left; exact ⟨a, by rw [b, ep]; simp⟩
      · right; exact ⟨a, by rw [b, ep]; simp⟩
def putS (xs : List Int) (x : Int) (j : Nat) : List Int × Bool := (xs.take j).foldl (stepP x) ([], false)
theorem putS_next (xs : List Int) (x : Int) (j : Nat) (h : j < xs.length) : putS xs x (j + 1) = stepP x (putS xs x j) xs[j] := by
  unfold putS
  rw [List.take_succ_eq_append_getElem h, List.foldl_append]
  rfl
theorem putS_end (xs : List Int) (x : Int) : putL xs x = if (putS xs x xs.length).2 = true then (putS xs x xs.length).1 else (putS xs x xs.length).1 ++ [x] := by
  unfold putS
  rw [List.take_length]
  rcases stepP_false x xs [] with ⟨a, b⟩ | ⟨a, b⟩
  · rw [a, if_pos rfl, b]; rfl
  · rw [a, if_neg (by simp), b]; rfl
theorem putL_len (xs : List Int) (x : Int) : (putL xs x).length ≤ xs.length + 1 := by
  induction xs with
  | nil => simp [putL]
  | cons y ys ih =>
    unfold putL
    split
    · simp only [List.length_cons]; omega
    · split <;> simp
theorem stepP_len (x : Int) (ys : List Int) : ∀ s, (ys.foldl (stepP x) s).1.length ≤ s.1.length + 2 * ys.length := by
  induction ys with
  | nil => intro s; simp
  | cons y ys ih =>
    intro s
    rw [List.foldl_cons]
    have h := ih (stepP x s y)
    have h2 : (stepP x s y).1.length ≤ s.1.length + 2 := by
      unfold stepP
      split
      · simp only [List.length_append, List.length_cons, List.length_nil]
        split <;> simp
      · simp
    simp only [List.length_cons]
    omega
theorem putS_len (xs : List Int) (x : Int) (j : Nat) (h : xs.length ≤ 1000) : (putS xs x j).1.length ≤ 2000 := by
  have h1 := stepP_len x (xs.take j) ([], false)
  have h2 : (xs.take j).length ≤ 1000 := by rw [List.length_take]; omega
  unfold putS
  simp only [List.length_nil] at h1
  omega

/-- The call returned a slice of its own with these numbers. -/
def OwnPost (zs : List Int) (w : World) (e : Ending) (w' : World) : Prop :=
  ∃ v, e = .returned v ∧ w'.ownsRow w.heap.size 2 1 v zs.length (zs.map (Value.int .i64)) ∧ Below w.heap.size w w'

/-- The numbers of the first j lines, each once, in order. -/
def endsL (ls : List (List Int)) : List Int := ls.flatten.foldl putL []
def endsUp (ls : List (List Int)) (j : Nat) : List Int := (ls.take j).flatten.foldl putL []
theorem endsUp_next (ls : List (List Int)) (j : Nat) (h : j < ls.length) (a c : Int) (hac : ls[j] = [a, c]) : endsUp ls (j + 1) = putL (putL (endsUp ls j) a) c := by
  unfold endsUp
  rw [List.take_succ_eq_append_getElem h, hac, List.flatten_append, List.foldl_append]
  rfl
theorem endsUp_len (ls : List (List Int)) (hl : ∀ j, (h : j < ls.length) → ∃ a c : Int, ls[j] = [a, c]) (j : Nat) (hj : j ≤ ls.length) : (endsUp ls j).length ≤ 2 * j := by
  induction j with
  | zero => simp [endsUp]
  | succ j ih =>
    obtain ⟨a, c, hac⟩ := hl j (by omega)
    rw [endsUp_next ls j (by omega) a c hac]
    have h1 := putL_len (endsUp ls j) a
    have h2 := putL_len (putL (endsUp ls j) a) c
    have h3 := ih (by omega)
    omega
theorem own_slice {B : Nat} {w : World} {v : Value} {xs : List Int} (h : w.ownsRow B 2 1 v xs.length (xs.map (Value.int .i64))) : ∃ (a : Option Addr) (cap : Nat), v = .slice a xs.length cap ∧ (xs.length = 0 ∨ ∃ g, a = some ⟨g, 0, none⟩ ∧ g < w.heap.size ∧ ∀ j, (hj : j < xs.length) → w.cell? ⟨g, j, none⟩ = some (.int .i64 xs[j])) := by
  rcases h.2 with ⟨hv, h0⟩ | ⟨g, cap, cur, hv, _, hh, _, _, _, _⟩
  · exact ⟨none, 0, by rw [hv, h0], Or.inl h0⟩
  · refine ⟨some ⟨g, 0, none⟩, cap, hv, Or.inr ⟨g, rfl, (Array.getElem?_eq_some_iff.1 hh).1, fun j hj => ?_⟩⟩
    subst hv
    rw [h.cellAt j (by omega), List.getElem?_map, List.getElem?_eq_getElem hj]
    rfl

theorem fin_Ends : True := trivial
end

section
open Go.RowKit Go.Lib
set_option linter.unusedVariables false

theorem zero_i64 (w : World) : (zeroValue 2).run Tryz.prog w = .ok (.int .i64 0) w := by kernel_rfl
def upL (ls : List (List Int)) (j : Nat) : List Int := (ls.take j).flatten
theorem upL_next (ls : List (List Int)) (j : Nat) (h : j < ls.length) (a c : Int) (hac : ls[j] = [a, c]) : upL ls (j + 1) = upL ls j ++ [a, c] := by
  unfold upL
  rw [List.take_succ_eq_append_getElem h, hac, List.flatten_append]
  simp
theorem upL_len (ls : List (List Int)) (hl : ∀ j, (h : j < ls.length) → ∃ a c : Int, ls[j] = [a, c]) (j : Nat) (hj : j ≤ ls.length) : (upL ls j).length = 2 * j := by
  induction j with
  | zero => simp [upL]
  | succ j ih =>
    obtain ⟨a, c, hac⟩ := hl j (by omega)
    rw [upL_next ls j (by omega) a c hac, List.length_append, ih (by omega)]
    simp only [List.length_cons, List.length_nil]
    omega

/-- Below a block that the call made nothing turns. -/
theorem grown_belowE {B g : Nat} {w0 w w' : World} (hb : Below B w0 w) (hs : B ≤ w.heap.size) (hg : B ≤ g) (h : w.grownBy w' (some g)) : Below B w0 w' := hb.grown h hs (fun k hk => by injection hk with e; omega)

set_option maxRecDepth 100000 in
set_option maxHeartbeats 4000000 in
theorem sortI_any {B : Nat} {v : Value} (zs : List Int) (hz : zs.length ≤ 1000) (w : World) (h : w.ownsRow B 2 1 v zs.length (zs.map (Value.int .i64))) (hB : B ≤ w.heap.size) :
    Calls Tryz.prog 110 #[v] w fun e w' => e = .returned (.tuple #[]) ∧ w'.ownsRow B 2 1 v zs.length ((zs.mergeSort fun x y => decide (x ≤ y)).map (Value.int .i64)) ∧ Below B w w' := by
  rcases h.2 with ⟨rfl, h0⟩ | ⟨g, cap, cur, rfl, hg, hh, hc1, hc2, hc3, ht⟩
  · have hn := AnyM.slices_Sort_int_none Tryz.sortI none 0 w
    change Calls Tryz.prog 110 _ _ _ at hn
    refine hn.mono fun e w' ⟨he, hw⟩ => ⟨he, ?_, by subst hw; exact Below.refl _ _⟩
    subst hw
    obtain rfl : zs = [] := List.length_eq_zero_iff.1 h0
    rw [show (([] : List Int).mergeSort fun x y => decide (x ≤ y)) = [] by simp]
    exact h
  · rw [Nat.mul_one] at ht
    have hgl : g < w.heap.size := (Array.getElem?_eq_some_iff.1 hh).1
    have hs := AnyM.slices_Sort_int Tryz.sortI g 0 cap zs w (holds_of_blockI hh ht) hgl (by omega)
    change Calls Tryz.prog 110 _ _ _ at hs
    refine hs.mono fun e w' ⟨he, n, os, hw⟩ => ⟨he, ?_, ?_⟩
    · subst hw
      exact ownsRow_sortedI (by rw [List.length_mergeSort]) hg hh hc1 hc2 hc3
    · subst hw
      exact grown_belowE (Below.refl _ _) hB hg (grownBy_sortedI _)

theorem fin_EndsI : True := trivial
end

section
open Go.RowKit
set_option linter.unusedVariables false

theorem nearQ_odd (n : Int) : nearQ (-n) 1000000 = -nearQ n 1000000 := by
  rcases (show n < 0 ∨ n = 0 ∨ 0 < n by omega) with c | c | c
  · rw [nearQ_np n 1000000 c (by omega), nearQ_pp (-n) 1000000 (by omega) (by omega)]; omega
  · subst c; rw [show (-(0 : Int)) = 0 from rfl, nearQ_pp 0 1000000 (by omega) (by omega)]; omega
  · rw [nearQ_pp n 1000000 (by omega) (by omega), nearQ_np (-n) 1000000 (by omega) (by omega)]; omega
theorem crI_swap (y z y' z' : Int) : crI y' z z' y = -crI y z' z y' := by
  unfold crI
  rw [← nearQ_odd]
  congr 1
  rw [Int.mul_comm y' z, Int.mul_comm z' y]
  omega
theorem crL_swap (x y z x' y' z' : Int) : crL x' y' z' x y z = crL x y z x' y' z' := by
  unfold crL len3
  rw [crI_swap y z y' z', crI_swap z x z' x', crI_swap x y x' y']
  unfold sq3
  simp only [Int.neg_mul_neg]
theorem dotI_swap (x y z x' y' z' : Int) : dotI x' y' z' x y z = dotI x y z x' y' z' := by
  unfold dotI
  rw [Int.mul_comm x' x, Int.mul_comm y' y, Int.mul_comm z' z]
theorem sepN_swap (p q : Int × Int × Int) : sepN p q = sepN q p := by
  unfold sepN sepV
  rw [crL_swap, dotI_swap]
  cases okV p.1 p.2.1 p.2.2 <;> cases okV q.1 q.2.1 q.2.2 <;> rfl
theorem farI_swap (zs : List StarV) (i k : Int) : farI zs i k = farI zs k i := sepN_swap _ _

def spanK (zs : List StarV) (e : List Int) (i : Nat) (m : Int) : Nat → Int
  | 0 => m
  | k + 1 => max (spanK zs e i m k) (farI zs (e.getD i 0) (e.getD (i + 1 + k) 0))
def spanI (zs : List StarV) (e : List Int) : Nat → Int
  | 0 => 0
  | i + 1 => spanK zs e i (spanI zs e i) (e.length - (i + 1))
def spinK (zs : List StarV) (e : List Int) (i : Nat) (m : Int) : Nat → Int
  | 0 => m
  | k + 1 => max (spinK zs e i m k) (farI zs (e.getD i 0) (e.getD k 0))
def spinI (zs : List StarV) (e : List Int) : Nat → Int
  | 0 => 0
  | i + 1 => spinK zs e i (spinI zs e i) i
theorem spanK_le (zs : List StarV) (e : List Int) (i : Nat) (m b : Int) (n : Nat) : spanK zs e i m n ≤ b ↔ m ≤ b ∧ ∀ k, k < n → farI zs (e.getD i 0) (e.getD (i + 1 + k) 0) ≤ b := by
  induction n with
  | zero => simp [spanK]
  | succ n ih =>
    have hd : spanK zs e i m (n + 1) ≤ b ↔ spanK zs e i m n ≤ b ∧ farI zs (e.getD i 0) (e.getD (i + 1 + n) 0) ≤ b := by
      show max _ _ ≤ b ↔ _
      omega
    rw [hd, ih]
    constructor
    · rintro ⟨⟨h1, h2⟩, h3⟩
      refine ⟨h1, fun k hk => ?_⟩
      by_cases c : k = n
      · rw [c]; exact h3
      · exact h2 k (by omega)
    · rintro ⟨h1, h2⟩
      exact ⟨⟨h1, fun k hk => h2 k (by omega)⟩, h2 n (by omega)⟩
theorem spinK_le (zs : List StarV) (e : List Int) (i : Nat) (m b : Int) (n : Nat) : spinK zs e i m n ≤ b ↔ m ≤ b ∧ ∀ k, k < n → farI zs (e.getD i 0) (e.getD k 0) ≤ b := by
  induction n with
  | zero => simp [spinK]
  | succ n ih =>
    have hd : spinK zs e i m (n + 1) ≤ b ↔ spinK zs e i m n ≤ b ∧ farI zs (e.getD i 0) (e.getD n 0) ≤ b := by
      show max _ _ ≤ b ↔ _
      omega
    rw [hd, ih]
    constructor
    · rintro ⟨⟨h1, h2⟩, h3⟩
      refine ⟨h1, fun k hk => ?_⟩
      by_cases c : k = n
      · rw [c]; exact h3
      · exact h2 k (by omega)
    · rintro ⟨h1, h2⟩
      exact ⟨⟨h1, fun k hk => h2 k (by omega)⟩, h2 n (by omega)⟩
theorem spanI_le (zs : List StarV) (e : List Int) (b : Int) (n : Nat) : spanI zs e n ≤ b ↔ 0 ≤ b ∧ ∀ i, i < n → ∀ k, i < k → k < e.length → farI zs (e.getD i 0) (e.getD k 0) ≤ b := by
  induction n with
  | zero => simp [spanI]
  | succ n ih =>
    have hd : spanI zs e (n + 1) = spanK zs e n (spanI zs e n) (e.length - (n + 1)) := rfl
    rw [hd, spanK_le, ih]
    constructor
    · rintro ⟨⟨h1, h2⟩, h3⟩
      refine ⟨h1, fun i hi k hk hl => ?_⟩
      by_cases c : i = n
      · subst c
        have := h3 (k - (i + 1)) (by omega)
        rw [show i + 1 + (k - (i + 1)) = k by omega] at this
        exact this
      · exact h2 i (by omega) k hk hl
    · rintro ⟨h1, h2⟩
      exact ⟨⟨h1, fun i hi k hk hl => h2 i (by omega) k hk hl⟩, fun k hk => h2 n (by omega) _ (by omega) (by omega)⟩
theorem spinI_le (zs : List StarV) (e : List Int) (b : Int) (n : Nat) : spinI zs e n ≤ b ↔ 0 ≤ b ∧ ∀ i, i < n → ∀ k, k < i → farI zs (e.getD i 0) (e.getD k 0) ≤ b := by
  induction n with
  | zero => simp [spinI]
  | succ n ih =>
    have hd : spinI zs e (n + 1) = spinK zs e n (spinI zs e n) n := rfl
    rw [hd, spinK_le, ih]
    constructor
    · rintro ⟨⟨h1, h2⟩, h3⟩
      refine ⟨h1, fun i hi k hk => ?_⟩
      by_cases c : i = n
      · subst c; exact h3 k hk
      · exact h2 i (by omega) k hk
    · rintro ⟨h1, h2⟩
      exact ⟨⟨h1, fun i hi k hk => h2 i (by omega) k hk⟩, fun k hk => h2 n (by omega) k hk⟩
theorem span_same (zs : List StarV) (e : List Int) : spanI zs e e.length = spinI zs e e.length := by
  have h : ∀ b, spanI zs e e.length ≤ b ↔ spinI zs e e.length ≤ b := by
    intro b
    rw [spanI_le, spinI_le]
    constructor
    · rintro ⟨h1, h2⟩
      exact ⟨h1, fun i hi k hk => by rw [farI_swap]; exact h2 k (by omega) i hk hi⟩
    · rintro ⟨h1, h2⟩
      exact ⟨h1, fun i hi k hk hl => by rw [farI_swap]; exact h2 k hl i hk⟩
  exact Int.le_antisymm ((h _).2 (Int.le_refl _)) ((h _).1 (Int.le_refl _))
def spanV (zs : List StarV) (s : ByteArray) (ls : List (List Int)) : Int × Int := if figV zs s ls = true then (spanI zs (endsL ls) (endsL ls).length, 0) else (0, 1)

theorem endsL_in {n : Nat} {ls : List (List Int)} (h : ∀ j, (hj : j < ls.length) → ∃ a c : Nat, ls[j] = [(a : Int), (c : Int)] ∧ a < n ∧ c < n) (x : Int) (hx : x ∈ endsL ls) : ∃ k : Nat, x = (k : Int) ∧ k < n := by
  have h1 := ((fold_sorted ls.flatten [] List.Pairwise.nil).2 x).1 hx
  rcases h1 with h1 | h1
  · cases h1
  · rw [List.mem_flatten] at h1
    obtain ⟨l, hl, hxl⟩ := h1
    obtain ⟨j, hj, rfl⟩ := List.mem_iff_getElem.1 hl
    obtain ⟨a, c, hac, la, lc⟩ := h j hj
    rw [hac] at hxl
    simp only [List.mem_cons, List.not_mem_nil, or_false] at hxl
    rcases hxl with rfl | rfl
    · exact ⟨a, rfl, la⟩
    · exact ⟨c, rfl, lc⟩
theorem endsL_len {ls : List (List Int)} (h : ∀ j, (hj : j < ls.length) → ∃ a c : Int, ls[j] = [a, c]) (hl : ls.length ≤ 16) : (endsL ls).length ≤ 32 := by
  have h1 := endsUp_len ls h ls.length (Nat.le_refl _)
  unfold endsUp at h1
  rw [List.take_length] at h1
  unfold endsL
  omega

set_option maxHeartbeats 400000 in
theorem l00MaxF_any (a b : Int) (w : World) : Calls Tryz.prog 116 #[.int .i64 a, .int .i64 b] w fun e w' => e = .returned (.int .i64 (max a b)) ∧ w = w' := by
  by_cases h : b < a
  · have e : max a b = a := by omega
    rw [e]
    clear e
    go_enter Tryz.func116, Tryz.ntmps116
    go_wp2_with fail
    go_ret
    exact ⟨rfl, rfl⟩
  · have e : max a b = b := by omega
    rw [e]
    clear e
    go_enter Tryz.func116, Tryz.ntmps116
    go_wp2_with fail
    go_ret
    exact ⟨rfl, rfl⟩

theorem fin_FigSp : True := trivial
end

section
set_option linter.unusedVariables false

def ordB (p : List Int) (n : Nat) : Bool := decide (p.length = n) && (p.all (fun x => decide (0 ≤ x ∧ x < (n : Int))) && decide (p.Nodup))
theorem ordB_iff (p : List Int) (n : Nat) : ordB p n = true ↔ p.length = n ∧ (∀ x ∈ p, 0 ≤ x ∧ x < (n : Int)) ∧ p.Nodup := by
  unfold ordB
  rw [Bool.and_eq_true, Bool.and_eq_true, List.all_eq_true, decide_eq_true_eq, decide_eq_true_eq]
  constructor
  · rintro ⟨h1, h2, h3⟩
    exact ⟨h1, fun x hx => of_decide_eq_true (h2 x hx), h3⟩
  · rintro ⟨h1, h2, h3⟩
    exact ⟨h1, fun x hx => decide_eq_true (h2 x hx), h3⟩
theorem strict_at {q : List Int} (h : ∀ i j, (hi : i < q.length) → (hj : j < q.length) → i < j → q[i] < q[j]) (h0 : ∀ x ∈ q, 0 ≤ x ∧ x < (q.length : Int)) (i : Nat) (hi : i < q.length) : q[i] = (i : Int) := by
  have lo : ∀ i, (hi : i < q.length) → (i : Int) ≤ q[i] := by
    intro i
    induction i with
    | zero => intro hi; exact (h0 _ (List.getElem_mem hi)).1
    | succ i ih =>
      intro hi
      have a := ih (by omega)
      have b := h i (i + 1) (by omega) hi (by omega)
      omega
  have up : ∀ k, (hk : k < q.length) → q[q.length - 1 - k]'(by omega) ≤ ((q.length - 1 - k : Nat) : Int) := by
    intro k
    induction k with
    | zero => intro hk; have := (h0 _ (List.getElem_mem (show q.length - 1 - 0 < q.length by omega))).2; omega
    | succ k ih =>
      intro hk
      have a := ih (by omega)
      have b := h (q.length - 1 - (k + 1)) (q.length - 1 - k) (by omega) (by omega) (by omega)
      omega
  have a := lo i hi
  have b := up (q.length - 1 - i) (by omega)
  have e : q.length - 1 - (q.length - 1 - i) = i := by omega
  simp only [e] at b
  omega
/-- A list's sorted copy counts 0, 1, 2 .. exactly when the list has each index once. -/
theorem sorted_ord (p : List Int) : (∀ i, (h : i < (p.mergeSort fun x y => decide (x ≤ y)).length) → (p.mergeSort fun x y => decide (x ≤ y))[i] = (i : Int)) ↔ ordB p p.length = true := by
  have P := List.mergeSort_perm p (fun x y => decide (x ≤ y))
  have S := List.pairwise_mergeSort (le := fun x y : Int => decide (x ≤ y)) (fun a b c h1 h2 => by simp at *; omega) (fun a b => by simp; omega) p
  rw [ordB_iff]
  generalize p.mergeSort (fun x y => decide (x ≤ y)) = q at *
  rw [← P.length_eq]
  constructor
  · intro h
    refine ⟨rfl, fun x hx => ?_, ?_⟩
    · obtain ⟨i, hi, rfl⟩ := List.getElem_of_mem (P.mem_iff.2 hx)
      rw [h i hi]
      omega
    · refine P.nodup_iff.1 (List.pairwise_iff_getElem.2 fun i j hi hj hij => ?_)
      rw [h i hi, h j hj]
      omega
  · rintro ⟨_, h1, h2⟩
    have hd := List.pairwise_iff_getElem.1 (P.nodup_iff.2 h2)
    have hs := List.pairwise_iff_getElem.1 S
    refine strict_at (fun i j hi hj hij => ?_) (fun x hx => h1 x (P.mem_iff.1 hx))
    have a := hs i j hi hj hij
    have b := hd i j hi hj hij
    simp at a
    omega
theorem ord_bad_range {p : List Int} {n : Nat} (i : Nat) (hi : i < p.length) (h : ¬ (0 ≤ p[i] ∧ p[i] < (n : Int))) : ordB p n = false := by
  cases c : ordB p n with
  | false => rfl
  | true => exact absurd (((ordB_iff p n).1 c).2.1 _ (List.getElem_mem hi)) h
theorem take_mem {p : List Int} {i : Nat} {x : Int} (h : x ∈ p.take i) : ∃ j, ∃ hj : j < p.length, j < i ∧ p[j] = x := by
  obtain ⟨j, hj, rfl⟩ := List.getElem_of_mem h
  rw [List.length_take] at hj
  exact ⟨j, by omega, by omega, by rw [List.getElem_take]⟩
theorem ord_bad_twice {p : List Int} {n : Nat} (i : Nat) (hi : i < p.length) (h : p[i] ∈ p.take i) : ordB p n = false := by
  cases c : ordB p n with
  | false => rfl
  | true =>
    obtain ⟨j, hj, hji, e⟩ := take_mem h
    exact absurd e (List.pairwise_iff_getElem.1 ((ordB_iff p n).1 c).2.2 j i hj hi hji)
theorem ord_done {p : List Int} {n : Nat} (hl : p.length = n) (h1 : ∀ j, (hj : j < p.length) → 0 ≤ p[j] ∧ p[j] < (n : Int)) (h2 : ∀ j, (hj : j < p.length) → ¬ p[j] ∈ p.take j) : ordB p n = true := by
  rw [ordB_iff]
  refine ⟨hl, fun x hx => ?_, List.pairwise_iff_getElem.2 fun i j hi hj hij e => ?_⟩
  · obtain ⟨j, hj, rfl⟩ := List.getElem_of_mem hx
    exact h1 j hj
  · refine h2 j hj ?_
    rw [← e]
    have : i < (p.take j).length := by rw [List.length_take]; omega
    have e2 : (p.take j)[i] = p[i] := by rw [List.getElem_take]
    rw [← e2]
    exact List.getElem_mem this
theorem seen_next {p : List Int} {i : Nat} (hi : i < p.length) (k : Nat) : decide ((k : Int) ∈ p.take (i + 1)) = if (k : Int) = p[i] then true else decide ((k : Int) ∈ p.take i) := by
  rw [List.take_succ_eq_append_getElem hi]
  by_cases c : (k : Int) = p[i]
  · rw [if_pos c]
    exact decide_eq_true (List.mem_append.2 (.inr (by rw [c]; exact List.mem_singleton_self _)))
  · rw [if_neg c]
    exact decide_eq_decide.2 ⟨fun h => (List.mem_append.1 h).elim id (fun h => absurd (List.mem_singleton.1 h) c), fun h => List.mem_append.2 (.inl h)⟩
theorem ord_length {p : List Int} {n : Nat} (h : ¬ p.length = n) : ordB p n = false := by
  cases c : ordB p n with
  | false => rfl
  | true => exact absurd ((ordB_iff p n).1 c).1 h
theorem fin_OrdM6 : True := trivial
end

section
open Go.RowKit
set_option linter.unusedVariables false

theorem info_bool : (Tryz.prog.info? 4).map (fun i => (i.zero, i.size, i.bytes)) = some (some (.bool false), 1, 1) := by kernel_rfl
theorem bools_make (n : Nat) (hn : n ≤ 1048577) (w : World) :
    (Instr.makeSlice 96 (.int .i64 (n : Int)) (.int .i64 (n : Int))).run Tryz.prog w = .ok (.slice (some ⟨w.heap.size, 0, none⟩) n n) (w.alloc (.cells (madeCells #[.bool false] n) 4)) := by
  obtain ⟨i, hi, hzz⟩ := Option.map_eq_some_iff.1 info_bool
  simp only [Prod.mk.injEq] at hzz
  obtain ⟨hz, hs, hb⟩ := hzz
  have hr := run_make (P := Tryz.prog) w 96 4 i _ Tryz.underlying96 hi hz .i64 .i64 (n : Int) (n : Int) (by omega) (Int.le_refl _) (by rw [hb]; omega) (by omega)
  simp only [Int.toNat_natCast, hs, Nat.mul_one] at hr
  exact hr
def Seen (w : World) (g : Nat) (p : List Int) (i : Nat) : Prop := w.rowIs g 4 p.length (fun k => .bool (decide ((k : Int) ∈ p.take i)))
theorem seen_set {w : World} {g : Nat} {p : List Int} {i m : Nat} (h : Seen w g p i) (hi : i < p.length) (hm : p[i] = (m : Int)) : Seen (w.setCell ⟨g, m, none⟩ (.bool true)) g p (i + 1) := by
  refine World.rowIs.congr (World.rowIs.set h m (.bool true)) (fun k _ => ?_)
  rw [seen_next hi k, hm]
  by_cases c : k = m
  · subst c
    rw [if_pos rfl, if_pos rfl]
  · rw [if_neg c, if_neg (by omega)]

set_option maxRecDepth 100000 in
set_option maxHeartbeats 2000000 in
theorem l08Order_any (b cap : Nat) (p : List Int) (n : Nat) (w : World) (hp : p.length ≤ 1048577) (hr : NRow w b p) :
    Calls Tryz.prog 39 #[.slice (some ⟨b, 0, none⟩) p.length cap, .int .i64 (n : Int)] w fun e w' => e = .returned (.bool (ordB p n)) ∧ Below w.heap.size w w' := by
  by_cases hl : p.length = n
  · subst hl
    have HR := Lib.hid hr
    have hmk := bools_make p.length hp
    have MADE : Hid (Seen (w.alloc (.cells (madeCells #[.bool false] p.length) 4)) w.heap.size p 0) := Lib.hid (World.rowIs.congr (World.rowIs_made w (.bool false) p.length 4) (fun k _ => by simp))
    have BR := Lib.hid (fun i hi h => ord_bad_range (p := p) (n := p.length) i hi h)
    have BT := Lib.hid (fun i hi h => ord_bad_twice (p := p) (n := p.length) i hi h)
    have DN := Lib.hid (fun h1 h2 => ord_done (p := p) rfl h1 h2)
    clear hr
    generalize ordB p p.length = r at *
    go_enter Tryz.func39, Tryz.ntmps39
    go_wp2_with fail
    clear hmk
    go_loopg [6] (p.length + 1) (fun kx s6 wr => ∃ i : Nat, s6 = .int .i64 (i : Int) ∧ i ≤ p.length ∧ kx = p.length + 1 - i ∧ Hid (Seen wr w.heap.size p i) ∧ Hid (Below w.heap.size w wr) ∧ Hid (∀ j, (hj : j < p.length) → j < i → (0 ≤ p[j] ∧ p[j] < (p.length : Int)) ∧ ¬ p[j] ∈ p.take j))
    case atStart => exact ⟨0, rfl, Nat.zero_le _, rfl, MADE, Lib.hid ((Below.refl _ w).alloc (Nat.le_refl _) _), Lib.hid (fun j _ h => absurd h (Nat.not_lt_zero _))⟩
    case round =>
      obtain ⟨i, rfl, hi, rfl, HS, HB, HP⟩ := hrel
      by_cases hlt : i < p.length
      · have c0 := (HR.out.below HB.out).at i hlt
        have IN := Lib.hid (fun w => l00In_any p[i] 0 ((p.length : Int) - 1) w)
        have i0 : (0 : Int) ≤ (i : Int) := by omega
        have i1 : (i : Int) < (p.length : Int) := by omega
        by_cases hin : 0 ≤ p[i] ∧ p[i] < (p.length : Int)
        · obtain ⟨m, hm⟩ : ∃ m : Nat, p[i] = (m : Int) := ⟨p[i].toNat, by omega⟩
          have hml : m < p.length := by omega
          rw [hm] at c0 IN
          rw [(inR_1 0 ((p.length : Int) - 1) (m : Int)).2 ⟨by omega, by omega⟩] at IN
          have sc : wr.cell? ⟨w.heap.size, m, none⟩ = some (.bool (decide ((m : Int) ∈ p.take i))) := World.rowIs.cell HS.out hml
          have fz := World.rowIs.frozen HS.out m
          have HM := Lib.hid hm
          have m0 : (0 : Int) ≤ (m : Int) := by omega
          have m1 : (m : Int) < (p.length : Int) := by omega
          clear hm hin MADE
          by_cases hs : (m : Int) ∈ p.take i
          · rw [decide_eq_true hs] at sc
            obtain rfl : r = false := BT.out i hlt (by rw [HM.out]; exact hs)
            clear hs DN BR BT HP
            go_wp2_with fail
            refine (IN.out _).mono ?_
            rintro e w' ⟨rfl, rfl⟩
            go_wp2_with fail
            go_ret
            exact ⟨rfl, HB.out⟩
          · rw [decide_eq_false hs] at sc
            have HNS := Lib.hid hs
            have hne : b ≠ w.heap.size := by have := World.block_lt_of_cell? w ⟨b, i, none⟩ (HR.out.at i hlt); exact Nat.ne_of_lt this
            have hne' : w.heap.size ≠ b := fun h => hne h.symm
            clear hs DN BR BT
            go_wp2_with fail
            refine (IN.out _).mono ?_
            rintro e w' ⟨rfl, rfl⟩
            go_wp2_with fail
            go_roundg (p.length + 1 - (i + 1))
            case measure => omega
            case rel =>
              refine ⟨i + 1, by go_num, by omega, by omega, Lib.hid (seen_set HS.out hlt HM.out), Lib.hid (HB.out.setCell (Nat.le_refl _) _), Lib.hid (fun j hj hji => ?_)⟩
              by_cases hc : j < i
              · exact HP.out j hj hc
              · obtain rfl : j = i := by omega
                rw [HM.out]
                exact ⟨⟨m0, m1⟩, HNS.out⟩
        · obtain rfl : r = false := BR.out i hlt hin
          have hf : inR 0 ((p.length : Int) - 1) [p[i]] = false := by
            cases hc : inR 0 ((p.length : Int) - 1) [p[i]] with
            | false => rfl
            | true => exact absurd ((inR_1 _ _ _).1 hc) (by omega)
          rw [hf] at IN
          clear hin hf DN BR BT HP MADE
          generalize p[i] = z at *
          go_wp2_with fail
          refine (IN.out _).mono ?_
          rintro e w' ⟨rfl, rfl⟩
          go_wp2_with fail
          go_ret
          exact ⟨rfl, HB.out⟩
      · obtain rfl : i = p.length := by omega
        obtain rfl : r = true := DN.out (fun j hj => (HP.out j hj hj).1) (fun j hj => (HP.out j hj hj).2)
        clear BR BT DN HP MADE
        go_wp2_with fail
        go_ret
        exact ⟨rfl, HB.out⟩
  · rw [ord_length hl]
    have hne : ¬ (p.length : Int) = (n : Int) := by omega
    clear hl
    go_enter Tryz.func39, Tryz.ntmps39
    go_wp2_with fail
    go_ret
    exact ⟨rfl, Below.refl _ _⟩
theorem fin_Ord : True := trivial
end

section
open Go.RowKit
set_option linter.unusedVariables false

set_option maxRecDepth 100000 in
set_option maxHeartbeats 4000000 in
theorem l08Tour_any (g cap b cap' : Nat) (zs : List StarV) (p : List Int) (w : World) (hb : zs.length ≤ 1048577) (hp : p.length ≤ 1048577) (h1 : Row w g zs) (hd : ∀ j, (h : j < zs.length) → dirB zs[j].a zs[j].b = true) (h2 : NRow w b p) (hin : ∀ x ∈ p, 0 ≤ x ∧ x < (zs.length : Int)) :
    Calls Tryz.prog 40 #[.slice (some ⟨g, 0, none⟩) zs.length cap, .slice (some ⟨b, 0, none⟩) p.length cap'] w fun e w' => e = .returned (.int .i64 (pathN zs p (p.length - 1))) ∧ Below w.heap.size w w' := by
  have H1 := Lib.hid h1
  have H2 := Lib.hid h2
  have DR := Lib.hid hd
  have IN := Lib.hid hin
  clear h1 h2 hd hin
  go_enter Tryz.func40, Tryz.ntmps40
  go_wp2_with fail
  go_loopg [5, 6] (p.length + 1) (fun kx s5 s6 wr => ∃ q : Nat, s5 = .int .i64 (pathN zs p (q - 1)) ∧ s6 = .int .i64 (q : Int) ∧ 1 ≤ q ∧ (q = 1 ∨ q ≤ p.length) ∧ kx = p.length + 2 - q ∧ Hid (Below w.heap.size w wr))
  case atStart => exact ⟨1, rfl, rfl, Nat.le_refl _, Or.inl rfl, rfl, Lib.hid (Below.refl _ _)⟩
  case round =>
    obtain ⟨q, rfl, rfl, hq1, hj, rfl, HB⟩ := hrel
    by_cases hlt : q < p.length
    · obtain ⟨j, hqj⟩ : ∃ j, q = j + 1 := ⟨q - 1, by omega⟩
      have hqs : q - 1 = j := by omega
      rw [hqs]
      have hj0 : j < p.length := by omega
      have hR := H1.out.below HB.out
      have hP := H2.out.below HB.out
      have a0 := hP.at j hj0
      have a1 := hP.at q hlt
      obtain ⟨i0, i1⟩ := IN.out p[j] (List.getElem_mem hj0)
      obtain ⟨k0, k1⟩ := IN.out p[q] (List.getElem_mem hlt)
      have PN : Hid (pathN zs p (q + 1 - 1) = pathN zs p j + farI zs p[j] p[q]) := Lib.hid (by
        rw [Nat.add_sub_cancel]
        subst hqj
        show pathN zs p j + farI zs (p.getD j 0) (p.getD (j + 1) 0) = _
        rw [List.getD, List.getD, List.getElem?_eq_getElem hj0, List.getElem?_eq_getElem hlt]
        rfl)
      have pb := pathN_bd zs p j
      generalize pathN zs p j = m at *
      generalize p[j] = i at *
      generalize p[q] = k at *
      obtain ⟨ni, rfl⟩ : ∃ n : Nat, i = (n : Int) := ⟨i.toNat, by omega⟩
      obtain ⟨nk, rfl⟩ : ∃ n : Nat, k = (n : Int) := ⟨k.toNat, by omega⟩
      have li : ni < zs.length := by omega
      have lk : nk < zs.length := by omega
      have hfI : farI zs (ni : Int) (nk : Int) = farN zs[ni] zs[nk] := by
        unfold farI
        rw [Int.toNat_natCast, Int.toNat_natCast, getD_at zs ni li, getD_at zs nk lk]
      rw [hfI] at PN
      have fb := farN_bd zs[ni] zs[nk]
      have sa := hR.at ni li
      have sb := hR.at nk lk
      have FA := Lib.hid (far_any g (ni * 5) g (nk * 5) zs[ni] zs[nk] (DR.out ni li) (DR.out nk lk) wr.drew sa.c1 sa.c2 sb.c1 sb.c2)
      clear hfI hR hP sa sb
      generalize farN zs[ni] zs[nk] = n at *
      have i2 : (ni : Int) < (zs.length : Int) := by omega
      have k2 : (nk : Int) < (zs.length : Int) := by omega
      have j0 : (0 : Int) ≤ (j : Int) := by omega
      have j2 : (j : Int) < (p.length : Int) := by omega
      have q0 : (0 : Int) ≤ (q : Int) := by omega
      have q2 : (q : Int) < (p.length : Int) := by omega
      have ek : (q : Int) - 1 = (j : Int) := by omega
      have wk : IntKind.i64.wrap (j : Int) = (j : Int) := IntWalk.i64_in _ (by omega)
      have wmn : IntKind.i64.wrap (m + n) = m + n := IntWalk.i64_in _ (by omega)
      clear hqj hqs
      have K : Hid (wr.cell? ⟨b, j, none⟩ = some (.int .i64 (ni : Int)) ∧ wr.cell? ⟨b, q, none⟩ = some (.int .i64 (nk : Int)) ∧ Below w.heap.size w wr) := Lib.hid ⟨a0, a1, HB.out⟩
      clear a0 a1 H1 H2 DR IN
      go_wp2_with fail
      go_region_held3 (fun W => W.cell? ⟨b, j, none⟩ = some (.int .i64 (ni : Int)) ∧ W.cell? ⟨b, q, none⟩ = some (.int .i64 (nk : Int)) ∧ Below w.heap.size w W) (first | (exact keepW2 K.out (drewG wr)) | (exact keepW2 K.out z1) | go_keep) ((first
        | (go_at_call 63; (with_reducible refine (FA.out).mono ?_); rintro e u1 ⟨rfl, hu1⟩; have z1 := undrewG hu1)))
      all_goals
        rename_i held
        have HH := Lib.hid held.2.2
        clear held K
        go_wp2_with fail
        go_roundg (p.length + 2 - (q + 1))
        case measure => omega
        case rel => exact ⟨q + 1, by rw [PN.out], by go_num, by omega, by omega, by omega, HH⟩
    · have hj' : q - 1 = p.length - 1 := by omega
      have jn : ¬ ((q : Int) < (p.length : Int)) := by omega
      go_wp2_with fail
      go_ret
      exact ⟨by first | rfl | rw [hj'], HB.out⟩

/-- What TourLength answers. -/
def tourV (zs : List StarV) (p : List Int) : Int × Int := if okL zs = true then (if ordB p zs.length = true then (pathN zs p (p.length - 1), 0) else (0, 2)) else (0, 1)

set_option maxRecDepth 100000 in
set_option maxHeartbeats 4000000 in
theorem specTour_any (g cap b cap' : Nat) (zs : List StarV) (p : List Int) (w : World) (hb : zs.length ≤ 1048577) (hp : p.length ≤ 1048577) (h1 : Row w g zs) (h2 : NRow w b p) :
    Calls Tryz.prog 16 #[.slice (some ⟨g, 0, none⟩) zs.length cap, .slice (some ⟨b, 0, none⟩) p.length cap'] w fun e w' => e = .returned (.tuple #[.int .i64 (tourV zs p).1, .int .i64 (tourV zs p).2]) ∧ Below w.heap.size w w' := by
  have V := Lib.hid (l05Ok_any g cap zs w hb h1)
  have O := Lib.hid (fun (W : World) (hB : Below w.heap.size w W) => l08Order_any b cap' p zs.length W hp (h2.below hB))
  have T := Lib.hid (fun (W : World) (hB : Below w.heap.size w W) hd hin => l08Tour_any g cap b cap' zs p W hb hp (h1.below hB) hd (h2.below hB) hin)
  clear h1 h2
  unfold tourV
  cases ho : okL zs with
  | false =>
    rw [if_neg (by simp)]
    rw [ho] at V
    clear ho
    go_enter Tryz.func16, Tryz.ntmps16
    go_wp2_with fail
    refine V.out.mono ?_
    rintro e w1 ⟨rfl, hb1⟩
    have HB1 := Lib.hid hb1
    clear hb1
    go_wp2_with fail
    go_ret2
    exact ⟨rfl, HB1.out⟩
  | true =>
    rw [if_pos rfl]
    rw [ho] at V
    have DR := Lib.hid (okL_dir ho)
    clear ho
    cases hr : ordB p zs.length with
    | false =>
      rw [if_neg (by simp)]
      rw [hr] at O
      clear hr
      go_enter Tryz.func16, Tryz.ntmps16
      go_wp2_with fail
      refine V.out.mono ?_
      rintro e w1 ⟨rfl, hb1⟩
      have HB1 := Lib.hid hb1
      clear hb1
      go_wp2_with fail
      refine (O.out _ HB1.out).mono ?_
      rintro e w2 ⟨rfl, hb2⟩
      have HB2 := Lib.hid (HB1.out.trans (hb2.mono HB1.out.size))
      clear hb2
      go_wp2_with fail
      go_ret2
      exact ⟨rfl, HB2.out⟩
    | true =>
      rw [if_pos rfl]
      have T' := Lib.hid (fun (W : World) (hB : Below w.heap.size w W) => T.out W hB DR.out ((ordB_iff p zs.length).1 hr).2.1)
      rw [hr] at O
      clear hr T DR
      go_enter Tryz.func16, Tryz.ntmps16
      go_wp2_with fail
      refine V.out.mono ?_
      rintro e w1 ⟨rfl, hb1⟩
      have HB1 := Lib.hid hb1
      clear hb1
      go_wp2_with fail
      refine (O.out _ HB1.out).mono ?_
      rintro e w2 ⟨rfl, hb2⟩
      have HB2 := Lib.hid (HB1.out.trans (hb2.mono HB1.out.size))
      clear hb2
      go_wp2_with fail
      refine (T'.out _ HB2.out).mono ?_
      rintro e w3 ⟨rfl, hb3⟩
      have HB3 := Lib.hid (HB2.out.trans (hb3.mono HB2.out.size))
      clear hb3
      go_wp2_with fail
      go_ret2
      exact ⟨rfl, HB3.out⟩
theorem fin_OrdT : True := trivial
end

section
open Go.RowKit Go.Shelf Go.Lib
set_option linter.unusedVariables false

attribute [local go_sem] Oper.semAt_some

set_option maxRecDepth 100000 in
set_option maxHeartbeats 2000000 in
/-- The closure of slices.Values: for every loop body that keeps what lay below n₀. -/
theorem valuesF_in (F : Fence) (n : Nat) (h7 : F.fn 111) (hro : F.round = none) (hn : 1 ≤ n) (l Bs n₀ b cap : Nat) (zs : List Int) (hz : zs.length ≤ 1048577) (hb : b < n₀) (J Jx : List Int → World → Prop)
    (hY : ∀ pre x W, J pre W → pre.length < zs.length → YieldAt F (n - 1) Tryz.prog l #[.int .i64 x] W fun e W' =>
      (e = .returned (.bool true) ∧ J (pre ++ [x]) W' ∧ Below n₀ W W') ∨ (e = .returned (.bool false) ∧ Jx (pre ++ [x]) W'))
    (W : World) (hBs : W.cell? ⟨Bs, 0, none⟩ = some (.slice (some ⟨b, 0, none⟩) zs.length cap)) (hc : NRow W b zs) (h0 : J [] W) :
    CallsIn F n Tryz.prog 111 #[.func (.yield l) #[] #[], .pointer (some ⟨Bs, 0, none⟩)] W fun e W' => (∃ v, e = .returned v) ∧
      ((∃ ys, ys = zs ∧ J ys W') ∨ (∃ pre, pre <+: zs ∧ Jx pre W')) := by
  have HC := Lib.hid hc
  clear hc
  refine callsIn_of_wp Tryz.func111 rfl h7 ?_ hro
  simp only [Tryz.ntmps111, List.size_toArray, List.length_cons, List.length_nil, Nat.reduceAdd, Nat.reduceSub, Array.replicate_succ, Array.replicate_zero, List.push_toArray, List.append_toArray, List.nil_append, List.cons_append]
  gi_wp2
  gi_loopw [7] (fun i wr => ∃ k : Nat, k ≤ zs.length ∧ i = .int .i64 (k : Int) ∧ J (zs.take k) wr ∧ Below n₀ W wr)
    (fun i _ => zs.length - (intOf i).toNat)
  case atStart => exact ⟨0, Nat.zero_le _, rfl, h0, Below.refl _ _⟩
  case round =>
    obtain ⟨k, hk, rfl, hJs, hnx⟩ := hrel
    by_cases hlt : k < zs.length
    · have hcx : wr.cell? ⟨b, k, none⟩ = some (.int .i64 zs[k]) := (hnx.cell (p := ⟨b, k, none⟩) hb).trans (HC.out.at k hlt)
      obtain ⟨fn, tmps, assign, body, hy, hR⟩ := hY (zs.take k) zs[k] wr hJs (by rw [List.length_take]; omega)
      gi_wp2
      refine hR.mono ?_
      rintro e W3 (⟨rfl, hJ3, hk3⟩ | ⟨rfl, hJx3⟩)
      · gi_wp2
        go_roundw
        case rel => exact ⟨k + 1, by omega, by simp, by rw [List.take_succ_eq_append_getElem hlt]; exact hJ3, hnx.trans hk3⟩
        case measure => simp [intOf]; omega
      · gi_wp2
        refine bodyPost_ret (results_none rfl _ _ _) rfl ?_
        exact ⟨⟨_, rfl⟩, .inr ⟨_, by rw [← List.take_succ_eq_append_getElem hlt]; exact List.take_prefix _ _, hJx3⟩⟩
    · obtain rfl : k = zs.length := by omega
      gi_wp2
      go_end0
      rw [List.take_length] at hJs
      exact ⟨⟨_, rfl⟩, .inl ⟨_, rfl, hJs⟩⟩

set_option maxHeartbeats 1000000 in
/-- slices.Values: the list is boxed, the function value has the box. -/
theorem values_in (F : Fence) (n : Nat) (h5 : F.fn 67) (hro : F.round = none) (a : Option Addr) (len cap : Nat) (w : World) :
    CallsIn F n Tryz.prog 67 #[.slice a len cap] w fun e w' => e = .returned (.func (.func 111) #[] #[.pointer (some ⟨w.heap.size, 0, none⟩)]) ∧ w' = w.alloc (.cells #[.slice a len cap] 27) := by
  refine callsIn_of_wp Tryz.func67 rfl h5 ?_ hro
  simp only [Tryz.ntmps67, List.size_toArray, List.length_cons, List.length_nil, Nat.reduceAdd, Nat.reduceSub, Array.replicate_succ, Array.replicate_zero, List.push_toArray, List.append_toArray, List.nil_append, List.cons_append]
  gi_wp2
  go_ret
  exact ⟨rfl, rfl⟩

/-- What it hands back gives all numbers in order. -/
theorem values_stops (F : Fence) (n : Nat) (h7 : F.fn 111) (hro : F.round = none) (hn : 1 ≤ n) (Bs n₀ b cap : Nat) (zs : List Int) (hz : zs.length ≤ 1048577) (w : World) (hBs : Bs < w.heap.size) (hn₀ : n₀ ≤ w.heap.size) (hb : b < n₀)
    (hc : w.cell? ⟨Bs, 0, none⟩ = some (.slice (some ⟨b, 0, none⟩) zs.length cap)) (hI : NRow w b zs) :
    SeqStopsK F n Tryz.prog 111 #[.pointer (some ⟨Bs, 0, none⟩)] (fun x : Int => #[Value.int .i64 x]) (Below n₀) (fun ys => ys = zs) (fun pre => pre <+: zs) zs.length w := fun l J Jx W hW _ _ hY h0 => by
  have hc' := (hW.cell (p := ⟨Bs, 0, none⟩) hBs).trans hc
  exact valuesF_in F n h7 hro hn l Bs n₀ b cap zs hz hb J Jx hY W hc' (hI.below hW) h0

set_option maxRecDepth 100000 in
set_option maxHeartbeats 2000000 in
/-- slices.AppendSeq to nil: a copy. -/
theorem appendSeq_in (F : Fence) (n : Nat) (h3 : F.fn 140) (h5 : F.fn 111) (hro : F.round = none) (hn : 3 ≤ n) (Bs b cap : Nat) (zs : List Int) (hz : zs.length ≤ 1048577) (w : World) (hBs : Bs < w.heap.size) (hb : b < w.heap.size)
    (hc : w.cell? ⟨Bs, 0, none⟩ = some (.slice (some ⟨b, 0, none⟩) zs.length cap)) (hI : NRow w b zs) :
    CallsIn F n Tryz.prog 140 #[.slice none 0 0, .func (.func 111) #[] #[.pointer (some ⟨Bs, 0, none⟩)]] w fun e W' => ∃ v, e = .returned v ∧ W'.ownsRow w.heap.size 2 1 v zs.length (zs.map (Value.int .i64)) ∧ Below w.heap.size w W' := by
  have h1 : 1 ≤ n := by omega
  obtain ⟨i0, hi, hz0, hz1, hz2⟩ := info_parts info_n64
  refine callsIn_of_wp_marks Tryz.func140 rfl h3 ?_ hro
  simp only [Tryz.ntmps140, List.size_toArray, List.length_cons, List.length_nil, Nat.reduceAdd, Nat.reduceSub, Array.replicate_succ, Array.replicate_zero, List.push_toArray, List.append_toArray, List.nil_append, List.cons_append]
  gi_wp2
  have bO := Boxed.new w 27 (.slice none 0 0)
  have hB0 : Below w.heap.size w (w.alloc (.cells #[.slice none 0 0] 27)) := (Below.refl _ w).alloc (Nat.le_refl _) _
  refine wpIn_rangeFunc_ownG hro h1 (gf := 111) (lb := #[.pointer (some ⟨Bs, 0, none⟩)]) rfl h5 (enters_of Tryz.func111 (by kernel_rfl) rfl)
    (values_stops F (n - 1) h5 hro (by omega) Bs w.heap.size b cap zs hz _ (by simp; omega) (by simp) hb ((hB0.cell (p := ⟨Bs, 0, none⟩) hBs).trans hc) (hI.below hB0)) belowK_t (belowK_b (by simp)) (Below.refl _ _) (fun _ => rfl)
    (fun pre W => (∃ v, Boxed W w.heap.size 27 v ∧ W.ownsRow w.heap.size 2 1 v pre.length (pre.map (Value.int .i64)) ∧ True) ∧ Below w.heap.size w W)
    (fun _ _ _ => False)
    (OwnFrom.and (Own.from (holdsRow_own w.heap.size w.heap.size 27 2 1 (fun pre : List Int => pre.length) (fun pre : List Int => pre.map (Value.int .i64)) (fun _ _ => True)) _) (ownFrom_below (Nat.le_refl _) (by simp)))
    (fun _ _ _ _ _ hs _ _ => hs)
    ⟨⟨_, bO, World.ownsRow_nil _ _ _ _, trivial⟩, hB0⟩
    (fun x => { tmps := #[.slice none 0 0, .func (.func 111) #[] #[.pointer (some ⟨Bs, 0, none⟩)], .pointer (some ⟨w.heap.size, 0, none⟩), undef, .slice none 0 0, .int .i64 x, .func (.func 111) #[] #[.pointer (some ⟨Bs, 0, none⟩)], .int .i64 x, undef, undef, undef, undef, undef], defers := [] }) ?assign ?body ?done ?stop
  case assign =>
    intro l x W K hK
    gi_wp2
    exact hK
  case body =>
    rintro l pre x W ⟨⟨v, hv, hrow, _⟩, hB⟩ hlt
    have hcv := hv.cell
    gi_wp2_with (gi_at_builtin; refine wpListIn_append_own _ rfl _ _ 27 rfl w.heap.size 2 i0 (.int .i64 0) 1 8 Tryz.underlying27 hi hz0 hz1 hz2 rfl (by decide) _ _ _ rfl (hrow.alloc _) ⟨W.heap.size, 0, none⟩ 1 1 [.int .i64 x] rfl rfl (cell_one_new _ _ _) (by simp [Value.oneCell']) (by unfold maxLen; omega) (by omega) (by have := hB.size; simp; omega) ?_; intro v' w1 hown' hgrow _; obtain ⟨g', cap', rfl⟩ := ownsRow_succ hown'; obtain ⟨hv1, hv2, hr2, hk2, hb2⟩ := hv.appended (by decide) hrow hB.size (Nat.le_refl _) hown' hgrow; have hc1 := hv1.cell; have hf1 := hv1.frozen)
    exact ⟨hk2.from _, hb2, ⟨_, hv2, by simpa using hr2, trivial⟩, hB.trans hb2⟩
  case done =>
    rintro D ys W hD rfl ⟨⟨v, hv, hrow, _⟩, hB⟩ hK
    have hcv := hv.cell
    gi_wp2
    refine ⟨by simp, .inl ⟨_, _, rfl, run_takeDeferred hK, ?_⟩⟩
    exact ⟨_, results_tmp rfl _ _ _, v, rfl, ownsRow_putObj hrow _ hK rfl, hB.trans (belowK_b (w := w) (Nat.le_refl _) W D _ _ (by simp at hD; omega) hK rfl rfl)⟩
  case stop =>
    rintro D c pre W _ _ h _
    exact h.elim

set_option maxHeartbeats 1000000 in
theorem collect_any (Bs b cap : Nat) (zs : List Int) (hz : zs.length ≤ 1048577) (w : World) (hBs : Bs < w.heap.size) (hc : w.cell? ⟨Bs, 0, none⟩ = some (.slice (some ⟨b, 0, none⟩) zs.length cap)) (hI : NRow w b zs) :
    Calls Tryz.prog 109 #[.func (.func 111) #[] #[.pointer (some ⟨Bs, 0, none⟩)]] w (OwnPost zs w) := by
  have A := Lib.hid (callsIn_wide.1 (appendSeq_in Fence.wide 3 trivial trivial rfl (Nat.le_refl _) Bs b cap zs hz w hBs (World.rowIs.lt hI) hc hI))
  clear hc hI
  go_enter Tryz.func109, Tryz.ntmps109
  go_wp2_with fail
  refine A.out.mono ?_
  rintro e w1 ⟨v1, rfl, hown1, hb1⟩
  have HO := Lib.hid hown1
  have HB := Lib.hid hb1
  clear hown1 hb1 A
  go_wp2_with fail
  go_ret
  exact ⟨_, rfl, HO.out, HB.out⟩

set_option maxHeartbeats 1000000 in
theorem sortedVals_any (Bs b cap : Nat) (zs : List Int) (hz : zs.length ≤ 1000) (w : World) (hBs : Bs < w.heap.size) (hc : w.cell? ⟨Bs, 0, none⟩ = some (.slice (some ⟨b, 0, none⟩) zs.length cap)) (hI : NRow w b zs) :
    Calls Tryz.prog 66 #[.func (.func 111) #[] #[.pointer (some ⟨Bs, 0, none⟩)]] w (OwnPost (zs.mergeSort fun x y => decide (x ≤ y)) w) := by
  have A := Lib.hid (collect_any Bs b cap zs (by omega) w hBs hc hI)
  have SL : (zs.mergeSort fun x y => decide (x ≤ y)).length = zs.length := List.length_mergeSort _
  have S1 : Hid (∀ (B : Nat) (v : Value) (w : World), w.ownsRow B 2 1 v zs.length (zs.map (Value.int .i64)) → B ≤ w.heap.size →
      Calls Tryz.prog 110 #[v] w fun e w' => e = .returned (.tuple #[]) ∧ w'.ownsRow B 2 1 v (zs.mergeSort fun x y => decide (x ≤ y)).length ((zs.mergeSort fun x y => decide (x ≤ y)).map (Value.int .i64)) ∧ Below B w w') := Lib.hid (by
    intro B v w h hB
    rw [SL]
    exact sortI_any zs hz w h hB)
  clear hc hI SL
  generalize zs.mergeSort (fun x y => decide (x ≤ y)) = q at *
  go_enter Tryz.func66, Tryz.ntmps66
  go_wp2_with fail
  refine A.out.mono ?_
  rintro e w1 ⟨v1, rfl, hown1, hb1⟩
  have HO := Lib.hid hown1
  have HB := Lib.hid hb1
  clear hown1 hb1 A
  go_wp2_with fail
  refine (S1.out _ _ _ HO.out HB.out.size).mono ?_
  rintro e w2 ⟨rfl, hown2, hb2⟩
  have HB2 := Lib.hid (HB.out.trans hb2)
  have HO2 := Lib.hid hown2
  clear hb2 hown2 S1 HO
  go_wp2_with fail
  go_ret
  exact ⟨_, rfl, HO2.out, HB2.out⟩

set_option maxRecDepth 100000 in
set_option maxHeartbeats 4000000 in
theorem isOrder_any (b cap : Nat) (p : List Int) (n : Nat) (hn : n ≤ 1000) (w : World) (hr : NRow w b p) :
    Calls Tryz.prog 42 #[.slice (some ⟨b, 0, none⟩) p.length cap, .int .i64 (n : Int)] w fun e w' => e = .returned (.bool (ordB p n)) ∧ Below w.heap.size w w' := by
  by_cases hl : p.length = n
  · subst hl
    have SL : (p.mergeSort fun x y => decide (x ≤ y)).length = p.length := List.length_mergeSort _
    have SO := sorted_ord p
    have V := Lib.hid (callsIn_wide.1 (values_in Fence.wide 3 trivial rfl (some ⟨b, 0, none⟩) p.length cap w))
    have A := Lib.hid (fun (W : World) (hB : Below w.heap.size w W) (hs : w.heap.size < W.heap.size) (hc : W.cell? ⟨w.heap.size, 0, none⟩ = some (.slice (some ⟨b, 0, none⟩) p.length cap)) => sortedVals_any w.heap.size b cap p hn W hs hc (hr.below hB))
    clear hr
    generalize p.mergeSort (fun x y => decide (x ≤ y)) = q at *
    generalize ordB p p.length = r at *
    have OT : Hid ((∀ i, (h : i < q.length) → q[i] = (i : Int)) → r = true) := Lib.hid SO.1
    have OF : Hid (∀ i, (h : i < q.length) → ¬ q[i] = (i : Int) → r = false) := Lib.hid (fun i h hne => by
      cases hr : r with
      | false => rfl
      | true => exact absurd (SO.2 hr i h) hne)
    clear SO
    go_enter Tryz.func42, Tryz.ntmps42
    go_wp2_with fail
    refine V.out.mono ?_
    rintro e w1 ⟨rfl, hw1⟩
    have hb1 : Below w.heap.size w w1 := by rw [hw1]; exact (Below.refl _ w).alloc (Nat.le_refl _) _
    have hs1 : w.heap.size < w1.heap.size := by rw [hw1]; simp
    have hc1 : w1.cell? ⟨w.heap.size, 0, none⟩ = some (.slice (some ⟨b, 0, none⟩) p.length cap) := by rw [hw1]; simp
    have A1 := Lib.hid (A.out w1 hb1 hs1 hc1)
    have HB1 := Lib.hid hb1
    clear A V hb1 hc1 hw1
    go_wp2_with fail
    refine A1.out.mono ?_
    rintro e w2 ⟨v2, rfl, hown2, hb2⟩
    obtain ⟨ea, ec, rfl, hes⟩ := own_slice hown2
    have HB2 := Lib.hid (HB1.out.trans (hb2.mono HB1.out.size))
    have ES := Lib.hid hes
    have hql : q.length ≤ 1000 := by omega
    clear hb2 hown2 hes A1
    go_wp2_with fail
    go_loopg [15] (q.length + 1) (fun kx s wr => ∃ i : Nat, s = .int .i64 (i : Int) ∧ i ≤ q.length ∧ kx = q.length + 1 - i ∧ wr = w2 ∧ Hid (∀ j, (h : j < q.length) → j < i → q[j] = (j : Int)))
    case atStart => exact ⟨0, rfl, Nat.zero_le _, rfl, rfl, Lib.hid (fun j _ h => absurd h (Nat.not_lt_zero _))⟩
    case round =>
      obtain ⟨i, rfl, hi, rfl, rfl, HP⟩ := hrel
      by_cases hlt : i < q.length
      · obtain ⟨eg, rfl, hegl, hec2⟩ : ∃ g, ea = some ⟨g, 0, none⟩ ∧ g < wr.heap.size ∧ ∀ j, (hj : j < q.length) → wr.cell? ⟨g, j, none⟩ = some (.int .i64 q[j]) := by
          rcases ES.out with h | h
          · omega
          · exact h
        have c0 := hec2 i hlt
        have i0 : (0 : Int) ≤ (i : Int) := by omega
        have i1 : (i : Int) < (q.length : Int) := by omega
        clear hec2
        by_cases hq : q[i] = (i : Int)
        · have NX : Hid (∀ j, (h : j < q.length) → j < i + 1 → q[j] = (j : Int)) := Lib.hid (fun j h hj => by
            by_cases c : j < i
            · exact HP.out j h c
            · obtain rfl : j = i := by omega
              exact hq)
          rw [hq] at c0
          clear hq
          go_wp2_with fail
          go_roundg (q.length + 1 - (i + 1))
          case measure => omega
          case rel => exact ⟨i + 1, by go_num, by omega, by omega, rfl, NX⟩
        · obtain rfl : r = false := OF.out i hlt hq
          generalize q[i] = z at *
          go_wp2_with fail
          go_ret
          exact ⟨rfl, HB2.out⟩
      · obtain rfl : i = q.length := by omega
        obtain rfl : r = true := OT.out (fun j hj => HP.out j hj hj)
        go_wp2_with fail
        go_ret
        exact ⟨rfl, HB2.out⟩
  · rw [ord_length hl]
    have hne : ¬ (p.length : Int) = (n : Int) := by omega
    clear hl
    go_enter Tryz.func42, Tryz.ntmps42
    go_wp2_with fail
    go_ret
    exact ⟨rfl, Below.refl _ _⟩
theorem fin_Vals : True := trivial
end

section
open Go.RowKit
set_option linter.unusedVariables false

set_option maxRecDepth 100000 in
set_option maxHeartbeats 4000000 in
theorem implTour_any (g cap b cap' : Nat) (zs : List StarV) (p : List Int) (w : World) (hs : SinesOK w) (hb : zs.length ≤ 1048577) (hp : p.length ≤ 1048577) (h1 : Row w g zs) (hok : ∀ j, (h : j < zs.length) → zs[j].ok) (h2 : NRow w b p) :
    Calls Tryz.prog 18 #[.slice (some ⟨g, 0, none⟩) zs.length cap, .slice (some ⟨b, 0, none⟩) p.length cap'] w fun e w' => e = .returned (.tuple #[.int .i64 (tourV zs p).1, .int .i64 (tourV zs p).2]) ∧ Below w.heap.size w w' := by
  have V := Lib.hid (validStars_any g cap zs w hb h1 hok)
  have O := Lib.hid (fun (W : World) (hB : Below w.heap.size w W) (hn : zs.length ≤ 1000) => isOrder_any b cap' p zs.length hn W (h2.below hB))
  have T := Lib.hid (fun (W : World) (hB : Below w.heap.size w W) hin => pathLength_any g cap b cap' zs p W (hs.below hB) hb hp (h1.below hB) hok (h2.below hB) hin)
  clear h1 h2 hs hok
  unfold tourV
  cases ho : okL zs with
  | false =>
    rw [if_neg (by simp)]
    rw [ho] at V
    clear ho
    go_enter Tryz.func18, Tryz.ntmps18
    go_wp2_with fail
    refine V.out.mono ?_
    rintro e w1 ⟨rfl, hb1⟩
    have HB1 := Lib.hid hb1
    clear hb1
    go_wp2_with fail
    go_ret2
    exact ⟨rfl, HB1.out⟩
  | true =>
    rw [if_pos rfl]
    rw [ho] at V
    have hz24 := okL_len ho
    have O' := Lib.hid (fun (W : World) (hB : Below w.heap.size w W) => O.out W hB (by omega))
    clear ho O
    cases hr : ordB p zs.length with
    | false =>
      rw [if_neg (by simp)]
      rw [hr] at O'
      clear hr
      go_enter Tryz.func18, Tryz.ntmps18
      go_wp2_with fail
      refine V.out.mono ?_
      rintro e w1 ⟨rfl, hb1⟩
      have HB1 := Lib.hid hb1
      clear hb1
      go_wp2_with fail
      refine (O'.out _ HB1.out).mono ?_
      rintro e w2 ⟨rfl, hb2⟩
      have HB2 := Lib.hid (HB1.out.trans (hb2.mono HB1.out.size))
      clear hb2
      go_wp2_with fail
      go_ret2
      exact ⟨rfl, HB2.out⟩
    | true =>
      rw [if_pos rfl]
      have T' := Lib.hid (fun (W : World) (hB : Below w.heap.size w W) => T.out W hB ((ordB_iff p zs.length).1 hr).2.1)
      rw [hr] at O'
      clear hr T
      go_enter Tryz.func18, Tryz.ntmps18
      go_wp2_with fail
      refine V.out.mono ?_
      rintro e w1 ⟨rfl, hb1⟩
      have HB1 := Lib.hid hb1
      clear hb1
      go_wp2_with fail
      refine (O'.out _ HB1.out).mono ?_
      rintro e w2 ⟨rfl, hb2⟩
      have HB2 := Lib.hid (HB1.out.trans (hb2.mono HB1.out.size))
      clear hb2
      go_wp2_with fail
      refine (T'.out _ HB2.out).mono ?_
      rintro e w3 ⟨rfl, hb3⟩
      have HB3 := Lib.hid (HB2.out.trans (hb3.mono HB2.out.size))
      clear hb3
      go_wp2_with fail
      go_ret2
      exact ⟨rfl, HB3.out⟩
theorem fin_TourI : True := trivial
end
end Go.Proofs.YtjghopepgfgebaaGreatDoor
