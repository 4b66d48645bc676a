/-
  Cells that stay: n cells and what lies below them.
  Figures as arguments: what a list of lists of numbers and a figure read as; a row of rows of one's own.
  Figures: the contracts of szFigure, toFigure, eqFigure and of their parts (package laws).
  Lines of figures: the contracts of isIndex, isValidFor with its closure, slices.Compare, isIncreasing (package impl).
  Valid figures: the contracts of ValidFigure (packages impl and spec), l08Ok, l08Lines (package spec).
  The stars of a figure: lists without repetitions in increasing order; the contracts of l00Put, l08Stars (package spec).
  The law's own helpers on stars and numbers: eqInt64S at equal lists, markInt64S, heldInt64S, markText, markStarS.
  The law's marks on a figure: markInt64S, markInt64SS, markFigure at the rows of a copy.
-/
import Derived.Test.YtjghopepgfgebaaGreatDoorVec0
import Derived.Test.YtjghopepgfgebaaGreatDoorStar0
import Derived.Deep.OwnRows
import Derived.OpenShut
import Derived.ChangeSlices
import Derived.Deep.LoopGhost
import Derived.WideMake
import Derived.Deep.RegionHeld3
import Derived.Deep.QuietTactic
import Derived.BigQuiet
import Derived.Deep.Draws
import Derived.Test.YtjghopepgfgebaaGreatDoorStar1
import Derived.Test.YtjghopepgfgebaaGreatDoorStarI
import Derived.Lib.SlicesCompact
import Derived.Test.YtjghopepgfgebaaGreatDoorStarL
import Derived.Lib.ItoaNum
namespace Go.Proofs.YtjghopepgfgebaaGreatDoor
section
open Go.RowKit
set_option linter.unusedVariables false

theorem undrewG {W u : World} (h : Below W.drew.heap.size W.drew u) : Below W.heap.size W u := ⟨h.os, h.tape, h.output, h.size, h.block⟩
theorem drewG (W : World) : Below W.heap.size W W.drew := ⟨rfl, rfl, rfl, Nat.le_refl _, fun _ _ => rfl⟩
theorem keepG1 {w W W' : World} {B b0 o0 : Nat} {v0 : Value} (h : W.cell? ⟨b0, o0, none⟩ = some v0 ∧ Below B w W) (hB : B ≤ W.heap.size) (hb : Below W.heap.size W W') :
    W'.cell? ⟨b0, o0, none⟩ = some v0 ∧ Below B w W' := by
  obtain ⟨h0, hw⟩ := h
  obtain ⟨c, _⟩ := bcell hb
  exact ⟨(c _ _ (World.block_lt_of_cell? W ⟨b0, o0, none⟩ h0)).trans h0, hw.trans (hb.mono hB)⟩
theorem keepW1 {w W W' : World} {b0 o0 : Nat} {v0 : Value} (h : W.cell? ⟨b0, o0, none⟩ = some v0 ∧ Below w.heap.size w W) (hb : Below W.heap.size W W') :
    W'.cell? ⟨b0, o0, none⟩ = some v0 ∧ Below w.heap.size w W' := keepG1 h (h.2).size hb
theorem keepG2 {w W W' : World} {B b0 o0 b1 o1 : Nat} {v0 v1 : Value} (h : W.cell? ⟨b0, o0, none⟩ = some v0 ∧ W.cell? ⟨b1, o1, none⟩ = some v1 ∧ Below B w W) (hB : B ≤ W.heap.size) (hb : Below W.heap.size W W') :
    W'.cell? ⟨b0, o0, none⟩ = some v0 ∧ W'.cell? ⟨b1, o1, none⟩ = some v1 ∧ Below B w W' := by
  obtain ⟨h0, h1, hw⟩ := h
  obtain ⟨c, _⟩ := bcell hb
  exact ⟨(c _ _ (World.block_lt_of_cell? W ⟨b0, o0, none⟩ h0)).trans h0, (c _ _ (World.block_lt_of_cell? W ⟨b1, o1, none⟩ h1)).trans h1, hw.trans (hb.mono hB)⟩
theorem keepW2 {w W W' : World} {b0 o0 b1 o1 : Nat} {v0 v1 : Value} (h : W.cell? ⟨b0, o0, none⟩ = some v0 ∧ W.cell? ⟨b1, o1, none⟩ = some v1 ∧ Below w.heap.size w W) (hb : Below W.heap.size W W') :
    W'.cell? ⟨b0, o0, none⟩ = some v0 ∧ W'.cell? ⟨b1, o1, none⟩ = some v1 ∧ Below w.heap.size w W' := keepG2 h (h.2.2).size hb
theorem keepG3 {w W W' : World} {B b0 o0 b1 o1 b2 o2 : Nat} {v0 v1 v2 : Value} (h : W.cell? ⟨b0, o0, none⟩ = some v0 ∧ W.cell? ⟨b1, o1, none⟩ = some v1 ∧ W.cell? ⟨b2, o2, none⟩ = some v2 ∧ Below B w W) (hB : B ≤ W.heap.size) (hb : Below W.heap.size W W') :
    W'.cell? ⟨b0, o0, none⟩ = some v0 ∧ W'.cell? ⟨b1, o1, none⟩ = some v1 ∧ W'.cell? ⟨b2, o2, none⟩ = some v2 ∧ Below B w W' := by
  obtain ⟨h0, h1, h2, hw⟩ := h
  obtain ⟨c, _⟩ := bcell hb
  exact ⟨(c _ _ (World.block_lt_of_cell? W ⟨b0, o0, none⟩ h0)).trans h0, (c _ _ (World.block_lt_of_cell? W ⟨b1, o1, none⟩ h1)).trans h1, (c _ _ (World.block_lt_of_cell? W ⟨b2, o2, none⟩ h2)).trans h2, hw.trans (hb.mono hB)⟩
theorem keepW3 {w W W' : World} {b0 o0 b1 o1 b2 o2 : Nat} {v0 v1 v2 : Value} (h : W.cell? ⟨b0, o0, none⟩ = some v0 ∧ W.cell? ⟨b1, o1, none⟩ = some v1 ∧ W.cell? ⟨b2, o2, none⟩ = some v2 ∧ Below w.heap.size w W) (hb : Below W.heap.size W W') :
    W'.cell? ⟨b0, o0, none⟩ = some v0 ∧ W'.cell? ⟨b1, o1, none⟩ = some v1 ∧ W'.cell? ⟨b2, o2, none⟩ = some v2 ∧ Below w.heap.size w W' := keepG3 h (h.2.2.2).size hb
theorem keepG4 {w W W' : World} {B b0 o0 b1 o1 b2 o2 b3 o3 : Nat} {v0 v1 v2 v3 : Value} (h : W.cell? ⟨b0, o0, none⟩ = some v0 ∧ W.cell? ⟨b1, o1, none⟩ = some v1 ∧ W.cell? ⟨b2, o2, none⟩ = some v2 ∧ W.cell? ⟨b3, o3, none⟩ = some v3 ∧ Below B w W) (hB : B ≤ W.heap.size) (hb : Below W.heap.size W W') :
    W'.cell? ⟨b0, o0, none⟩ = some v0 ∧ W'.cell? ⟨b1, o1, none⟩ = some v1 ∧ W'.cell? ⟨b2, o2, none⟩ = some v2 ∧ W'.cell? ⟨b3, o3, none⟩ = some v3 ∧ Below B w W' := by
  obtain ⟨h0, h1, h2, h3, hw⟩ := h
  obtain ⟨c, _⟩ := bcell hb
  exact ⟨(c _ _ (World.block_lt_of_cell? W ⟨b0, o0, none⟩ h0)).trans h0, (c _ _ (World.block_lt_of_cell? W ⟨b1, o1, none⟩ h1)).trans h1, (c _ _ (World.block_lt_of_cell? W ⟨b2, o2, none⟩ h2)).trans h2, (c _ _ (World.block_lt_of_cell? W ⟨b3, o3, none⟩ h3)).trans h3, hw.trans (hb.mono hB)⟩
theorem keepW4 {w W W' : World} {b0 o0 b1 o1 b2 o2 b3 o3 : Nat} {v0 v1 v2 v3 : Value} (h : W.cell? ⟨b0, o0, none⟩ = some v0 ∧ W.cell? ⟨b1, o1, none⟩ = some v1 ∧ W.cell? ⟨b2, o2, none⟩ = some v2 ∧ W.cell? ⟨b3, o3, none⟩ = some v3 ∧ Below w.heap.size w W) (hb : Below W.heap.size W W') :
    W'.cell? ⟨b0, o0, none⟩ = some v0 ∧ W'.cell? ⟨b1, o1, none⟩ = some v1 ∧ W'.cell? ⟨b2, o2, none⟩ = some v2 ∧ W'.cell? ⟨b3, o3, none⟩ = some v3 ∧ Below w.heap.size w W' := keepG4 h (h.2.2.2.2).size hb
theorem keepG5 {w W W' : World} {B b0 o0 b1 o1 b2 o2 b3 o3 b4 o4 : Nat} {v0 v1 v2 v3 v4 : Value} (h : W.cell? ⟨b0, o0, none⟩ = some v0 ∧ W.cell? ⟨b1, o1, none⟩ = some v1 ∧ W.cell? ⟨b2, o2, none⟩ = some v2 ∧ W.cell? ⟨b3, o3, none⟩ = some v3 ∧ W.cell? ⟨b4, o4, none⟩ = some v4 ∧ Below B w W) (hB : B ≤ W.heap.size) (hb : Below W.heap.size W W') :
    W'.cell? ⟨b0, o0, none⟩ = some v0 ∧ W'.cell? ⟨b1, o1, none⟩ = some v1 ∧ W'.cell? ⟨b2, o2, none⟩ = some v2 ∧ W'.cell? ⟨b3, o3, none⟩ = some v3 ∧ W'.cell? ⟨b4, o4, none⟩ = some v4 ∧ Below B w W' := by
  obtain ⟨h0, h1, h2, h3, h4, hw⟩ := h
  obtain ⟨c, _⟩ := bcell hb
  exact ⟨(c _ _ (World.block_lt_of_cell? W ⟨b0, o0, none⟩ h0)).trans h0, (c _ _ (World.block_lt_of_cell? W ⟨b1, o1, none⟩ h1)).trans h1, (c _ _ (World.block_lt_of_cell? W ⟨b2, o2, none⟩ h2)).trans h2, (c _ _ (World.block_lt_of_cell? W ⟨b3, o3, none⟩ h3)).trans h3, (c _ _ (World.block_lt_of_cell? W ⟨b4, o4, none⟩ h4)).trans h4, hw.trans (hb.mono hB)⟩
theorem keepW5 {w W W' : World} {b0 o0 b1 o1 b2 o2 b3 o3 b4 o4 : Nat} {v0 v1 v2 v3 v4 : Value} (h : W.cell? ⟨b0, o0, none⟩ = some v0 ∧ W.cell? ⟨b1, o1, none⟩ = some v1 ∧ W.cell? ⟨b2, o2, none⟩ = some v2 ∧ W.cell? ⟨b3, o3, none⟩ = some v3 ∧ W.cell? ⟨b4, o4, none⟩ = some v4 ∧ Below w.heap.size w W) (hb : Below W.heap.size W W') :
    W'.cell? ⟨b0, o0, none⟩ = some v0 ∧ W'.cell? ⟨b1, o1, none⟩ = some v1 ∧ W'.cell? ⟨b2, o2, none⟩ = some v2 ∧ W'.cell? ⟨b3, o3, none⟩ = some v3 ∧ W'.cell? ⟨b4, o4, none⟩ = some v4 ∧ Below w.heap.size w W' := keepG5 h (h.2.2.2.2.2).size hb
theorem keepG6 {w W W' : World} {B b0 o0 b1 o1 b2 o2 b3 o3 b4 o4 b5 o5 : Nat} {v0 v1 v2 v3 v4 v5 : Value} (h : W.cell? ⟨b0, o0, none⟩ = some v0 ∧ W.cell? ⟨b1, o1, none⟩ = some v1 ∧ W.cell? ⟨b2, o2, none⟩ = some v2 ∧ W.cell? ⟨b3, o3, none⟩ = some v3 ∧ W.cell? ⟨b4, o4, none⟩ = some v4 ∧ W.cell? ⟨b5, o5, none⟩ = some v5 ∧ Below B w W) (hB : B ≤ W.heap.size) (hb : Below W.heap.size W W') :
    W'.cell? ⟨b0, o0, none⟩ = some v0 ∧ W'.cell? ⟨b1, o1, none⟩ = some v1 ∧ W'.cell? ⟨b2, o2, none⟩ = some v2 ∧ W'.cell? ⟨b3, o3, none⟩ = some v3 ∧ W'.cell? ⟨b4, o4, none⟩ = some v4 ∧ W'.cell? ⟨b5, o5, none⟩ = some v5 ∧ Below B w W' := by
  obtain ⟨h0, h1, h2, h3, h4, h5, hw⟩ := h
  obtain ⟨c, _⟩ := bcell hb
  exact ⟨(c _ _ (World.block_lt_of_cell? W ⟨b0, o0, none⟩ h0)).trans h0, (c _ _ (World.block_lt_of_cell? W ⟨b1, o1, none⟩ h1)).trans h1, (c _ _ (World.block_lt_of_cell? W ⟨b2, o2, none⟩ h2)).trans h2, (c _ _ (World.block_lt_of_cell? W ⟨b3, o3, none⟩ h3)).trans h3, (c _ _ (World.block_lt_of_cell? W ⟨b4, o4, none⟩ h4)).trans h4, (c _ _ (World.block_lt_of_cell? W ⟨b5, o5, none⟩ h5)).trans h5, hw.trans (hb.mono hB)⟩
theorem keepW6 {w W W' : World} {b0 o0 b1 o1 b2 o2 b3 o3 b4 o4 b5 o5 : Nat} {v0 v1 v2 v3 v4 v5 : Value} (h : W.cell? ⟨b0, o0, none⟩ = some v0 ∧ W.cell? ⟨b1, o1, none⟩ = some v1 ∧ W.cell? ⟨b2, o2, none⟩ = some v2 ∧ W.cell? ⟨b3, o3, none⟩ = some v3 ∧ W.cell? ⟨b4, o4, none⟩ = some v4 ∧ W.cell? ⟨b5, o5, none⟩ = some v5 ∧ Below w.heap.size w W) (hb : Below W.heap.size W W') :
    W'.cell? ⟨b0, o0, none⟩ = some v0 ∧ W'.cell? ⟨b1, o1, none⟩ = some v1 ∧ W'.cell? ⟨b2, o2, none⟩ = some v2 ∧ W'.cell? ⟨b3, o3, none⟩ = some v3 ∧ W'.cell? ⟨b4, o4, none⟩ = some v4 ∧ W'.cell? ⟨b5, o5, none⟩ = some v5 ∧ Below w.heap.size w W' := keepG6 h (h.2.2.2.2.2.2).size hb
theorem keepG7 {w W W' : World} {B b0 o0 b1 o1 b2 o2 b3 o3 b4 o4 b5 o5 b6 o6 : Nat} {v0 v1 v2 v3 v4 v5 v6 : Value} (h : W.cell? ⟨b0, o0, none⟩ = some v0 ∧ W.cell? ⟨b1, o1, none⟩ = some v1 ∧ W.cell? ⟨b2, o2, none⟩ = some v2 ∧ W.cell? ⟨b3, o3, none⟩ = some v3 ∧ W.cell? ⟨b4, o4, none⟩ = some v4 ∧ W.cell? ⟨b5, o5, none⟩ = some v5 ∧ W.cell? ⟨b6, o6, none⟩ = some v6 ∧ Below B w W) (hB : B ≤ W.heap.size) (hb : Below W.heap.size W W') :
    W'.cell? ⟨b0, o0, none⟩ = some v0 ∧ W'.cell? ⟨b1, o1, none⟩ = some v1 ∧ W'.cell? ⟨b2, o2, none⟩ = some v2 ∧ W'.cell? ⟨b3, o3, none⟩ = some v3 ∧ W'.cell? ⟨b4, o4, none⟩ = some v4 ∧ W'.cell? ⟨b5, o5, none⟩ = some v5 ∧ W'.cell? ⟨b6, o6, none⟩ = some v6 ∧ Below B w W' := by
  obtain ⟨h0, h1, h2, h3, h4, h5, h6, hw⟩ := h
  obtain ⟨c, _⟩ := bcell hb
  exact ⟨(c _ _ (World.block_lt_of_cell? W ⟨b0, o0, none⟩ h0)).trans h0, (c _ _ (World.block_lt_of_cell? W ⟨b1, o1, none⟩ h1)).trans h1, (c _ _ (World.block_lt_of_cell? W ⟨b2, o2, none⟩ h2)).trans h2, (c _ _ (World.block_lt_of_cell? W ⟨b3, o3, none⟩ h3)).trans h3, (c _ _ (World.block_lt_of_cell? W ⟨b4, o4, none⟩ h4)).trans h4, (c _ _ (World.block_lt_of_cell? W ⟨b5, o5, none⟩ h5)).trans h5, (c _ _ (World.block_lt_of_cell? W ⟨b6, o6, none⟩ h6)).trans h6, hw.trans (hb.mono hB)⟩
theorem keepW7 {w W W' : World} {b0 o0 b1 o1 b2 o2 b3 o3 b4 o4 b5 o5 b6 o6 : Nat} {v0 v1 v2 v3 v4 v5 v6 : Value} (h : W.cell? ⟨b0, o0, none⟩ = some v0 ∧ W.cell? ⟨b1, o1, none⟩ = some v1 ∧ W.cell? ⟨b2, o2, none⟩ = some v2 ∧ W.cell? ⟨b3, o3, none⟩ = some v3 ∧ W.cell? ⟨b4, o4, none⟩ = some v4 ∧ W.cell? ⟨b5, o5, none⟩ = some v5 ∧ W.cell? ⟨b6, o6, none⟩ = some v6 ∧ Below w.heap.size w W) (hb : Below W.heap.size W W') :
    W'.cell? ⟨b0, o0, none⟩ = some v0 ∧ W'.cell? ⟨b1, o1, none⟩ = some v1 ∧ W'.cell? ⟨b2, o2, none⟩ = some v2 ∧ W'.cell? ⟨b3, o3, none⟩ = some v3 ∧ W'.cell? ⟨b4, o4, none⟩ = some v4 ∧ W'.cell? ⟨b5, o5, none⟩ = some v5 ∧ W'.cell? ⟨b6, o6, none⟩ = some v6 ∧ Below w.heap.size w W' := keepG7 h (h.2.2.2.2.2.2.2).size hb
theorem keepG8 {w W W' : World} {B b0 o0 b1 o1 b2 o2 b3 o3 b4 o4 b5 o5 b6 o6 b7 o7 : Nat} {v0 v1 v2 v3 v4 v5 v6 v7 : Value} (h : W.cell? ⟨b0, o0, none⟩ = some v0 ∧ W.cell? ⟨b1, o1, none⟩ = some v1 ∧ W.cell? ⟨b2, o2, none⟩ = some v2 ∧ W.cell? ⟨b3, o3, none⟩ = some v3 ∧ W.cell? ⟨b4, o4, none⟩ = some v4 ∧ W.cell? ⟨b5, o5, none⟩ = some v5 ∧ W.cell? ⟨b6, o6, none⟩ = some v6 ∧ W.cell? ⟨b7, o7, none⟩ = some v7 ∧ Below B w W) (hB : B ≤ W.heap.size) (hb : Below W.heap.size W W') :
    W'.cell? ⟨b0, o0, none⟩ = some v0 ∧ W'.cell? ⟨b1, o1, none⟩ = some v1 ∧ W'.cell? ⟨b2, o2, none⟩ = some v2 ∧ W'.cell? ⟨b3, o3, none⟩ = some v3 ∧ W'.cell? ⟨b4, o4, none⟩ = some v4 ∧ W'.cell? ⟨b5, o5, none⟩ = some v5 ∧ W'.cell? ⟨b6, o6, none⟩ = some v6 ∧ W'.cell? ⟨b7, o7, none⟩ = some v7 ∧ Below B w W' := by
  obtain ⟨h0, h1, h2, h3, h4, h5, h6, h7, hw⟩ := h
  obtain ⟨c, _⟩ := bcell hb
  exact ⟨(c _ _ (World.block_lt_of_cell? W ⟨b0, o0, none⟩ h0)).trans h0, (c _ _ (World.block_lt_of_cell? W ⟨b1, o1, none⟩ h1)).trans h1, (c _ _ (World.block_lt_of_cell? W ⟨b2, o2, none⟩ h2)).trans h2, (c _ _ (World.block_lt_of_cell? W ⟨b3, o3, none⟩ h3)).trans h3, (c _ _ (World.block_lt_of_cell? W ⟨b4, o4, none⟩ h4)).trans h4, (c _ _ (World.block_lt_of_cell? W ⟨b5, o5, none⟩ h5)).trans h5, (c _ _ (World.block_lt_of_cell? W ⟨b6, o6, none⟩ h6)).trans h6, (c _ _ (World.block_lt_of_cell? W ⟨b7, o7, none⟩ h7)).trans h7, hw.trans (hb.mono hB)⟩
theorem keepW8 {w W W' : World} {b0 o0 b1 o1 b2 o2 b3 o3 b4 o4 b5 o5 b6 o6 b7 o7 : Nat} {v0 v1 v2 v3 v4 v5 v6 v7 : Value} (h : W.cell? ⟨b0, o0, none⟩ = some v0 ∧ W.cell? ⟨b1, o1, none⟩ = some v1 ∧ W.cell? ⟨b2, o2, none⟩ = some v2 ∧ W.cell? ⟨b3, o3, none⟩ = some v3 ∧ W.cell? ⟨b4, o4, none⟩ = some v4 ∧ W.cell? ⟨b5, o5, none⟩ = some v5 ∧ W.cell? ⟨b6, o6, none⟩ = some v6 ∧ W.cell? ⟨b7, o7, none⟩ = some v7 ∧ Below w.heap.size w W) (hb : Below W.heap.size W W') :
    W'.cell? ⟨b0, o0, none⟩ = some v0 ∧ W'.cell? ⟨b1, o1, none⟩ = some v1 ∧ W'.cell? ⟨b2, o2, none⟩ = some v2 ∧ W'.cell? ⟨b3, o3, none⟩ = some v3 ∧ W'.cell? ⟨b4, o4, none⟩ = some v4 ∧ W'.cell? ⟨b5, o5, none⟩ = some v5 ∧ W'.cell? ⟨b6, o6, none⟩ = some v6 ∧ W'.cell? ⟨b7, o7, none⟩ = some v7 ∧ Below w.heap.size w W' := keepG8 h (h.2.2.2.2.2.2.2.2).size hb
theorem keepG9 {w W W' : World} {B b0 o0 b1 o1 b2 o2 b3 o3 b4 o4 b5 o5 b6 o6 b7 o7 b8 o8 : Nat} {v0 v1 v2 v3 v4 v5 v6 v7 v8 : Value} (h : W.cell? ⟨b0, o0, none⟩ = some v0 ∧ W.cell? ⟨b1, o1, none⟩ = some v1 ∧ W.cell? ⟨b2, o2, none⟩ = some v2 ∧ W.cell? ⟨b3, o3, none⟩ = some v3 ∧ W.cell? ⟨b4, o4, none⟩ = some v4 ∧ W.cell? ⟨b5, o5, none⟩ = some v5 ∧ W.cell? ⟨b6, o6, none⟩ = some v6 ∧ W.cell? ⟨b7, o7, none⟩ = some v7 ∧ W.cell? ⟨b8, o8, none⟩ = some v8 ∧ Below B w W) (hB : B ≤ W.heap.size) (hb : Below W.heap.size W W') :
    W'.cell? ⟨b0, o0, none⟩ = some v0 ∧ W'.cell? ⟨b1, o1, none⟩ = some v1 ∧ W'.cell? ⟨b2, o2, none⟩ = some v2 ∧ W'.cell? ⟨b3, o3, none⟩ = some v3 ∧ W'.cell? ⟨b4, o4, none⟩ = some v4 ∧ W'.cell? ⟨b5, o5, none⟩ = some v5 ∧ W'.cell? ⟨b6, o6, none⟩ = some v6 ∧ W'.cell? ⟨b7, o7, none⟩ = some v7 ∧ W'.cell? ⟨b8, o8, none⟩ = some v8 ∧ Below B w W' := by
  obtain ⟨h0, h1, h2, h3, h4, h5, h6, h7, h8, hw⟩ := h
  obtain ⟨c, _⟩ := bcell hb
  exact ⟨(c _ _ (World.block_lt_of_cell? W ⟨b0, o0, none⟩ h0)).trans h0, (c _ _ (World.block_lt_of_cell? W ⟨b1, o1, none⟩ h1)).trans h1, (c _ _ (World.block_lt_of_cell? W ⟨b2, o2, none⟩ h2)).trans h2, (c _ _ (World.block_lt_of_cell? W ⟨b3, o3, none⟩ h3)).trans h3, (c _ _ (World.block_lt_of_cell? W ⟨b4, o4, none⟩ h4)).trans h4, (c _ _ (World.block_lt_of_cell? W ⟨b5, o5, none⟩ h5)).trans h5, (c _ _ (World.block_lt_of_cell? W ⟨b6, o6, none⟩ h6)).trans h6, (c _ _ (World.block_lt_of_cell? W ⟨b7, o7, none⟩ h7)).trans h7, (c _ _ (World.block_lt_of_cell? W ⟨b8, o8, none⟩ h8)).trans h8, hw.trans (hb.mono hB)⟩
theorem keepW9 {w W W' : World} {b0 o0 b1 o1 b2 o2 b3 o3 b4 o4 b5 o5 b6 o6 b7 o7 b8 o8 : Nat} {v0 v1 v2 v3 v4 v5 v6 v7 v8 : Value} (h : W.cell? ⟨b0, o0, none⟩ = some v0 ∧ W.cell? ⟨b1, o1, none⟩ = some v1 ∧ W.cell? ⟨b2, o2, none⟩ = some v2 ∧ W.cell? ⟨b3, o3, none⟩ = some v3 ∧ W.cell? ⟨b4, o4, none⟩ = some v4 ∧ W.cell? ⟨b5, o5, none⟩ = some v5 ∧ W.cell? ⟨b6, o6, none⟩ = some v6 ∧ W.cell? ⟨b7, o7, none⟩ = some v7 ∧ W.cell? ⟨b8, o8, none⟩ = some v8 ∧ Below w.heap.size w W) (hb : Below W.heap.size W W') :
    W'.cell? ⟨b0, o0, none⟩ = some v0 ∧ W'.cell? ⟨b1, o1, none⟩ = some v1 ∧ W'.cell? ⟨b2, o2, none⟩ = some v2 ∧ W'.cell? ⟨b3, o3, none⟩ = some v3 ∧ W'.cell? ⟨b4, o4, none⟩ = some v4 ∧ W'.cell? ⟨b5, o5, none⟩ = some v5 ∧ W'.cell? ⟨b6, o6, none⟩ = some v6 ∧ W'.cell? ⟨b7, o7, none⟩ = some v7 ∧ W'.cell? ⟨b8, o8, none⟩ = some v8 ∧ Below w.heap.size w W' := keepG9 h (h.2.2.2.2.2.2.2.2.2).size hb
theorem keepG10 {w W W' : World} {B b0 o0 b1 o1 b2 o2 b3 o3 b4 o4 b5 o5 b6 o6 b7 o7 b8 o8 b9 o9 : Nat} {v0 v1 v2 v3 v4 v5 v6 v7 v8 v9 : Value} (h : W.cell? ⟨b0, o0, none⟩ = some v0 ∧ W.cell? ⟨b1, o1, none⟩ = some v1 ∧ W.cell? ⟨b2, o2, none⟩ = some v2 ∧ W.cell? ⟨b3, o3, none⟩ = some v3 ∧ W.cell? ⟨b4, o4, none⟩ = some v4 ∧ W.cell? ⟨b5, o5, none⟩ = some v5 ∧ W.cell? ⟨b6, o6, none⟩ = some v6 ∧ W.cell? ⟨b7, o7, none⟩ = some v7 ∧ W.cell? ⟨b8, o8, none⟩ = some v8 ∧ W.cell? ⟨b9, o9, none⟩ = some v9 ∧ Below B w W) (hB : B ≤ W.heap.size) (hb : Below W.heap.size W W') :
    W'.cell? ⟨b0, o0, none⟩ = some v0 ∧ W'.cell? ⟨b1, o1, none⟩ = some v1 ∧ W'.cell? ⟨b2, o2, none⟩ = some v2 ∧ W'.cell? ⟨b3, o3, none⟩ = some v3 ∧ W'.cell? ⟨b4, o4, none⟩ = some v4 ∧ W'.cell? ⟨b5, o5, none⟩ = some v5 ∧ W'.cell? ⟨b6, o6, none⟩ = some v6 ∧ W'.cell? ⟨b7, o7, none⟩ = some v7 ∧ W'.cell? ⟨b8, o8, none⟩ = some v8 ∧ W'.cell? ⟨b9, o9, none⟩ = some v9 ∧ Below B w W' := by
  obtain ⟨h0, h1, h2, h3, h4, h5, h6, h7, h8, h9, hw⟩ := h
  obtain ⟨c, _⟩ := bcell hb
  exact ⟨(c _ _ (World.block_lt_of_cell? W ⟨b0, o0, none⟩ h0)).trans h0, (c _ _ (World.block_lt_of_cell? W ⟨b1, o1, none⟩ h1)).trans h1, (c _ _ (World.block_lt_of_cell? W ⟨b2, o2, none⟩ h2)).trans h2, (c _ _ (World.block_lt_of_cell? W ⟨b3, o3, none⟩ h3)).trans h3, (c _ _ (World.block_lt_of_cell? W ⟨b4, o4, none⟩ h4)).trans h4, (c _ _ (World.block_lt_of_cell? W ⟨b5, o5, none⟩ h5)).trans h5, (c _ _ (World.block_lt_of_cell? W ⟨b6, o6, none⟩ h6)).trans h6, (c _ _ (World.block_lt_of_cell? W ⟨b7, o7, none⟩ h7)).trans h7, (c _ _ (World.block_lt_of_cell? W ⟨b8, o8, none⟩ h8)).trans h8, (c _ _ (World.block_lt_of_cell? W ⟨b9, o9, none⟩ h9)).trans h9, hw.trans (hb.mono hB)⟩
theorem keepW10 {w W W' : World} {b0 o0 b1 o1 b2 o2 b3 o3 b4 o4 b5 o5 b6 o6 b7 o7 b8 o8 b9 o9 : Nat} {v0 v1 v2 v3 v4 v5 v6 v7 v8 v9 : Value} (h : W.cell? ⟨b0, o0, none⟩ = some v0 ∧ W.cell? ⟨b1, o1, none⟩ = some v1 ∧ W.cell? ⟨b2, o2, none⟩ = some v2 ∧ W.cell? ⟨b3, o3, none⟩ = some v3 ∧ W.cell? ⟨b4, o4, none⟩ = some v4 ∧ W.cell? ⟨b5, o5, none⟩ = some v5 ∧ W.cell? ⟨b6, o6, none⟩ = some v6 ∧ W.cell? ⟨b7, o7, none⟩ = some v7 ∧ W.cell? ⟨b8, o8, none⟩ = some v8 ∧ W.cell? ⟨b9, o9, none⟩ = some v9 ∧ Below w.heap.size w W) (hb : Below W.heap.size W W') :
    W'.cell? ⟨b0, o0, none⟩ = some v0 ∧ W'.cell? ⟨b1, o1, none⟩ = some v1 ∧ W'.cell? ⟨b2, o2, none⟩ = some v2 ∧ W'.cell? ⟨b3, o3, none⟩ = some v3 ∧ W'.cell? ⟨b4, o4, none⟩ = some v4 ∧ W'.cell? ⟨b5, o5, none⟩ = some v5 ∧ W'.cell? ⟨b6, o6, none⟩ = some v6 ∧ W'.cell? ⟨b7, o7, none⟩ = some v7 ∧ W'.cell? ⟨b8, o8, none⟩ = some v8 ∧ W'.cell? ⟨b9, o9, none⟩ = some v9 ∧ Below w.heap.size w W' := keepG10 h (h.2.2.2.2.2.2.2.2.2.2).size hb
theorem keepG11 {w W W' : World} {B b0 o0 b1 o1 b2 o2 b3 o3 b4 o4 b5 o5 b6 o6 b7 o7 b8 o8 b9 o9 b10 o10 : Nat} {v0 v1 v2 v3 v4 v5 v6 v7 v8 v9 v10 : Value} (h : W.cell? ⟨b0, o0, none⟩ = some v0 ∧ W.cell? ⟨b1, o1, none⟩ = some v1 ∧ W.cell? ⟨b2, o2, none⟩ = some v2 ∧ W.cell? ⟨b3, o3, none⟩ = some v3 ∧ W.cell? ⟨b4, o4, none⟩ = some v4 ∧ W.cell? ⟨b5, o5, none⟩ = some v5 ∧ W.cell? ⟨b6, o6, none⟩ = some v6 ∧ W.cell? ⟨b7, o7, none⟩ = some v7 ∧ W.cell? ⟨b8, o8, none⟩ = some v8 ∧ W.cell? ⟨b9, o9, none⟩ = some v9 ∧ W.cell? ⟨b10, o10, none⟩ = some v10 ∧ Below B w W) (hB : B ≤ W.heap.size) (hb : Below W.heap.size W W') :
    W'.cell? ⟨b0, o0, none⟩ = some v0 ∧ W'.cell? ⟨b1, o1, none⟩ = some v1 ∧ W'.cell? ⟨b2, o2, none⟩ = some v2 ∧ W'.cell? ⟨b3, o3, none⟩ = some v3 ∧ W'.cell? ⟨b4, o4, none⟩ = some v4 ∧ W'.cell? ⟨b5, o5, none⟩ = some v5 ∧ W'.cell? ⟨b6, o6, none⟩ = some v6 ∧ W'.cell? ⟨b7, o7, none⟩ = some v7 ∧ W'.cell? ⟨b8, o8, none⟩ = some v8 ∧ W'.cell? ⟨b9, o9, none⟩ = some v9 ∧ W'.cell? ⟨b10, o10, none⟩ = some v10 ∧ Below B w W' := by
  obtain ⟨h0, h1, h2, h3, h4, h5, h6, h7, h8, h9, h10, hw⟩ := h
  obtain ⟨c, _⟩ := bcell hb
  exact ⟨(c _ _ (World.block_lt_of_cell? W ⟨b0, o0, none⟩ h0)).trans h0, (c _ _ (World.block_lt_of_cell? W ⟨b1, o1, none⟩ h1)).trans h1, (c _ _ (World.block_lt_of_cell? W ⟨b2, o2, none⟩ h2)).trans h2, (c _ _ (World.block_lt_of_cell? W ⟨b3, o3, none⟩ h3)).trans h3, (c _ _ (World.block_lt_of_cell? W ⟨b4, o4, none⟩ h4)).trans h4, (c _ _ (World.block_lt_of_cell? W ⟨b5, o5, none⟩ h5)).trans h5, (c _ _ (World.block_lt_of_cell? W ⟨b6, o6, none⟩ h6)).trans h6, (c _ _ (World.block_lt_of_cell? W ⟨b7, o7, none⟩ h7)).trans h7, (c _ _ (World.block_lt_of_cell? W ⟨b8, o8, none⟩ h8)).trans h8, (c _ _ (World.block_lt_of_cell? W ⟨b9, o9, none⟩ h9)).trans h9, (c _ _ (World.block_lt_of_cell? W ⟨b10, o10, none⟩ h10)).trans h10, hw.trans (hb.mono hB)⟩
theorem keepW11 {w W W' : World} {b0 o0 b1 o1 b2 o2 b3 o3 b4 o4 b5 o5 b6 o6 b7 o7 b8 o8 b9 o9 b10 o10 : Nat} {v0 v1 v2 v3 v4 v5 v6 v7 v8 v9 v10 : Value} (h : W.cell? ⟨b0, o0, none⟩ = some v0 ∧ W.cell? ⟨b1, o1, none⟩ = some v1 ∧ W.cell? ⟨b2, o2, none⟩ = some v2 ∧ W.cell? ⟨b3, o3, none⟩ = some v3 ∧ W.cell? ⟨b4, o4, none⟩ = some v4 ∧ W.cell? ⟨b5, o5, none⟩ = some v5 ∧ W.cell? ⟨b6, o6, none⟩ = some v6 ∧ W.cell? ⟨b7, o7, none⟩ = some v7 ∧ W.cell? ⟨b8, o8, none⟩ = some v8 ∧ W.cell? ⟨b9, o9, none⟩ = some v9 ∧ W.cell? ⟨b10, o10, none⟩ = some v10 ∧ Below w.heap.size w W) (hb : Below W.heap.size W W') :
    W'.cell? ⟨b0, o0, none⟩ = some v0 ∧ W'.cell? ⟨b1, o1, none⟩ = some v1 ∧ W'.cell? ⟨b2, o2, none⟩ = some v2 ∧ W'.cell? ⟨b3, o3, none⟩ = some v3 ∧ W'.cell? ⟨b4, o4, none⟩ = some v4 ∧ W'.cell? ⟨b5, o5, none⟩ = some v5 ∧ W'.cell? ⟨b6, o6, none⟩ = some v6 ∧ W'.cell? ⟨b7, o7, none⟩ = some v7 ∧ W'.cell? ⟨b8, o8, none⟩ = some v8 ∧ W'.cell? ⟨b9, o9, none⟩ = some v9 ∧ W'.cell? ⟨b10, o10, none⟩ = some v10 ∧ Below w.heap.size w W' := keepG11 h (h.2.2.2.2.2.2.2.2.2.2.2).size hb
theorem keepG12 {w W W' : World} {B b0 o0 b1 o1 b2 o2 b3 o3 b4 o4 b5 o5 b6 o6 b7 o7 b8 o8 b9 o9 b10 o10 b11 o11 : Nat} {v0 v1 v2 v3 v4 v5 v6 v7 v8 v9 v10 v11 : Value} (h : W.cell? ⟨b0, o0, none⟩ = some v0 ∧ W.cell? ⟨b1, o1, none⟩ = some v1 ∧ W.cell? ⟨b2, o2, none⟩ = some v2 ∧ W.cell? ⟨b3, o3, none⟩ = some v3 ∧ W.cell? ⟨b4, o4, none⟩ = some v4 ∧ W.cell? ⟨b5, o5, none⟩ = some v5 ∧ W.cell? ⟨b6, o6, none⟩ = some v6 ∧ W.cell? ⟨b7, o7, none⟩ = some v7 ∧ W.cell? ⟨b8, o8, none⟩ = some v8 ∧ W.cell? ⟨b9, o9, none⟩ = some v9 ∧ W.cell? ⟨b10, o10, none⟩ = some v10 ∧ W.cell? ⟨b11, o11, none⟩ = some v11 ∧ Below B w W) (hB : B ≤ W.heap.size) (hb : Below W.heap.size W W') :
    W'.cell? ⟨b0, o0, none⟩ = some v0 ∧ W'.cell? ⟨b1, o1, none⟩ = some v1 ∧ W'.cell? ⟨b2, o2, none⟩ = some v2 ∧ W'.cell? ⟨b3, o3, none⟩ = some v3 ∧ W'.cell? ⟨b4, o4, none⟩ = some v4 ∧ W'.cell? ⟨b5, o5, none⟩ = some v5 ∧ W'.cell? ⟨b6, o6, none⟩ = some v6 ∧ W'.cell? ⟨b7, o7, none⟩ = some v7 ∧ W'.cell? ⟨b8, o8, none⟩ = some v8 ∧ W'.cell? ⟨b9, o9, none⟩ = some v9 ∧ W'.cell? ⟨b10, o10, none⟩ = some v10 ∧ W'.cell? ⟨b11, o11, none⟩ = some v11 ∧ Below B w W' := by
  obtain ⟨h0, h1, h2, h3, h4, h5, h6, h7, h8, h9, h10, h11, hw⟩ := h
  obtain ⟨c, _⟩ := bcell hb
  exact ⟨(c _ _ (World.block_lt_of_cell? W ⟨b0, o0, none⟩ h0)).trans h0, (c _ _ (World.block_lt_of_cell? W ⟨b1, o1, none⟩ h1)).trans h1, (c _ _ (World.block_lt_of_cell? W ⟨b2, o2, none⟩ h2)).trans h2, (c _ _ (World.block_lt_of_cell? W ⟨b3, o3, none⟩ h3)).trans h3, (c _ _ (World.block_lt_of_cell? W ⟨b4, o4, none⟩ h4)).trans h4, (c _ _ (World.block_lt_of_cell? W ⟨b5, o5, none⟩ h5)).trans h5, (c _ _ (World.block_lt_of_cell? W ⟨b6, o6, none⟩ h6)).trans h6, (c _ _ (World.block_lt_of_cell? W ⟨b7, o7, none⟩ h7)).trans h7, (c _ _ (World.block_lt_of_cell? W ⟨b8, o8, none⟩ h8)).trans h8, (c _ _ (World.block_lt_of_cell? W ⟨b9, o9, none⟩ h9)).trans h9, (c _ _ (World.block_lt_of_cell? W ⟨b10, o10, none⟩ h10)).trans h10, (c _ _ (World.block_lt_of_cell? W ⟨b11, o11, none⟩ h11)).trans h11, hw.trans (hb.mono hB)⟩
theorem keepW12 {w W W' : World} {b0 o0 b1 o1 b2 o2 b3 o3 b4 o4 b5 o5 b6 o6 b7 o7 b8 o8 b9 o9 b10 o10 b11 o11 : Nat} {v0 v1 v2 v3 v4 v5 v6 v7 v8 v9 v10 v11 : Value} (h : W.cell? ⟨b0, o0, none⟩ = some v0 ∧ W.cell? ⟨b1, o1, none⟩ = some v1 ∧ W.cell? ⟨b2, o2, none⟩ = some v2 ∧ W.cell? ⟨b3, o3, none⟩ = some v3 ∧ W.cell? ⟨b4, o4, none⟩ = some v4 ∧ W.cell? ⟨b5, o5, none⟩ = some v5 ∧ W.cell? ⟨b6, o6, none⟩ = some v6 ∧ W.cell? ⟨b7, o7, none⟩ = some v7 ∧ W.cell? ⟨b8, o8, none⟩ = some v8 ∧ W.cell? ⟨b9, o9, none⟩ = some v9 ∧ W.cell? ⟨b10, o10, none⟩ = some v10 ∧ W.cell? ⟨b11, o11, none⟩ = some v11 ∧ Below w.heap.size w W) (hb : Below W.heap.size W W') :
    W'.cell? ⟨b0, o0, none⟩ = some v0 ∧ W'.cell? ⟨b1, o1, none⟩ = some v1 ∧ W'.cell? ⟨b2, o2, none⟩ = some v2 ∧ W'.cell? ⟨b3, o3, none⟩ = some v3 ∧ W'.cell? ⟨b4, o4, none⟩ = some v4 ∧ W'.cell? ⟨b5, o5, none⟩ = some v5 ∧ W'.cell? ⟨b6, o6, none⟩ = some v6 ∧ W'.cell? ⟨b7, o7, none⟩ = some v7 ∧ W'.cell? ⟨b8, o8, none⟩ = some v8 ∧ W'.cell? ⟨b9, o9, none⟩ = some v9 ∧ W'.cell? ⟨b10, o10, none⟩ = some v10 ∧ W'.cell? ⟨b11, o11, none⟩ = some v11 ∧ Below w.heap.size w W' := keepG12 h (h.2.2.2.2.2.2.2.2.2.2.2.2).size hb
theorem keepG13 {w W W' : World} {B b0 o0 b1 o1 b2 o2 b3 o3 b4 o4 b5 o5 b6 o6 b7 o7 b8 o8 b9 o9 b10 o10 b11 o11 b12 o12 : Nat} {v0 v1 v2 v3 v4 v5 v6 v7 v8 v9 v10 v11 v12 : Value} (h : W.cell? ⟨b0, o0, none⟩ = some v0 ∧ W.cell? ⟨b1, o1, none⟩ = some v1 ∧ W.cell? ⟨b2, o2, none⟩ = some v2 ∧ W.cell? ⟨b3, o3, none⟩ = some v3 ∧ W.cell? ⟨b4, o4, none⟩ = some v4 ∧ W.cell? ⟨b5, o5, none⟩ = some v5 ∧ W.cell? ⟨b6, o6, none⟩ = some v6 ∧ W.cell? ⟨b7, o7, none⟩ = some v7 ∧ W.cell? ⟨b8, o8, none⟩ = some v8 ∧ W.cell? ⟨b9, o9, none⟩ = some v9 ∧ W.cell? ⟨b10, o10, none⟩ = some v10 ∧ W.cell? ⟨b11, o11, none⟩ = some v11 ∧ W.cell? ⟨b12, o12, none⟩ = some v12 ∧ Below B w W) (hB : B ≤ W.heap.size) (hb : Below W.heap.size W W') :
    W'.cell? ⟨b0, o0, none⟩ = some v0 ∧ W'.cell? ⟨b1, o1, none⟩ = some v1 ∧ W'.cell? ⟨b2, o2, none⟩ = some v2 ∧ W'.cell? ⟨b3, o3, none⟩ = some v3 ∧ W'.cell? ⟨b4, o4, none⟩ = some v4 ∧ W'.cell? ⟨b5, o5, none⟩ = some v5 ∧ W'.cell? ⟨b6, o6, none⟩ = some v6 ∧ W'.cell? ⟨b7, o7, none⟩ = some v7 ∧ W'.cell? ⟨b8, o8, none⟩ = some v8 ∧ W'.cell? ⟨b9, o9, none⟩ = some v9 ∧ W'.cell? ⟨b10, o10, none⟩ = some v10 ∧ W'.cell? ⟨b11, o11, none⟩ = some v11 ∧ W'.cell? ⟨b12, o12, none⟩ = some v12 ∧ Below B w W' := by
  obtain ⟨h0, h1, h2, h3, h4, h5, h6, h7, h8, h9, h10, h11, h12, hw⟩ := h
  obtain ⟨c, _⟩ := bcell hb
  exact ⟨(c _ _ (World.block_lt_of_cell? W ⟨b0, o0, none⟩ h0)).trans h0, (c _ _ (World.block_lt_of_cell? W ⟨b1, o1, none⟩ h1)).trans h1, (c _ _ (World.block_lt_of_cell? W ⟨b2, o2, none⟩ h2)).trans h2, (c _ _ (World.block_lt_of_cell? W ⟨b3, o3, none⟩ h3)).trans h3, (c _ _ (World.block_lt_of_cell? W ⟨b4, o4, none⟩ h4)).trans h4, (c _ _ (World.block_lt_of_cell? W ⟨b5, o5, none⟩ h5)).trans h5, (c _ _ (World.block_lt_of_cell? W ⟨b6, o6, none⟩ h6)).trans h6, (c _ _ (World.block_lt_of_cell? W ⟨b7, o7, none⟩ h7)).trans h7, (c _ _ (World.block_lt_of_cell? W ⟨b8, o8, none⟩ h8)).trans h8, (c _ _ (World.block_lt_of_cell? W ⟨b9, o9, none⟩ h9)).trans h9, (c _ _ (World.block_lt_of_cell? W ⟨b10, o10, none⟩ h10)).trans h10, (c _ _ (World.block_lt_of_cell? W ⟨b11, o11, none⟩ h11)).trans h11, (c _ _ (World.block_lt_of_cell? W ⟨b12, o12, none⟩ h12)).trans h12, hw.trans (hb.mono hB)⟩
theorem keepW13 {w W W' : World} {b0 o0 b1 o1 b2 o2 b3 o3 b4 o4 b5 o5 b6 o6 b7 o7 b8 o8 b9 o9 b10 o10 b11 o11 b12 o12 : Nat} {v0 v1 v2 v3 v4 v5 v6 v7 v8 v9 v10 v11 v12 : Value} (h : W.cell? ⟨b0, o0, none⟩ = some v0 ∧ W.cell? ⟨b1, o1, none⟩ = some v1 ∧ W.cell? ⟨b2, o2, none⟩ = some v2 ∧ W.cell? ⟨b3, o3, none⟩ = some v3 ∧ W.cell? ⟨b4, o4, none⟩ = some v4 ∧ W.cell? ⟨b5, o5, none⟩ = some v5 ∧ W.cell? ⟨b6, o6, none⟩ = some v6 ∧ W.cell? ⟨b7, o7, none⟩ = some v7 ∧ W.cell? ⟨b8, o8, none⟩ = some v8 ∧ W.cell? ⟨b9, o9, none⟩ = some v9 ∧ W.cell? ⟨b10, o10, none⟩ = some v10 ∧ W.cell? ⟨b11, o11, none⟩ = some v11 ∧ W.cell? ⟨b12, o12, none⟩ = some v12 ∧ Below w.heap.size w W) (hb : Below W.heap.size W W') :
    W'.cell? ⟨b0, o0, none⟩ = some v0 ∧ W'.cell? ⟨b1, o1, none⟩ = some v1 ∧ W'.cell? ⟨b2, o2, none⟩ = some v2 ∧ W'.cell? ⟨b3, o3, none⟩ = some v3 ∧ W'.cell? ⟨b4, o4, none⟩ = some v4 ∧ W'.cell? ⟨b5, o5, none⟩ = some v5 ∧ W'.cell? ⟨b6, o6, none⟩ = some v6 ∧ W'.cell? ⟨b7, o7, none⟩ = some v7 ∧ W'.cell? ⟨b8, o8, none⟩ = some v8 ∧ W'.cell? ⟨b9, o9, none⟩ = some v9 ∧ W'.cell? ⟨b10, o10, none⟩ = some v10 ∧ W'.cell? ⟨b11, o11, none⟩ = some v11 ∧ W'.cell? ⟨b12, o12, none⟩ = some v12 ∧ Below w.heap.size w W' := keepG13 h (h.2.2.2.2.2.2.2.2.2.2.2.2.2).size hb
theorem keepG14 {w W W' : World} {B b0 o0 b1 o1 b2 o2 b3 o3 b4 o4 b5 o5 b6 o6 b7 o7 b8 o8 b9 o9 b10 o10 b11 o11 b12 o12 b13 o13 : Nat} {v0 v1 v2 v3 v4 v5 v6 v7 v8 v9 v10 v11 v12 v13 : Value} (h : W.cell? ⟨b0, o0, none⟩ = some v0 ∧ W.cell? ⟨b1, o1, none⟩ = some v1 ∧ W.cell? ⟨b2, o2, none⟩ = some v2 ∧ W.cell? ⟨b3, o3, none⟩ = some v3 ∧ W.cell? ⟨b4, o4, none⟩ = some v4 ∧ W.cell? ⟨b5, o5, none⟩ = some v5 ∧ W.cell? ⟨b6, o6, none⟩ = some v6 ∧ W.cell? ⟨b7, o7, none⟩ = some v7 ∧ W.cell? ⟨b8, o8, none⟩ = some v8 ∧ W.cell? ⟨b9, o9, none⟩ = some v9 ∧ W.cell? ⟨b10, o10, none⟩ = some v10 ∧ W.cell? ⟨b11, o11, none⟩ = some v11 ∧ W.cell? ⟨b12, o12, none⟩ = some v12 ∧ W.cell? ⟨b13, o13, none⟩ = some v13 ∧ Below B w W) (hB : B ≤ W.heap.size) (hb : Below W.heap.size W W') :
    W'.cell? ⟨b0, o0, none⟩ = some v0 ∧ W'.cell? ⟨b1, o1, none⟩ = some v1 ∧ W'.cell? ⟨b2, o2, none⟩ = some v2 ∧ W'.cell? ⟨b3, o3, none⟩ = some v3 ∧ W'.cell? ⟨b4, o4, none⟩ = some v4 ∧ W'.cell? ⟨b5, o5, none⟩ = some v5 ∧ W'.cell? ⟨b6, o6, none⟩ = some v6 ∧ W'.cell? ⟨b7, o7, none⟩ = some v7 ∧ W'.cell? ⟨b8, o8, none⟩ = some v8 ∧ W'.cell? ⟨b9, o9, none⟩ = some v9 ∧ W'.cell? ⟨b10, o10, none⟩ = some v10 ∧ W'.cell? ⟨b11, o11, none⟩ = some v11 ∧ W'.cell? ⟨b12, o12, none⟩ = some v12 ∧ W'.cell? ⟨b13, o13, none⟩ = some v13 ∧ Below B w W' := by
  obtain ⟨h0, h1, h2, h3, h4, h5, h6, h7, h8, h9, h10, h11, h12, h13, hw⟩ := h
  obtain ⟨c, _⟩ := bcell hb
  exact ⟨(c _ _ (World.block_lt_of_cell? W ⟨b0, o0, none⟩ h0)).trans h0, (c _ _ (World.block_lt_of_cell? W ⟨b1, o1, none⟩ h1)).trans h1, (c _ _ (World.block_lt_of_cell? W ⟨b2, o2, none⟩ h2)).trans h2, (c _ _ (World.block_lt_of_cell? W ⟨b3, o3, none⟩ h3)).trans h3, (c _ _ (World.block_lt_of_cell? W ⟨b4, o4, none⟩ h4)).trans h4, (c _ _ (World.block_lt_of_cell? W ⟨b5, o5, none⟩ h5)).trans h5, (c _ _ (World.block_lt_of_cell? W ⟨b6, o6, none⟩ h6)).trans h6, (c _ _ (World.block_lt_of_cell? W ⟨b7, o7, none⟩ h7)).trans h7, (c _ _ (World.block_lt_of_cell? W ⟨b8, o8, none⟩ h8)).trans h8, (c _ _ (World.block_lt_of_cell? W ⟨b9, o9, none⟩ h9)).trans h9, (c _ _ (World.block_lt_of_cell? W ⟨b10, o10, none⟩ h10)).trans h10, (c _ _ (World.block_lt_of_cell? W ⟨b11, o11, none⟩ h11)).trans h11, (c _ _ (World.block_lt_of_cell? W ⟨b12, o12, none⟩ h12)).trans h12, (c _ _ (World.block_lt_of_cell? W ⟨b13, o13, none⟩ h13)).trans h13, hw.trans (hb.mono hB)⟩
theorem keepW14 {w W W' : World} {b0 o0 b1 o1 b2 o2 b3 o3 b4 o4 b5 o5 b6 o6 b7 o7 b8 o8 b9 o9 b10 o10 b11 o11 b12 o12 b13 o13 : Nat} {v0 v1 v2 v3 v4 v5 v6 v7 v8 v9 v10 v11 v12 v13 : Value} (h : W.cell? ⟨b0, o0, none⟩ = some v0 ∧ W.cell? ⟨b1, o1, none⟩ = some v1 ∧ W.cell? ⟨b2, o2, none⟩ = some v2 ∧ W.cell? ⟨b3, o3, none⟩ = some v3 ∧ W.cell? ⟨b4, o4, none⟩ = some v4 ∧ W.cell? ⟨b5, o5, none⟩ = some v5 ∧ W.cell? ⟨b6, o6, none⟩ = some v6 ∧ W.cell? ⟨b7, o7, none⟩ = some v7 ∧ W.cell? ⟨b8, o8, none⟩ = some v8 ∧ W.cell? ⟨b9, o9, none⟩ = some v9 ∧ W.cell? ⟨b10, o10, none⟩ = some v10 ∧ W.cell? ⟨b11, o11, none⟩ = some v11 ∧ W.cell? ⟨b12, o12, none⟩ = some v12 ∧ W.cell? ⟨b13, o13, none⟩ = some v13 ∧ Below w.heap.size w W) (hb : Below W.heap.size W W') :
    W'.cell? ⟨b0, o0, none⟩ = some v0 ∧ W'.cell? ⟨b1, o1, none⟩ = some v1 ∧ W'.cell? ⟨b2, o2, none⟩ = some v2 ∧ W'.cell? ⟨b3, o3, none⟩ = some v3 ∧ W'.cell? ⟨b4, o4, none⟩ = some v4 ∧ W'.cell? ⟨b5, o5, none⟩ = some v5 ∧ W'.cell? ⟨b6, o6, none⟩ = some v6 ∧ W'.cell? ⟨b7, o7, none⟩ = some v7 ∧ W'.cell? ⟨b8, o8, none⟩ = some v8 ∧ W'.cell? ⟨b9, o9, none⟩ = some v9 ∧ W'.cell? ⟨b10, o10, none⟩ = some v10 ∧ W'.cell? ⟨b11, o11, none⟩ = some v11 ∧ W'.cell? ⟨b12, o12, none⟩ = some v12 ∧ W'.cell? ⟨b13, o13, none⟩ = some v13 ∧ Below w.heap.size w W' := keepG14 h (h.2.2.2.2.2.2.2.2.2.2.2.2.2.2).size hb
theorem fin_Keep : True := trivial
end

section
open Go.RowKit Go.Joins Go.ChangeShapes Go.WideShapes Go.Deep
set_option linter.unusedVariables false

theorem info_n64 : (Tryz.prog.info? 2).map (fun i => (i.zero, i.size, i.bytes)) = some (some (.int .i64 0), 1, 8) := by kernel_rfl
/-- A slice that came in holds these numbers. -/
def NumsIn (w : World) (v : Value) (zs : List Int) : Prop :=
  (∃ a cap, v = .slice a 0 cap ∧ zs = []) ∨ (∃ b off cap, v = .slice (some ⟨b, off, none⟩) zs.length cap ∧ b < w.heap.size ∧ ∀ j, (h : j < zs.length) → w.cell? ⟨b, off + j, none⟩ = some (.int .i64 zs[j]) ∧ (-9223372036854775808 ≤ zs[j] ∧ zs[j] ≤ 9223372036854775807))
theorem NumsIn.below {w w' : World} {v : Value} {zs : List Int} (h : NumsIn w v zs) (hb : Below w.heap.size w w') : NumsIn w' v zs := by
  rcases h with h | ⟨b, off, cap, hv, hl, hc⟩
  · exact .inl h
  · exact .inr ⟨b, off, cap, hv, by have := hb.size; omega, fun j hj => ⟨(hb.cell (p := ⟨b, off + j, none⟩) hl).trans (hc j hj).1, (hc j hj).2⟩⟩
theorem NumsIn.len {w : World} {v : Value} {zs : List Int} (h : NumsIn w v zs) : ∃ a cap, v = .slice a zs.length cap := by
  rcases h with ⟨a, cap, rfl, rfl⟩ | ⟨b, off, cap, rfl, _⟩
  · exact ⟨a, cap, rfl⟩
  · exact ⟨_, cap, rfl⟩
/-- A slice that came in holds these lists. -/
def LinesIn (w : World) (v : Value) (ls : List (List Int)) : Prop :=
  (∃ a cap, v = .slice a 0 cap ∧ ls = []) ∨ (∃ b off cap, v = .slice (some ⟨b, off, none⟩) ls.length cap ∧ b < w.heap.size ∧ ∀ j, (h : j < ls.length) → ∃ u, w.cell? ⟨b, off + j, none⟩ = some u ∧ NumsIn w u ls[j] ∧ ls[j].length ≤ 9223372036854775807)
theorem LinesIn.below {w w' : World} {v : Value} {ls : List (List Int)} (h : LinesIn w v ls) (hb : Below w.heap.size w w') : LinesIn w' v ls := by
  rcases h with h | ⟨b, off, cap, hv, hl, hc⟩
  · exact .inl h
  · exact .inr ⟨b, off, cap, hv, by have := hb.size; omega, fun j hj => by
      obtain ⟨u, c, hu, hn⟩ := hc j hj
      exact ⟨u, (hb.cell (p := ⟨b, off + j, none⟩) hl).trans c, hu.below hb, hn⟩⟩

section
variable {H : Type} {enc : TypeId × Value → H} {w : World} {base : Nat} {held : Bool}
theorem ints_in {fuel : Nat} {sa : Option Addr} {sn sc : Nat} {x : DataW H × List MemPlace}
    (hf : DataW.trod enc Tryz.prog w base (fun _ => true) held fuel 27 [.slice sa sn sc] = some x) : ∃ zs : List Int, NumsIn w (.slice sa sn sc) zs ∧ zs.length ≤ 9223372036854775807 := by
  rcases open_ints Tryz.underlying27 Tryz.underlying2 (by kernel_rfl) hf with ⟨hcs, hx⟩ | ⟨a, len', cap', zs, hcs, _, hl, hm, hz, hx, hcell, hwz⟩
  · simp at hcs
    obtain ⟨rfl, rfl, rfl⟩ := hcs
    exact ⟨[], .inl ⟨_, _, rfl, rfl⟩, by simp⟩
  · simp at hcs
    obtain ⟨rfl, rfl, rfl⟩ := hcs
    simp only [if_true] at hz
    by_cases hl0 : sn = 0
    · subst hl0
      exact ⟨[], .inl ⟨_, _, rfl, rfl⟩, by simp⟩
    · obtain ⟨b, off, spot⟩ := a
      have hspot : spot = none := by simpa [Addr.add] using World.cell?_spot (hcell 0 (by omega))
      subst hspot
      have hlt : (zs.take sn).length = sn := by simp; omega
      have hget : ∀ j, (h : j < (zs.take sn).length) → w.cell? ⟨b, off + j, none⟩ = some (.int .i64 (zs.take sn)[j]) := by
        intro j hj
        have h1 := hcell j (by omega)
        rw [add_plain] at h1
        rw [h1]
        simp [List.getD, show j < zs.length by omega]
      exact ⟨zs.take sn, .inr ⟨b, off, sc, by rw [hlt], World.block_lt_of_cell? w ⟨b, off + 0, none⟩ (hget 0 (by omega)), fun j hj => ⟨hget j hj, wf_fits (hwz _ (List.mem_of_mem_take (List.getElem_mem hj)))⟩⟩, by rw [hlt]; unfold maxLen at hm; omega⟩
theorem here_ends : True := trivial
end

/-- Block g is a row of these numbers. -/
def NRow (w : World) (g : Nat) (zs : List Int) : Prop := w.rowIs g 2 zs.length (fun k => .int .i64 (zs.getD k 0))
theorem NRow.below {w w' : World} {g : Nat} {zs : List Int} (h : NRow w g zs) (hb : Below w.heap.size w w') : NRow w' g zs := World.rowIs.of_block h (hb.block g (World.rowIs.lt h))
theorem NRow.at {w : World} {g : Nat} {zs : List Int} (h : NRow w g zs) (j : Nat) (hj : j < zs.length) : w.cell? ⟨g, j, none⟩ = some (.int .i64 zs[j]) := by
  rw [World.rowIs.cell h hj, List.getD, List.getElem?_eq_getElem hj]
  rfl
/-- Block g is a row of slices of these lists, each in a row of its own. -/
structure LRow (w : World) (g : Nat) (ls : List (List Int)) (bs : Nat → Nat) : Prop where
  row : w.rowIs g 27 ls.length (fun k => .slice (some ⟨bs k, 0, none⟩) (ls.getD k []).length (ls.getD k []).length)
  each : ∀ k, k < ls.length → NRow w (bs k) (ls.getD k [])
theorem LRow.lt {w : World} {g : Nat} {ls : List (List Int)} {bs : Nat → Nat} (h : LRow w g ls bs) : g < w.heap.size := World.rowIs.lt h.row
theorem LRow.below {w w' : World} {g : Nat} {ls : List (List Int)} {bs : Nat → Nat} (h : LRow w g ls bs) (hb : Below w.heap.size w w') : LRow w' g ls bs :=
  ⟨World.rowIs.of_block h.row (hb.block g h.lt), fun k hk => (h.each k hk).below hb⟩
theorem LRow.at {w : World} {g : Nat} {ls : List (List Int)} {bs : Nat → Nat} (h : LRow w g ls bs) (j : Nat) (hj : j < ls.length) : w.cell? ⟨g, j, none⟩ = some (.slice (some ⟨bs j, 0, none⟩) ls[j].length ls[j].length) ∧ NRow w (bs j) ls[j] := by
  have e : ls.getD j [] = ls[j] := by rw [List.getD, List.getElem?_eq_getElem hj]; rfl
  have h1 := World.rowIs.cell h.row hj
  have h2 := h.each j hj
  rw [e] at h1 h2
  exact ⟨h1, h2⟩
/-- The rows so far. -/
def lineUp (ls : List (List Int)) (bs : Nat → Nat) (j k : Nat) : Value := if k < j then .slice (some ⟨bs k, 0, none⟩) (ls.getD k []).length (ls.getD k []).length else .slice none 0 0

theorem nums_make (n : Nat) (hn : n ≤ 1048577) (w : World) :
    (Instr.makeSlice 27 (.int .i64 (n : Int)) (.int .i64 (n : Int))).run Tryz.prog w = .ok (.slice (some ⟨w.heap.size, 0, none⟩) n n) (w.alloc (.cells (madeCells #[.int .i64 0] n) 2)) := by
  obtain ⟨i, hi, hzz⟩ := Option.map_eq_some_iff.1 info_n64
  simp only [Prod.mk.injEq] at hzz
  obtain ⟨hz, hs, hb⟩ := hzz
  have hr := run_make (P := Tryz.prog) w 27 2 i _ Tryz.underlying27 hi hz .i64 .i64 (n : Int) (n : Int) (by omega) (Int.le_refl _) (by rw [hb]; omega) (by omega)
  simp only [Int.toNat_natCast, hs, Nat.mul_one] at hr
  exact hr
theorem info_ints : (Tryz.prog.info? 27).map (fun i => (i.zero, i.size, i.bytes)) = some (some (.slice none 0 0), 1, 24) := by kernel_rfl
/-- A copy of numbers so far. -/
def numUp (zs : List Int) (j k : Nat) : Value := .int .i64 (if k < j then zs.getD k 0 else 0)
theorem numUp_set {w : World} {g : Nat} {zs : List Int} {j : Nat} (h : w.rowIs g 2 zs.length (numUp zs j)) {v : Int} (hv : v = zs.getD j 0) : (w.setCell ⟨g, j, none⟩ (.int .i64 v)).rowIs g 2 zs.length (numUp zs (j + 1)) := by
  refine World.rowIs.congr (World.rowIs.set h j (.int .i64 v)) (fun k _ => ?_)
  unfold numUp
  by_cases c : k = j
  · subst c
    rw [if_pos rfl, if_pos (by omega), hv]
  · rw [if_neg c]
    by_cases d : k < j
    · rw [if_pos d, if_pos (by omega)]
    · rw [if_neg d, if_neg (by omega)]
theorem numUp_done {w : World} {g : Nat} {zs : List Int} (h : w.rowIs g 2 zs.length (numUp zs zs.length)) : NRow w g zs :=
  World.rowIs.congr h (fun k hk => by unfold numUp; rw [if_pos hk])
theorem numUp_made (w : World) (zs : List Int) : (w.alloc (.cells (madeCells #[.int .i64 0] zs.length) 2)).rowIs w.heap.size 2 zs.length (numUp zs 0) :=
  World.rowIs.congr (World.rowIs_made w (.int .i64 0) zs.length 2) (fun _ _ => by unfold numUp; rw [if_neg (Nat.not_lt_zero _)])

/-- The rows copied so far. -/
structure LUp (w : World) (g : Nat) (ls : List (List Int)) (bs : Nat → Nat) (j : Nat) : Prop where
  row : w.rowIs g 27 ls.length (lineUp ls bs j)
  each : ∀ k, k < j → NRow w (bs k) (ls.getD k []) ∧ g < bs k
theorem LUp.made (w : World) (ls : List (List Int)) (bs : Nat → Nat) : LUp (w.alloc (.cells (madeCells #[.slice none 0 0] ls.length) 27)) w.heap.size ls bs 0 :=
  ⟨World.rowIs.congr (World.rowIs_made w (.slice none 0 0) ls.length 27) (fun _ _ => by unfold lineUp; rw [if_neg (Nat.not_lt_zero _)]), fun k hk => absurd hk (Nat.not_lt_zero k)⟩
theorem LUp.below {w w' : World} {g : Nat} {ls : List (List Int)} {bs : Nat → Nat} {j : Nat} (h : LUp w g ls bs j) (hb : Below w.heap.size w w') : LUp w' g ls bs j :=
  ⟨World.rowIs.of_block h.row (hb.block g (World.rowIs.lt h.row)), fun k hk => ⟨(h.each k hk).1.below hb, (h.each k hk).2⟩⟩
theorem LUp.done {w : World} {g : Nat} {ls : List (List Int)} {bs : Nat → Nat} (h : LUp w g ls bs ls.length) : LRow w g ls bs :=
  ⟨World.rowIs.congr h.row (fun k hk => by unfold lineUp; rw [if_pos hk]), fun k hk => (h.each k hk).1⟩
theorem LUp.put {w : World} {g : Nat} {ls : List (List Int)} {bs : Nat → Nat} {j b : Nat} {zs : List Int} (h : LUp w g ls bs j) (hz : ls.getD j [] = zs) (hn : NRow w b zs) (hg : g < b) :
    LUp (w.setCell ⟨g, j, none⟩ (.slice (some ⟨b, 0, none⟩) zs.length zs.length)) g ls (fun k => if k = j then b else bs k) (j + 1) := by
  refine ⟨World.rowIs.congr (World.rowIs.set h.row j _) (fun k _ => ?_), fun k hk => ?_⟩
  · unfold lineUp
    by_cases c : k = j
    · subst c
      rw [if_pos rfl, if_pos (by omega)]
      simp only [if_true, hz]
    · simp only [if_neg c]
      by_cases d : k < j
      · rw [if_pos d, if_pos (by omega)]
      · rw [if_neg d, if_neg (by omega)]
  · by_cases c : k = j
    · subst c
      simp only [if_true, hz]
      exact ⟨World.rowIs.setOther hn (by show b ≠ g; omega) _, hg⟩
    · simp only [if_neg c]
      obtain ⟨h1, h2⟩ := h.each k (by omega)
      exact ⟨World.rowIs.setOther h1 (by show bs k ≠ g; omega) _, h2⟩
theorem LRow.setOther {w : World} {g : Nat} {ls : List (List Int)} {bs : Nat → Nat} (h : LRow w g ls bs) {a : Addr} (hg : g ≠ a.block) (hk : ∀ k, k < ls.length → bs k ≠ a.block) (v : Value) : LRow (w.setCell a v) g ls bs :=
  ⟨World.rowIs.setOther h.row hg v, fun k hl => World.rowIs.setOther (h.each k hl) (hk k hl) v⟩
theorem fin_Fig0 : True := trivial
end

section
open Go.RowKit
set_option linter.unusedVariables false

def szL (zs : List Int) (l : Int) : Int := if l - (zs.length : Int) < 0 then -1 else l - (zs.length : Int)
theorem szL_bd (zs : List Int) (l : Int) (h0 : 0 ≤ l) : -1 ≤ szL zs l ∧ szL zs l ≤ l ∧ (0 ≤ szL zs l → (zs.length : Int) ≤ l) := by unfold szL; split <;> omega
/-- What szInt64SS answers: below 0, or the lists are short. -/
def SzLPost (ls : List (List Int)) (l : Int) (w : World) (e : Ending) (w' : World) : Prop :=
  ∃ z : Int, e = .returned (.int .i64 z) ∧ -1 ≤ z ∧ z ≤ l ∧ (0 ≤ z → ls.length ≤ 1048576 ∧ ∀ j, (h : j < ls.length) → ls[j].length ≤ 1048576) ∧ Below w.heap.size w w'

/-- The call returned a new copy. -/
def ToNPost (zs : List Int) (w : World) (e : Ending) (w' : World) : Prop :=
  e = .returned (.slice (some ⟨w.heap.size, 0, none⟩) zs.length zs.length) ∧ NRow w' w.heap.size zs ∧ Below w.heap.size w w'
set_option maxHeartbeats 400000 in
theorem toN_empty (a : Option Addr) (cap : Nat) (w : World) :
    Calls Tryz.prog 17 #[.slice a 0 cap] w (ToNPost [] w) := by
  have hmk : ∀ w, (Instr.makeSlice 27 (.int .i64 0) (.int .i64 0)).run Tryz.prog w = .ok (.slice (some ⟨w.heap.size, 0, none⟩) 0 0) (w.alloc (.cells #[] 2)) := fun _ => by kernel_rfl
  have MADE : Hid (NRow (w.alloc (.cells #[] 2)) w.heap.size []) := Lib.hid (World.rowIs_alloc w #[] 2 _ (fun k hk => by simp at hk))
  go_enter Tryz.func17, Tryz.ntmps17
  go_wp2_with fail
  clear hmk
  go_loop [4] (fun i => i = .int .i64 0) (fun _ => 0)
  case atStart => rfl
  case round =>
    subst hrel
    go_wp2_with fail
    go_ret
    exact ⟨rfl, MADE.out, (Below.refl _ _).alloc (Nat.le_refl _) _⟩
set_option maxRecDepth 100000 in
set_option maxHeartbeats 1000000 in
theorem toN_full (b off cap : Nat) (zs : List Int) (w : World) (hbw : b < w.heap.size) (hb : zs.length ≤ 1048576) (hc : ∀ j, (h : j < zs.length) → w.cell? ⟨b, off + j, none⟩ = some (.int .i64 zs[j])) :
    Calls Tryz.prog 17 #[.slice (some ⟨b, off, none⟩) zs.length cap] w (ToNPost zs w) := by
  have HC := Lib.hid hc
  clear hc
  have hmk := nums_make zs.length (by omega)
  have MADE := Lib.hid (numUp_made w zs)
  go_enter Tryz.func17, Tryz.ntmps17
  go_wp2_with fail
  clear hmk
  go_loopg [4] (zs.length + 1) (fun kx s4 wr => ∃ j : Nat, s4 = .int .i64 (j : Int) ∧ j ≤ zs.length ∧ kx = zs.length + 1 - j ∧ Hid (wr.rowIs w.heap.size 2 zs.length (numUp zs j)) ∧ Hid (Below w.heap.size w wr))
  case atStart => exact ⟨0, rfl, Nat.zero_le _, rfl, MADE, Lib.hid ((Below.refl _ _).alloc (Nat.le_refl _) _)⟩
  case round =>
    obtain ⟨j, rfl, hj, rfl, HR, HB⟩ := hrel
    by_cases hlt : j < zs.length
    · have c0 := (HB.out.cell (p := ⟨b, off + j, none⟩) hbw).trans (HC.out j hlt)
      have c1 := World.rowIs.cell HR.out hlt
      have f1 := World.rowIs.frozen HR.out j
      have PU := Lib.hid (numUp_set HR.out (show zs[j] = zs.getD j 0 by rw [List.getD, List.getElem?_eq_getElem hlt]; rfl))
      generalize zs[j] = z at *
      unfold numUp at c1
      have j0 : (0 : Int) ≤ (j : Int) := by omega
      have j1 : (j : Int) < (zs.length : Int) := by omega
      go_wp2_with fail
      go_roundg (zs.length + 1 - (j + 1))
      case measure => omega
      case rel => exact ⟨j + 1, by go_num, by omega, by omega, PU, Lib.hid (HB.out.setCell (Nat.le_refl _) _)⟩
    · obtain rfl : j = zs.length := by omega
      go_wp2_with fail
      go_ret
      exact ⟨rfl, numUp_done HR.out, HB.out⟩
theorem toN_any {v : Value} {zs : List Int} {w : World} (h : NumsIn w v zs) (hb : zs.length ≤ 1048576) :
    Calls Tryz.prog 17 #[v] w (ToNPost zs w) := by
  rcases h with ⟨a, cap, rfl, rfl⟩ | ⟨b, off, cap, rfl, hl, hc⟩
  · exact toN_empty a cap w
  · exact toN_full b off cap zs w hl hb (fun j hj => (hc j hj).1)

/-- The call returned a new copy of all lists. -/
def ToLPost (ls : List (List Int)) (w : World) (e : Ending) (w' : World) : Prop :=
  e = .returned (.slice (some ⟨w.heap.size, 0, none⟩) ls.length ls.length) ∧ (∃ bs, LRow w' w.heap.size ls bs ∧ ∀ k, k < ls.length → w.heap.size < bs k) ∧ Below w.heap.size w w'
/-- The call returned a new copy of the figure. -/
def ToFPost (s : ByteArray) (ls : List (List Int)) (w : World) (e : Ending) (w' : World) : Prop :=
  ∃ g bs, e = .returned (.agg #[.string s, .slice (some ⟨g, 0, none⟩) ls.length ls.length]) ∧ LRow w' g ls bs ∧ Below w.heap.size w w'
/-- .. and where the copy lies. -/
def ToXPost (s : ByteArray) (ls : List (List Int)) (w : World) (e : Ending) (w' : World) : Prop :=
  ∃ g bs, e = .returned (.agg #[.string s, .slice (some ⟨g, 0, none⟩) ls.length ls.length]) ∧ LRow w' g ls bs ∧ Below w.heap.size w w' ∧ w.heap.size ≤ g ∧ ∀ k, k < ls.length → g < bs k
/-- A struct of two cells that the call made stays. -/
theorem box_keep {W W' : World} {b : Nat} {v0 v1 : Value} (h : b < W.heap.size ∧ W.cell? ⟨b, 0, none⟩ = some v0 ∧ W.cell? ⟨b, 1, none⟩ = some v1) (hb : Below W.heap.size W W') :
    b < W'.heap.size ∧ W'.cell? ⟨b, 0, none⟩ = some v0 ∧ W'.cell? ⟨b, 1, none⟩ = some v1 := by
  obtain ⟨h0, h1, h2⟩ := h
  have := hb.size
  exact ⟨by omega, (hb.cell (p := ⟨b, 0, none⟩) h0).trans h1, (hb.cell (p := ⟨b, 1, none⟩) h0).trans h2⟩
theorem box_new (w : World) (v0 v1 : Value) (t : TypeId) : w.heap.size < (w.alloc (.cells #[v0, v1] t)).heap.size ∧ (w.alloc (.cells #[v0, v1] t)).cell? ⟨w.heap.size, 0, none⟩ = some v0 ∧ (w.alloc (.cells #[v0, v1] t)).cell? ⟨w.heap.size, 1, none⟩ = some v1 := by
  refine ⟨by simp, ?_, ?_⟩ <;> (rw [World.cell?_alloc_at _ _ _ _ rfl]; rfl)
theorem lines_fits {w : World} {v : Value} {ls : List (List Int)} (h : LinesIn w v ls) : ∀ j, (hj : j < ls.length) → ∀ x ∈ ls[j], fits x := by
  intro j hj x hx
  rcases h with ⟨a, cap, _, rfl⟩ | ⟨b, off, cap, _, _, hc⟩
  · cases hj
  · obtain ⟨u, _, hu, _⟩ := hc j hj
    rcases hu with ⟨a, cap, _, h0⟩ | ⟨b, off, cap, _, _, hz⟩
    · rw [h0] at hx
      cases hx
    · obtain ⟨k, hk, rfl⟩ := List.mem_iff_getElem.1 hx
      exact (hz k hk).2

theorem quiet_d2 {P : Program} {f : FuncId} {args : Array Value} {w : World} {n : Nat} {v : Value}
    (h : Calls P f args (w.drewN n) fun e w' => e = .returned v ∧ ∃ m, w' = (w.drewN n).drewN m) : Calls P f args (w.drewN n) fun e w'' => e = .returned v ∧ ∃ m, w'' = w.drewN m :=
  h.mono fun _ _ ⟨he, m, hm⟩ => ⟨he, n + m, by rw [hm, World.drewN_drewN]⟩
theorem bel_d2 {B : Nat} {a w : World} (h : Below B a w) (n : Nat) : Below B a (w.drewN n) := ⟨h.os, h.tape, h.output, h.size, h.block⟩
set_option maxRecDepth 100000 in
set_option maxHeartbeats 1000000 in
theorem eqN_any (b b' ca cb : Nat) (zs : List Int) (w : World) (hb : zs.length ≤ 1048577) (h1 : NRow w b zs) (h2 : NRow w b' zs) :
    Calls Tryz.prog 11 #[.slice (some ⟨b, 0, none⟩) zs.length ca, .slice (some ⟨b', 0, none⟩) zs.length cb] w fun e w' => e = .returned (.bool true) ∧ ∃ q, w' = w.drewN q := by
  have HG := Lib.hid (fun j hj => h1.at j hj)
  have HH := Lib.hid (fun j hj => h2.at j hj)
  clear h1 h2
  go_enter Tryz.func11, Tryz.ntmps11
  go_wp2_with fail
  go_loopw [5] (fun i wr => ∃ (j q : Nat), i = .int .i64 (j : Int) ∧ j ≤ zs.length ∧ wr = w.drewN q) (fun i _ => zs.length - (intOf i).toNat)
  case atStart => exact ⟨0, 0, rfl, Nat.zero_le _, rfl⟩
  case round =>
    obtain ⟨j, q, rfl, hj, rfl⟩ := hrel
    by_cases hlt : j < zs.length
    · have c1 := HG.out j hlt
      have c2 := HH.out j hlt
      generalize zs[j] = z at *
      go_wp2_with fail
      go_quiet (fail)
      go_wp2_with fail
      go_roundw
      case rel => exact ⟨j + 1, _, by go_num, by omega, rfl⟩
      case measure => (simp [intOf] <;> omega)
    · go_wp2_with fail
      go_ret
      exact ⟨rfl, q, rfl⟩
theorem fin_FigL : True := trivial
end

section
open Go.RowKit
set_option linter.unusedVariables false

/-- A line between two of n stars. -/
def lineB (n : Int) (x : List Int) : Bool := (x.length == 2) && (inR 0 (n - 1) x && decide (x.getD 0 0 < x.getD 1 0))
def lessP (x y : List Int) : Bool := decide (x.getD 0 0 < y.getD 0 0) || (decide (x.getD 0 0 = y.getD 0 0) && decide (x.getD 1 0 < y.getD 1 0))
def stepL (n : Int) (ls : List (List Int)) (j : Nat) : Bool := lineB n (ls.getD j []) && (j == 0 || lessP (ls.getD (j - 1) []) (ls.getD j []))
def okF (n : Int) (ls : List (List Int)) (j : Nat) : Bool := (List.range j).all (stepL n ls)
def linesB (n : Int) (ls : List (List Int)) : Bool := okF n ls ls.length && decide (ls.length ≤ 16)
theorem okF_next (n : Int) (ls : List (List Int)) (j : Nat) : okF n ls (j + 1) = (okF n ls j && stepL n ls j) := by
  unfold okF
  rw [List.range_succ, List.all_append]
  simp
theorem okF_stop (n : Int) (ls : List (List Int)) (j : Nat) (h : j < ls.length) (hs : stepL n ls j = false) : linesB n ls = false := by
  unfold linesB okF
  have : (List.range ls.length).all (stepL n ls) = false := by
    rw [List.all_eq_false]
    exact ⟨j, List.mem_range.2 h, by rw [hs]; simp⟩
  rw [this, Bool.false_and]
theorem okF_line (n : Int) (ls : List (List Int)) (j k : Nat) (h : okF n ls j = true) (hk : k < j) : lineB n (ls.getD k []) = true := by
  unfold okF at h
  rw [List.all_eq_true] at h
  have := h k (List.mem_range.2 hk)
  unfold stepL at this
  simp only [Bool.and_eq_true] at this
  exact this.1
theorem stepL_zero (n : Int) (ls : List (List Int)) : stepL n ls 0 = lineB n (ls.getD 0 []) := by simp [stepL]
theorem stepL_pos (n : Int) (ls : List (List Int)) (j k : Nat) (h : j = k + 1) : stepL n ls j = (lineB n (ls.getD j []) && lessP (ls.getD k []) (ls.getD j [])) := by subst h; simp [stepL]
theorem lineB_two {n : Int} {x : List Int} (h : lineB n x = true) : ∃ a b, x = [a, b] := by
  unfold lineB at h
  simp only [Bool.and_eq_true, beq_iff_eq] at h
  match x, h.1 with
  | [a, b], _ => exact ⟨a, b, rfl⟩
theorem getL_at (ls : List (List Int)) (j : Nat) (h : j < ls.length) : ls.getD j [] = ls[j] := by rw [List.getD, List.getElem?_eq_getElem h]; rfl

theorem NRow.drewN {w : World} {g : Nat} {zs : List Int} (h : NRow w g zs) {n : Nat} : NRow (w.drewN n) g zs := h
theorem NRow.cells {w : World} {g : Nat} {zs : List Int} (h : NRow w g zs) : ∀ j, j < zs.length → w.cell? ⟨g, 0 + j, none⟩ = some (.int .i64 (zs.getD j 0)) := by
  intro j hj
  rw [Nat.zero_add]
  exact World.rowIs.cell h hj

theorem quiet_ddF {P : Program} {f : FuncId} {args : Array Value} {w : World} {n : Nat} {v : Value}
    (h : Calls P f args (w.drewN n) fun e w' => e = .returned v ∧ w.drewN n = w') : Calls P f args (w.drewN n) fun e w'' => e = .returned v ∧ ∃ m, w'' = w.drewN m :=
  h.mono fun _ _ ⟨he, hm⟩ => ⟨he, n, hm.symm⟩
def cmpI (x y : Int) : Int := if x < y then -1 else if y < x then 1 else 0
set_option maxHeartbeats 400000 in
theorem nanI_any (x : Int) (w : World) : Calls Tryz.prog 179 #[.int .i64 x] w fun e w' => e = .returned (.bool false) ∧ w = w' := by
  have h : (x != x) = false := by simp
  have h2 : (x == x) = true := by simp
  go_enter Tryz.func179, Tryz.ntmps179
  go_wp2_with fail
  go_ret
  exact ⟨by simp, rfl⟩
/-- What slices.Compare answers of two pairs. -/
def cmpP (a b c d : Int) : Int := if cmpI a c ≠ 0 then cmpI a c else cmpI b d
theorem cmpI_zero (x y : Int) : cmpI x y = 0 ↔ x = y := by unfold cmpI; split <;> (try split) <;> omega
theorem cmpI_lt (x y : Int) : cmpI x y < 0 ↔ x < y := by unfold cmpI; split <;> (try split) <;> omega
theorem cmpP_lt (a b c d : Int) : (cmpP a b c d < 0) ↔ lessP [a, b] [c, d] = true := by
  have h : lessP [a, b] [c, d] = (decide (a < c) || (decide (a = c) && decide (b < d))) := rfl
  rw [h]
  unfold cmpP
  by_cases h0 : cmpI a c = 0
  · rw [if_neg (by simpa using h0)]
    have := (cmpI_zero a c).1 h0
    subst this
    rw [cmpI_lt]
    simp
  · rw [if_pos h0, cmpI_lt]
    have := mt (cmpI_zero a c).2 h0
    simp [this]
theorem bel_dF {B : Nat} {a w : World} (h : Below B a w) (n : Nat) : Below B a (w.drewN n) := ⟨h.os, h.tape, h.output, h.size, h.block⟩
theorem quiet_bel {P : Program} {f : FuncId} {args : Array Value} {w : World} {v : Value}
    (h : Calls P f args w fun e w' => e = .returned v ∧ ∃ q, w' = w.drewN q) : Calls P f args w fun e w' => e = .returned v ∧ Below w.heap.size w w' :=
  h.mono fun _ _ ⟨he, q, hq⟩ => ⟨he, by rw [hq]; exact bel_dF (Below.refl _ w) q⟩
def figB (n : Int) (s : ByteArray) (ls : List (List Int)) : Bool := nameB s.data.toList && linesB n ls
theorem fin_FigI : True := trivial
end

section
open Go.RowKit
set_option linter.unusedVariables false

def figV (zs : List StarV) (s : ByteArray) (ls : List (List Int)) : Bool := okL zs && figB (zs.length : Int) s ls
theorem fin_FigV : True := trivial
end

section
open Go.RowKit Go.Lib
set_option linter.unusedVariables false

def putL : List Int → Int → List Int
  | [], x => [x]
  | y :: ys, x => if y < x then y :: putL ys x else if y = x then y :: ys else x :: y :: ys
theorem putL_mem (xs : List Int) (x z : Int) : z ∈ putL xs x ↔ z ∈ xs ∨ z = x := by
  induction xs with
  | nil => simp [putL]
  | cons y ys ih =>
    unfold putL
    split
    · rw [List.mem_cons, ih, List.mem_cons, or_assoc]
    · split
      · rename_i h
        subst h
        simp only [List.mem_cons]
        constructor
        · intro h; exact Or.inl h
        · rintro (h | h)
          · exact h
          · exact Or.inl h
      · simp only [List.mem_cons]
        constructor
        · rintro (h | h | h)
          · exact Or.inr h
          · exact Or.inl (Or.inl h)
          · exact Or.inl (Or.inr h)
        · rintro ((h | h) | h)
          · exact Or.inr (Or.inl h)
          · exact Or.inr (Or.inr h)
          · exact Or.inl h
theorem putL_sorted (xs : List Int) (x : Int) (h : xs.Pairwise (· < ·)) : (putL xs x).Pairwise (· < ·) := by
  induction xs with
  | nil => simp [putL]
  | cons y ys ih =>
    rw [List.pairwise_cons] at h
    unfold putL
    split
    · rename_i hy
      rw [List.pairwise_cons]
      refine ⟨fun z hz => ?_, ih h.2⟩
      rcases (putL_mem ys x z).1 hz with h1 | h1
      · exact h.1 z h1
      · rw [h1]; exact hy
    · split
      · rw [List.pairwise_cons]; exact h
      · rename_i h1 h2
        rw [List.pairwise_cons, List.pairwise_cons]
        refine ⟨fun z hz => ?_, h⟩
        rcases List.mem_cons.1 hz with h3 | h3
        · rw [h3]; omega
        · have := h.1 z h3; omega
theorem uniqS (l1 l2 : List Int) (h1 : l1.Pairwise (· < ·)) (h2 : l2.Pairwise (· < ·)) (h : ∀ z, z ∈ l1 ↔ z ∈ l2) : l1 = l2 := by
  induction l1 generalizing l2 with
  | nil =>
    cases l2 with
    | nil => rfl
    | cons y ys => exact absurd ((h y).2 List.mem_cons_self) (by simp)
  | cons x xs ih =>
    cases l2 with
    | nil => exact absurd ((h x).1 List.mem_cons_self) (by simp)
    | cons y ys =>
      rw [List.pairwise_cons] at h1 h2
      have hxy : x = y := by
        rcases List.mem_cons.1 ((h x).1 List.mem_cons_self) with e | e
        · exact e
        · rcases List.mem_cons.1 ((h y).2 List.mem_cons_self) with e' | e'
          · exact e'.symm
          · have a := h2.1 x e
            have b := h1.1 y e'
            omega
      subst hxy
      congr 1
      refine ih ys h1.2 h2.2 (fun z => ⟨fun hz => ?_, fun hz => ?_⟩)
      · rcases List.mem_cons.1 ((h z).1 (List.mem_cons_of_mem _ hz)) with e | e
        · have := h1.1 z hz; omega
        · exact e
      · rcases List.mem_cons.1 ((h z).2 (List.mem_cons_of_mem _ hz)) with e | e
        · have := h2.1 z hz; omega
        · exact e
theorem fold_sorted (zs : List Int) : ∀ (xs : List Int), xs.Pairwise (· < ·) → (zs.foldl putL xs).Pairwise (· < ·) ∧ ∀ z, z ∈ zs.foldl putL xs ↔ z ∈ xs ∨ z ∈ zs := by
  induction zs with
  | nil => intro xs h; exact ⟨h, fun z => by simp⟩
  | cons y ys ih =>
    intro xs h
    obtain ⟨a, b⟩ := ih (putL xs y) (putL_sorted xs y h)
    refine ⟨a, fun z => ?_⟩
    rw [List.foldl_cons, b, putL_mem, List.mem_cons, or_assoc]
theorem compact_ok (d : Array Int) (hs : ∀ i j, i ≤ j → j < d.size → d[i]! ≤ d[j]!) (m : Nat) (hm : m ≤ d.size) :
    (compactUpTo d m).Pairwise (· < ·) ∧ ∀ z, z ∈ compactUpTo d m ↔ ∃ j, j < m ∧ d[j]! = z := by
  induction m with
  | zero => exact ⟨by simp [compactUpTo], fun z => by simp [compactUpTo]⟩
  | succ m ih =>
    obtain ⟨a, b⟩ := ih (by omega)
    rw [compactUpTo_succ]
    by_cases h0 : m = 0
    · subst h0
      have e : compactUpTo d 0 = [] := by simp [compactUpTo]
      have k : keeps d 0 = true := keeps_lt_one d 0 (by omega)
      rw [e, k]
      refine ⟨by simp, fun z => ?_⟩
      simp only [if_true, List.nil_append, List.mem_singleton]
      constructor
      · intro h; exact ⟨0, by omega, h.symm⟩
      · rintro ⟨j, hj, h⟩
        obtain rfl : j = 0 := by omega
        exact h.symm
    · by_cases hk : d[m]! = d[m - 1]!
      · rw [keeps_neg (by omega) hk]
        simp only [Bool.false_eq_true, if_false, List.append_nil]
        refine ⟨a, fun z => ?_⟩
        rw [b]
        constructor
        · rintro ⟨j, hj, h⟩; exact ⟨j, by omega, h⟩
        · rintro ⟨j, hj, h⟩
          by_cases c : j = m
          · subst c; exact ⟨j - 1, by omega, by rw [← hk]; exact h⟩
          · exact ⟨j, by omega, h⟩
      · rw [keeps_pos hk]
        simp only [if_true]
        refine ⟨?_, fun z => ?_⟩
        · rw [List.pairwise_append]
          refine ⟨a, by simp, fun x hx y hy => ?_⟩
          obtain ⟨j, hj, h⟩ := (b x).1 hx
          rw [List.mem_singleton] at hy
          have h1 := hs j (m - 1) (by omega) (by omega)
          have h2 := hs (m - 1) m (by omega) (by omega)
          rw [hy, ← h]
          omega
        · rw [List.mem_append, b, List.mem_singleton]
          constructor
          · rintro (⟨j, hj, h⟩ | h)
            · exact ⟨j, by omega, h⟩
            · exact ⟨m, by omega, h.symm⟩
          · rintro ⟨j, hj, h⟩
            by_cases c : j = m
            · subst c; exact Or.inr h.symm
            · exact Or.inl ⟨j, by omega, h⟩
theorem ends_eq (zs : List Int) : compact (zs.mergeSort fun x y => decide (x ≤ y)) = zs.foldl putL [] := by
  have hsort : (zs.mergeSort fun x y => decide (x ≤ y)).Pairwise (· ≤ ·) := by
    have h := List.pairwise_mergeSort (le := fun x y : Int => decide (x ≤ y)) (fun a b c h1 h2 => by simp at *; omega) (fun a b => by simp; omega) zs
    exact h.imp (fun h => by simpa using h)
  have hmem : ∀ z, z ∈ (zs.mergeSort fun x y => decide (x ≤ y)) ↔ z ∈ zs := fun z => (List.mergeSort_perm zs _).mem_iff
  generalize (zs.mergeSort fun x y => decide (x ≤ y)) = ys at *
  have hget : ∀ j (h : j < ys.length), ys.toArray[j]! = ys[j] := fun j h => by simp [h]
  obtain ⟨a, b⟩ := compact_ok ys.toArray (fun i j hij hj => by
    have hj' : j < ys.length := by simpa using hj
    rw [hget i (by omega), hget j hj']
    rcases Nat.lt_or_ge i j with c | c
    · exact List.pairwise_iff_getElem.1 hsort i j (by omega) hj' c
    · obtain rfl : i = j := by omega
      exact Int.le_refl _) ys.length (by simp)
  obtain ⟨c, d⟩ := fold_sorted zs [] List.Pairwise.nil
  refine uniqS _ _ a c (fun z => ?_)
  show z ∈ compactUpTo ys.toArray ys.length ↔ _
  rw [b, d, ← hmem z]
  simp only [List.not_mem_nil, false_or]
  constructor
  · rintro ⟨j, hj, h⟩
    rw [hget j hj] at h
    rw [← h]
    exact List.getElem_mem hj
  · intro h
    obtain ⟨j, hj, h⟩ := List.mem_iff_getElem.1 h
    exact ⟨j, hj, by rw [hget j hj]; exact h⟩

theorem own_belowE {B : Nat} {w0 w w1 : World} {e : TypeId} {v : Value} {n : Nat} {xs : List Value} {o : Obj} (hown : w.ownsRow B e 1 v n xs) (hb : Below B w0 w) (hB : B ≤ w.heap.size)
    (hg : (w.alloc o).grownBy w1 v.ownBlock) : Below B w0 w1 ∧ B ≤ w1.heap.size := by
  refine ⟨(hb.alloc hB o).grown hg (by simp; omega) (fun k hk => (hown.lt k hk).1), ?_⟩
  have := hg.size
  simp at this
  omega
theorem one_cellE (w : World) (T : TypeId) (c : Int) : ∀ (j : Nat) u, [Value.int .i64 c][j]? = some u → (w.alloc (.cells #[.int .i64 c] T)).cell? ((⟨w.heap.size, 0, none⟩ : Addr).add j) = some u := by
  intro j u hj
  match j, hj with
  | 0, hj => simp at hj; subst hj; simp [Addr.add]
theorem one_plainE (c : Int) : ∀ u ∈ [Value.int .i64 c], u.oneCell' = true := by
  intro u hu
  simp at hu
  subst hu
  rfl
theorem ownsRow_belowE {B : Nat} {w w' : World} {e : TypeId} {v : Value} {n : Nat} {xs : List Value} (h : w.ownsRow B e 1 v n xs) (hb : Below w.heap.size w w') : w'.ownsRow B e 1 v n xs :=
  h.kept (⟨hb.os, hb.tape, hb.output, hb.size, fun k hk _ => hb.block k hk⟩ : w.grownBy w' none) (by cases hv : v.ownBlock <;> simp)

/-- One step of putting a number into a list. -/
def stepP (x : Int) (s : List Int × Bool) (y : Int) : List Int × Bool := if s.2 = false ∧ x ≤ y then ((if x < y then s.1 ++ [x] else s.1) ++ [y], true) else (s.1 ++ [y], s.2)
theorem stepP_true (x : Int) (ys : List Int) : ∀ o, ys.foldl (stepP x) (o, true) = (o ++ ys, true) := by
  induction ys with
  | nil => intro o; simp
  | cons y ys ih =>
    intro o
    rw [List.foldl_cons]
    have e : stepP x (o, true) y = (o ++ [y], true) := by unfold stepP; simp
    rw [e, ih, List.append_assoc]
    rfl
theorem stepP_false (x : Int) (ys : List Int) : ∀ o, (ys.foldl (stepP x) (o, false)).2 = true ∧ (ys.foldl (stepP x) (o, false)).1 = o ++ putL ys x ∨ (ys.foldl (stepP x) (o, false)).2 = false ∧ (ys.foldl (stepP x) (o, false)).1 ++ [x] = o ++ putL ys x := by
  induction ys with
  | nil => intro o; right; simp [putL]
  | cons y ys ih =>
    intro o
    rw [List.foldl_cons]
    by_cases h : x ≤ y
    · left
      have e : stepP x (o, false) y = ((if x < y then o ++ [x] else o) ++ [y], true) := by unfold stepP; simp [h]
      rw [e, stepP_true]
      refine ⟨rfl, ?_⟩
      have ep : putL (y :: ys) x = if y = x then y :: ys else x :: y :: ys := by rw [putL, if_neg (by omega)]
      show (if x < y then o ++ [x] else o) ++ [y] ++ ys = _
      rw [ep]
      by_cases c : x < y
      · rw [if_pos c, if_neg (by omega)]
        simp
      · rw [if_neg c, if_pos (by omega)]
        simp
    · have e : stepP x (o, false) y = (o ++ [y], false) := by unfold stepP; simp [h]
      rw [e]
      have ep : putL (y :: ys) x = y :: putL ys x := by rw [putL, if_pos (by omega)]
      rcases ih (o ++ [y]) with ⟨a, b⟩ | ⟨a, b⟩
      · left; exact ⟨a, by rw [b, ep]; simp⟩
      · right; exact ⟨a, by rw [b, ep]; simp⟩
def putS (xs : List Int) (x : Int) (j : Nat) : List Int × Bool := (xs.take j).foldl (stepP x) ([], false)
theorem putS_next (xs : List Int) (x : Int) (j : Nat) (h : j < xs.length) : putS xs x (j + 1) = stepP x (putS xs x j) xs[j] := by
  unfold putS
  rw [List.take_succ_eq_append_getElem h, List.foldl_append]
  rfl
theorem putS_end (xs : List Int) (x : Int) : putL xs x = if (putS xs x xs.length).2 = true then (putS xs x xs.length).1 else (putS xs x xs.length).1 ++ [x] := by
  unfold putS
  rw [List.take_length]
  rcases stepP_false x xs [] with ⟨a, b⟩ | ⟨a, b⟩
  · rw [a, if_pos rfl, b]; rfl
  · rw [a, if_neg (by simp), b]; rfl
theorem putL_len (xs : List Int) (x : Int) : (putL xs x).length ≤ xs.length + 1 := by
  induction xs with
  | nil => simp [putL]
  | cons y ys ih =>
    unfold putL
    split
    · simp only [List.length_cons]; omega
    · split <;> simp
theorem stepP_len (x : Int) (ys : List Int) : ∀ s, (ys.foldl (stepP x) s).1.length ≤ s.1.length + 2 * ys.length := by
  induction ys with
  | nil => intro s; simp
  | cons y ys ih =>
    intro s
    rw [List.foldl_cons]
    have h := ih (stepP x s y)
    have h2 : (stepP x s y).1.length ≤ s.1.length + 2 := by
      unfold stepP
      split
      · simp only [List.length_append, List.length_cons, List.length_nil]
        split <;> simp
      · simp
    simp only [List.length_cons]
    omega
theorem putS_len (xs : List Int) (x : Int) (j : Nat) (h : xs.length ≤ 1000) : (putS xs x j).1.length ≤ 2000 := by
  have h1 := stepP_len x (xs.take j) ([], false)
  have h2 : (xs.take j).length ≤ 1000 := by rw [List.length_take]; omega
  unfold putS
  simp only [List.length_nil] at h1
  omega

/-- The call returned a slice of its own with these numbers. -/
def OwnPost (zs : List Int) (w : World) (e : Ending) (w' : World) : Prop :=
  ∃ v, e = .returned v ∧ w'.ownsRow w.heap.size 2 1 v zs.length (zs.map (Value.int .i64)) ∧ Below w.heap.size w w'

/-- The numbers of the first j lines, each once, in order. -/
def endsL (ls : List (List Int)) : List Int := ls.flatten.foldl putL []
def endsUp (ls : List (List Int)) (j : Nat) : List Int := (ls.take j).flatten.foldl putL []
theorem endsUp_next (ls : List (List Int)) (j : Nat) (h : j < ls.length) (a c : Int) (hac : ls[j] = [a, c]) : endsUp ls (j + 1) = putL (putL (endsUp ls j) a) c := by
  unfold endsUp
  rw [List.take_succ_eq_append_getElem h, hac, List.flatten_append, List.foldl_append]
  rfl
theorem endsUp_len (ls : List (List Int)) (hl : ∀ j, (h : j < ls.length) → ∃ a c : Int, ls[j] = [a, c]) (j : Nat) (hj : j ≤ ls.length) : (endsUp ls j).length ≤ 2 * j := by
  induction j with
  | zero => simp [endsUp]
  | succ j ih =>
    obtain ⟨a, c, hac⟩ := hl j (by omega)
    rw [endsUp_next ls j (by omega) a c hac]
    have h1 := putL_len (endsUp ls j) a
    have h2 := putL_len (putL (endsUp ls j) a) c
    have h3 := ih (by omega)
    omega
theorem own_slice {B : Nat} {w : World} {v : Value} {xs : List Int} (h : w.ownsRow B 2 1 v xs.length (xs.map (Value.int .i64))) : ∃ (a : Option Addr) (cap : Nat), v = .slice a xs.length cap ∧ (xs.length = 0 ∨ ∃ g, a = some ⟨g, 0, none⟩ ∧ g < w.heap.size ∧ ∀ j, (hj : j < xs.length) → w.cell? ⟨g, j, none⟩ = some (.int .i64 xs[j])) := by
  rcases h.2 with ⟨hv, h0⟩ | ⟨g, cap, cur, hv, _, hh, _, _, _, _⟩
  · exact ⟨none, 0, by rw [hv, h0], Or.inl h0⟩
  · refine ⟨some ⟨g, 0, none⟩, cap, hv, Or.inr ⟨g, rfl, (Array.getElem?_eq_some_iff.1 hh).1, fun j hj => ?_⟩⟩
    subst hv
    rw [h.cellAt j (by omega), List.getElem?_map, List.getElem?_eq_getElem hj]
    rfl

theorem fin_Ends : True := trivial
end

section
open Go.RowKit
set_option linter.unusedVariables false

theorem ddM_small (u : Nat) (h : u < 10) : Lib.decDigits u = [UInt8.ofNat (48 + u)] := by rw [Lib.decDigits, dif_pos h]
theorem ddM_big (u : Nat) (h : ¬ u < 10) : Lib.decDigits u = Lib.decDigits (u / 10) ++ [UInt8.ofNat (48 + u % 10)] := by rw [Lib.decDigits, dif_neg h]
/-- The numbers k, k + 1, .. -/
def marks (k : Int) : Nat → List Int
  | 0 => []
  | n + 1 => k :: marks (k + 1) n
theorem marks_len : ∀ (n : Nat) (k : Int), (marks k n).length = n
  | 0, _ => rfl
  | n + 1, k => by rw [marks, List.length_cons, marks_len n (k + 1)]
theorem marks_get : ∀ (n : Nat) (k : Int) (j : Nat) (_h : j < n), (marks k n)[j]? = some (k + j)
  | n + 1, k, 0, _ => by rw [marks]; simp
  | n + 1, k, j + 1, _ => by
    rw [marks, List.getElem?_cons_succ, marks_get n (k + 1) j (by omega)]
    congr 1; omega

set_option maxHeartbeats 400000 in
theorem eqI_empty (a b : Option Addr) (ca cb : Nat) (w : World) :
    Calls Tryz.prog 11 #[.slice a 0 ca, .slice b 0 cb] w fun e w' => e = .returned (.bool true) ∧ ∃ q, w' = w.drewN q := by
  go_enter Tryz.func11, Tryz.ntmps11
  go_wp2_with fail
  go_loop [5] (fun i => i = .int .i64 0) (fun _ => 0)
  case atStart => rfl
  case round =>
    subst hrel
    go_wp2_with fail
    go_ret
    exact ⟨rfl, 0, rfl⟩

set_option maxHeartbeats 1000000 in
theorem eqI_full (g h ca cb : Nat) (zs : List Int) (w : World) (hb : zs.length ≤ 1048576)
    (hg : ∀ j, (hj : j < zs.length) → w.cell? ⟨g, j, none⟩ = some (.int .i64 zs[j])) (hh : ∀ j, (hj : j < zs.length) → w.cell? ⟨h, j, none⟩ = some (.int .i64 zs[j])) :
    Calls Tryz.prog 11 #[.slice (some ⟨g, 0, none⟩) zs.length ca, .slice (some ⟨h, 0, none⟩) zs.length cb] w fun e w' => e = .returned (.bool true) ∧ ∃ q, w' = w.drewN q := by
  have HG := Lib.hid hg
  have HH := Lib.hid hh
  clear hg hh
  go_enter Tryz.func11, Tryz.ntmps11
  go_wp2_with fail
  go_loopw [5] (fun i wr => ∃ (j q : Nat), i = .int .i64 (j : Int) ∧ j ≤ zs.length ∧ wr = w.drewN q) (fun i _ => zs.length - (intOf i).toNat)
  case atStart => exact ⟨0, 0, rfl, Nat.zero_le _, rfl⟩
  case round =>
    obtain ⟨j, q, rfl, hj, rfl⟩ := hrel
    by_cases hlt : j < zs.length
    · have c1 := HG.out j hlt
      have c2 := HH.out j hlt
      generalize zs[j] = z at *
      go_wp2_with fail
      go_quiet (fail)
      go_wp2_with fail
      go_roundw
      case rel => exact ⟨j + 1, _, by go_num, by omega, rfl⟩
      case measure => (simp [intOf] <;> omega)
    · go_wp2_with fail
      go_ret
      exact ⟨rfl, q, rfl⟩

theorem cells_own {w : World} {B g cap : Nat} {e : TypeId} {zs : List Int} (h : w.ownsRow B e 1 (.slice (some ⟨g, 0, none⟩) zs.length cap) zs.length (zs.map (Value.int .i64))) :
    ∀ j, (hj : j < zs.length) → w.cell? ⟨g, j, none⟩ = some (.int .i64 zs[j]) := by
  intro j hj
  rw [h.cellAt j (by omega), List.getElem?_map, List.getElem?_eq_getElem hj]
  rfl
theorem eqI_same {B C : Nat} {v u : Value} {zs : List Int} {w : World} (hb : zs.length ≤ 1048576) (h1 : w.ownsRow B 2 1 v zs.length (zs.map (Value.int .i64))) (h2 : w.ownsRow C 2 1 u zs.length (zs.map (Value.int .i64))) :
    Calls Tryz.prog 11 #[v, u] w fun e w' => e = .returned (.bool true) ∧ ∃ q, w' = w.drewN q := by
  by_cases hz : zs.length = 0
  · rw [hz] at h1 h2
    rcases Go.Joins.ownsRow_forms h1 with ⟨rfl, _⟩ | ⟨g, c, rfl⟩ <;> rcases Go.Joins.ownsRow_forms h2 with ⟨rfl, _⟩ | ⟨g', c', rfl⟩ <;> exact eqI_empty _ _ _ _ _
  · obtain ⟨g, c, rfl⟩ := Go.Joins.ownsRow_form h1 (by omega)
    obtain ⟨g', c', rfl⟩ := Go.Joins.ownsRow_form h2 (by omega)
    exact eqI_full g g' c c' zs w hb (cells_own h1) (cells_own h2)

/-- The marks so far, the old numbers behind them. -/
def marked (k : Int) (zs : List Int) (j : Nat) : List Int := marks k j ++ zs.drop j
theorem marked_len (k : Int) (zs : List Int) (j : Nat) (h : j ≤ zs.length) : (marked k zs j).length = zs.length := by
  unfold marked
  rw [List.length_append, marks_len, List.length_drop]
  omega
theorem marks_snoc : ∀ (j : Nat) (k : Int), marks k (j + 1) = marks k j ++ [k + j]
  | 0, k => by simp [marks]
  | j + 1, k => by
    rw [marks, marks_snoc j (k + 1), marks, List.cons_append]
    congr 3
    omega
theorem marked_set (k : Int) (zs : List Int) (j : Nat) (h : j < zs.length) : (marked k zs j).set j (k + j) = marked k zs (j + 1) := by
  unfold marked
  rw [marks_snoc, List.drop_eq_getElem_cons h, List.set_append_right _ _ (by rw [marks_len]; omega), marks_len, Nat.sub_self, List.set_cons_zero, List.append_assoc]
  rfl
theorem marked_done (k : Int) (zs : List Int) : marked k zs zs.length = marks k zs.length := by
  unfold marked
  rw [List.drop_length, List.append_nil]

set_option maxHeartbeats 400000 in
theorem markI_empty (a : Option Addr) (ca : Nat) (k : Int) (w : World) :
    Calls Tryz.prog 14 #[.slice a 0 ca, .int .i64 k] w fun e w' => e = .returned (.int .i64 k) ∧ w = w' := by
  go_enter Tryz.func14, Tryz.ntmps14
  go_wp2_with fail
  go_loop [1, 5] (fun t i => i = .int .i64 0 ∧ t = .int .i64 k) (fun _ _ => 0)
  case atStart => exact ⟨rfl, rfl⟩
  case round =>
    obtain ⟨rfl, rfl⟩ := hrel
    go_wp2_with fail
    go_ret
    exact ⟨rfl, rfl⟩

set_option maxHeartbeats 1000000 in
theorem markI_full (B g ca : Nat) (zs : List Int) (k : Int) (w : World) (hb : zs.length ≤ 1048576) (hk0 : 0 ≤ k) (hk1 : k ≤ 1048576)
    (hown : w.ownsRow B 2 1 (.slice (some ⟨g, 0, none⟩) zs.length ca) zs.length (zs.map (Value.int .i64))) :
    Calls Tryz.prog 14 #[.slice (some ⟨g, 0, none⟩) zs.length ca, .int .i64 k] w fun e w' => e = .returned (.int .i64 (k + zs.length)) ∧ w'.ownsRow B 2 1 (.slice (some ⟨g, 0, none⟩) zs.length ca) zs.length ((marks k zs.length).map (Value.int .i64)) ∧ Below B w w' := by
  have hBg := (hown.lt g rfl).1
  have OWN := Lib.hid hown
  clear hown
  go_enter Tryz.func14, Tryz.ntmps14
  go_wp2_with fail
  go_loopw [1, 5] (fun t i wr => ∃ j : Nat, i = .int .i64 (j : Int) ∧ t = .int .i64 (k + j) ∧ j ≤ zs.length ∧ wr.ownsRow B 2 1 (.slice (some ⟨g, 0, none⟩) zs.length ca) zs.length ((marked k zs j).map (Value.int .i64)) ∧ Below B w wr) (fun _ i _ => zs.length - (intOf i).toNat)
  case atStart => exact ⟨0, rfl, by go_num, Nat.zero_le _, OWN.out, Below.refl _ _⟩
  case round =>
    obtain ⟨j, rfl, rfl, hj, hown, hbel⟩ := hrel
    by_cases hlt : j < zs.length
    · have hml := marked_len k zs j hj
      have c1 : ∃ z, wr.cell? ⟨g, j, none⟩ = some (.int .i64 z) := by
        rw [hown.cellAt j (by omega), List.getElem?_map, List.getElem?_eq_getElem (by omega)]
        exact ⟨_, rfl⟩
      obtain ⟨z, c1⟩ := c1
      have f1 : wr.frozen? ⟨g, j, none⟩ = false := hown.frozenAt j
      have hst := (hown.stored j (.int .i64 (k + j))).1
      rw [← List.map_set, marked_set k zs j hlt] at hst
      have ST := Lib.hid hst
      have BL := Lib.hid (hbel.setCell (p := ⟨g, j, none⟩) hBg (.int .i64 (k + j)))
      clear hown hst hml hbel
      go_wp2_with fail
      go_roundw
      case rel => exact ⟨j + 1, by go_num, by go_num, by omega, ST.out, BL.out⟩
      case measure => (simp [intOf] <;> omega)
    · obtain rfl : j = zs.length := by omega
      rw [marked_done] at hown
      go_wp2_with fail
      go_ret
      exact ⟨rfl, hown, hbel⟩
theorem markI_any {B : Nat} {v : Value} {zs : List Int} {w : World} (k : Int) (hb : zs.length ≤ 1048576) (hk0 : 0 ≤ k) (hk1 : k ≤ 1048576) (h : w.ownsRow B 2 1 v zs.length (zs.map (Value.int .i64))) :
    Calls Tryz.prog 14 #[v, .int .i64 k] w fun e w' => e = .returned (.int .i64 (k + zs.length)) ∧ w'.ownsRow B 2 1 v zs.length ((marks k zs.length).map (Value.int .i64)) ∧ Below B w w' := by
  by_cases hz : zs.length = 0
  · obtain rfl : zs = [] := List.length_eq_zero_iff.1 hz
    have fin : ∀ (a : Option Addr) (c : Nat), v = .slice a 0 c → Calls Tryz.prog 14 #[v, .int .i64 k] w fun e w' => e = .returned (.int .i64 (k + (([] : List Int).length : Int))) ∧ w'.ownsRow B 2 1 v ([] : List Int).length ((marks k ([] : List Int).length).map (Value.int .i64)) ∧ Below B w w' := by
      intro a c hv
      subst hv
      refine (markI_empty a c k w).mono fun e w' ⟨he, hw⟩ => ?_
      subst hw
      exact ⟨by rw [he]; exact ret_int (by simp), h, Below.refl _ _⟩
    rcases Go.Joins.ownsRow_forms h with ⟨hv, _⟩ | ⟨g, c, hv⟩
    · exact fin _ _ hv
    · exact fin _ _ hv
  · obtain ⟨g, c, rfl⟩ := Go.Joins.ownsRow_form h (by omega)
    exact markI_full B g c zs k w hb hk0 hk1 h

set_option maxHeartbeats 400000 in
theorem heldI_empty (a : Option Addr) (ca : Nat) (k : Int) (w : World) :
    Calls Tryz.prog 15 #[.slice a 0 ca, .int .i64 k] w fun e w' => e = .returned (.int .i64 k) ∧ w = w' := by
  go_enter Tryz.func15, Tryz.ntmps15
  go_wp2_with fail
  go_loop [1, 5] (fun t i => i = .int .i64 0 ∧ t = .int .i64 k) (fun _ _ => 0)
  case atStart => exact ⟨rfl, rfl⟩
  case round =>
    obtain ⟨rfl, rfl⟩ := hrel
    go_wp2_with fail
    go_ret
    exact ⟨rfl, rfl⟩
set_option maxHeartbeats 1000000 in
theorem heldI_full (g ca n : Nat) (k : Int) (w : World) (hb : n ≤ 1048576) (hk0 : 0 ≤ k) (hk1 : k ≤ 1048576)
    (hc : ∀ j, j < n → w.cell? ⟨g, j, none⟩ = some (.int .i64 (k + j))) :
    Calls Tryz.prog 15 #[.slice (some ⟨g, 0, none⟩) n ca, .int .i64 k] w fun e w' => e = .returned (.int .i64 (k + n)) ∧ w = w' := by
  have HC := Lib.hid hc
  clear hc
  go_enter Tryz.func15, Tryz.ntmps15
  go_wp2_with fail
  go_loop [1, 5] (fun t i => ∃ j : Nat, i = .int .i64 (j : Int) ∧ t = .int .i64 (k + j) ∧ j ≤ n) (fun _ i => n - (intOf i).toNat)
  case atStart => exact ⟨0, rfl, by go_num, Nat.zero_le _⟩
  case round =>
    obtain ⟨j, rfl, rfl, hj⟩ := hrel
    by_cases hlt : j < n
    · have c1 := HC.out j hlt
      go_wp2_with fail
      go_round
      case rel => exact ⟨j + 1, by go_num, by go_num, by omega⟩
      case measure => (simp [intOf] <;> omega)
    · obtain rfl : j = n := by omega
      go_wp2_with fail
      go_ret
      exact ⟨rfl, rfl⟩
theorem heldI_any {B n : Nat} {v : Value} {w : World} (k : Int) (hb : n ≤ 1048576) (hk0 : 0 ≤ k) (hk1 : k ≤ 1048576) (h : w.ownsRow B 2 1 v n ((marks k n).map (Value.int .i64))) :
    Calls Tryz.prog 15 #[v, .int .i64 k] w fun e w' => e = .returned (.int .i64 (k + n)) ∧ w = w' := by
  by_cases hz : n = 0
  · subst hz
    rcases Go.Joins.ownsRow_forms h with ⟨rfl, _⟩ | ⟨g, c, rfl⟩
    · exact (heldI_empty _ _ k w).mono fun e w' ⟨he, hw⟩ => ⟨by rw [he]; exact ret_int (by simp), hw⟩
    · exact (heldI_empty _ _ k w).mono fun e w' ⟨he, hw⟩ => ⟨by rw [he]; exact ret_int (by simp), hw⟩
  · obtain ⟨g, c, rfl⟩ := Go.Joins.ownsRow_form h (by omega)
    refine heldI_full g c n k w hb hk0 hk1 fun j hj => ?_
    rw [h.cellAt j (by omega), List.getElem?_map, marks_get n k j hj]
    rfl
theorem owns_drewN {w : World} {B : Nat} {e : TypeId} {v : Value} {n : Nat} {xs : List Value} (h : w.ownsRow B e 1 v n xs) (q : Nat) : (w.drewN q).ownsRow B e 1 v n xs := h
/-- The digits of a number, none for 0. -/
def dd0 (m : Nat) : List UInt8 := if m = 0 then [] else Lib.decDigits m
theorem dd0_step (m : Nat) (h : m ≠ 0) : dd0 m = dd0 (m / 10) ++ [UInt8.ofNat (48 + m % 10)] := by
  unfold dd0
  rw [if_neg h]
  by_cases c : m < 10
  · rw [ddM_small m c, if_pos (by omega), Nat.mod_eq_of_lt c]; rfl
  · rw [ddM_big m c, if_neg (by omega)]
/-- The text of a number. -/
def mkT (k : Nat) : ByteArray := ⟨(109 :: dd0 k).toArray⟩

theorem bytes_inj' {a b : ByteArray} (h : a.data.toList = b.data.toList) : a = b := WideShapes.bytes_inj h

set_option maxRecDepth 100000 in
set_option maxHeartbeats 1000000 in
theorem markText_any (k : Nat) (w : World) (h0 : 1 ≤ k) (h1 : k ≤ 4503599627370496) :
    Calls Tryz.prog 37 #[.int .i64 (k : Int)] w fun e w' => e = .returned (.string (mkT k)) ∧ Below w.heap.size w w' := by
  have h0' : decide ((k : Int) ≤ 0) = false := by simp; omega
  have h0'' : (k == 0) = false := beq_eq_false_iff_ne.2 (by omega)
  have h0d : decide (k = 0) = false := by simp; omega
  go_enter Tryz.func37, Tryz.ntmps37
  go_wp2_with fail
  go_loopw [0, 3] (fun t o wr => ∃ (m : Nat) (l : List UInt8), t = .int .i64 (m : Int) ∧ o = .string ⟨l.toArray⟩ ∧ l.length + m ≤ k ∧ dd0 m ++ l = dd0 k ∧ Below w.heap.size w wr ∧ w.heap.size ≤ wr.heap.size) (fun t _ _ => (intOf t).toNat)
  case atStart => exact ⟨k, [], rfl, rfl, by simp, List.append_nil _, Below.refl _ _, Nat.le_refl _⟩
  case round =>
    obtain ⟨m, l, rfl, rfl, hm, hl, hbel, hsz⟩ := hrel
    have HL := Lib.hid hl
    clear hl
    by_cases hz : 1 ≤ m
    · have hz' : decide (0 < m) = true := by simp; omega
      have hst := dd0_step m (by omega)
      have HS := Lib.hid hst
      clear hst
      have hconv := run_convert_bytes_arg (P := Tryz.prog) (wr.alloc (.cells #[.int .u8 (48 + (m : Int) % 10)] 5)) 95 5 Tryz.underlying95 Tryz.underlying5 wr.heap.size 0 1 1 [48 + (m : Int) % 10] rfl (fun i hi => by
        obtain rfl : i = 0 := by omega
        simp) 9 Tryz.underlying9
      have hsl : ¬ 9223372036854775807 < (strOfNums [48 + (m : Int) % 10]).size + l.length := by
        rw [strOfNums_size]; simp; omega
      have hstr : strOfNums [48 + (m : Int) % 10] ++ (⟨l.toArray⟩ : ByteArray) = ⟨(UInt8.ofNat (48 + m % 10) :: l).toArray⟩ := by
        apply bytes_inj'
        rw [ByteArray.data_append, Array.toList_append, strOfNums_data]
        have : (48 + (m : Int) % 10).toNat = 48 + m % 10 := by omega
        simp [this]
      have HT := Lib.hid hstr
      clear hstr
      have hb2 := hbel.alloc hsz (.cells #[.int .u8 (48 + (m : Int) % 10)] 5)
      clear hbel
      go_wp2_with fail
      go_roundw
      case rel => exact ⟨m / 10, UInt8.ofNat (48 + m % 10) :: l, by go_num, by rw [HT.out], by rw [List.length_cons]; omega, by rw [← HL.out, HS.out, List.append_assoc]; rfl, hb2, by simp; omega⟩
      case measure => (simp [intOf] <;> omega)
    · obtain rfl : m = 0 := by omega
      have hl : l = dd0 k := by have := HL.out; simpa [dd0] using this
      have LL := Lib.hid hl
      have hsl : ¬ 9223372036854775807 < 1 + l.length := by omega
      have hsl2 : ¬ 9223372036854775807 < l.length + 1 := by omega
      clear hl
      go_wp2_with fail
      go_ret
      exact ⟨ret_str (by rw [LL.out]; rfl), hbel⟩
theorem markText_int (n : Int) (k : Nat) (hk : n = (k : Int)) (w : World) (h0 : 1 ≤ k) (h1 : k ≤ 4503599627370496) :
    Calls Tryz.prog 37 #[.int .i64 n] w fun e w' => e = .returned (.string (mkT k)) ∧ Below w.heap.size w w' := by
  subst hk
  exact markText_any k w h0 h1


theorem gb_refl (w : World) (row : Option Nat) : w.grownBy w row := ⟨rfl, rfl, rfl, Nat.le_refl _, fun _ _ _ => rfl⟩
theorem gb_trans {a b c : World} {row : Option Nat} (h : a.grownBy b row) (k : b.grownBy c row) : a.grownBy c row :=
  ⟨k.os.trans h.os, k.tape.trans h.tape, k.output.trans h.output, Nat.le_trans h.size k.size, fun i hi hne => (k.block i (Nat.lt_of_lt_of_le hi h.size) hne).trans (h.block i hi hne)⟩
theorem gb_of_below {a b : World} (row : Option Nat) (h : Below a.heap.size a b) : a.grownBy b row := ⟨h.os, h.tape, h.output, h.size, fun i hi _ => h.block i hi⟩
theorem gb_below {a b : World} {g B : Nat} (h : a.grownBy b (some g)) (hB : B ≤ g) (hw : B ≤ a.heap.size) : Below B a b :=
  ⟨h.os, h.tape, h.output, h.size, fun i hi => h.block i (by omega) (by simp; omega)⟩
theorem gb_put (w : World) (g o : Nat) (x : StarV) : w.grownBy (putAt w g o x) (some g) := by
  have hb : Below 0 w (putAt w g o x) := putAt_below (Below.refl _ _) (Nat.zero_le _)
  refine ⟨hb.os, hb.tape, hb.output, hb.size, fun k hk hne => ?_⟩
  have hne' : k ≠ g := fun e => hne (by rw [e])
  unfold putAt
  rw [heap_setCell_other _ _ _ _ hne', heap_setCell_other _ _ _ _ hne', heap_setCell_other _ _ _ _ hne', heap_setCell_other _ _ _ _ hne', heap_setCell_other _ _ _ _ hne']

theorem ownsRow_belowN {B : Nat} {w w' : World} {e : TypeId} {v : Value} {n : Nat} {xs : List Value} (h : w.ownsRow B e 1 v n xs) (hb : Below w.heap.size w w') : w'.ownsRow B e 1 v n xs :=
  h.kept (⟨hb.os, hb.tape, hb.output, hb.size, fun k hk _ => hb.block k hk⟩ : w.grownBy w' none) (by cases hv : v.ownBlock <;> simp)
theorem owns_far {w : World} {B g : Nat} {e : TypeId} {v : Value} {n : Nat} {xs : List Value} (h : w.ownsRow B e 1 v n xs) (hg : g < B) : v.ownBlock = none ∨ v.ownBlock ≠ some g := by
  cases hb : v.ownBlock with
  | none => exact Or.inl rfl
  | some b =>
    refine Or.inr (fun e => ?_)
    have h1 := (h.lt b hb).1
    have h2 : b = g := by simpa using e
    omega

set_option maxRecDepth 100000 in
set_option maxHeartbeats 1000000 in
theorem markSt_from (k0 : Nat) (hk0 : 1 ≤ k0) (hk1 : k0 ≤ 2251799813685248) (g cap : Nat) (zs : List StarV) (w : World) (hb : zs.length ≤ 1048577) (h1 : Row w g zs) :
    Calls Tryz.prog 13 #[.slice (some ⟨g, 0, none⟩) zs.length cap, .int .i64 (k0 : Int)] w fun e w' => e = .returned (.int .i64 ((k0 : Int) + 5 * (zs.length : Int))) ∧ w.grownBy w' (some g) := by
  have H1 := Lib.hid h1
  clear h1
  go_enter Tryz.func13, Tryz.ntmps13
  go_wp2_with fail
  go_loopg [1, 5] (zs.length + 1) (fun kx s1 s5 wr => ∃ (j : Nat) (ys : List StarV), s1 = .int .i64 ((k0 : Int) + 5 * (j : Int)) ∧ s5 = .int .i64 (j : Int) ∧ j ≤ zs.length ∧ kx = zs.length + 1 - j ∧ ys.length = zs.length ∧ Hid (Row wr g ys) ∧ Hid (w.grownBy wr (some g)))
  case atStart => exact ⟨0, zs, by go_num, rfl, Nat.zero_le _, rfl, rfl, H1, Lib.hid (gb_refl _ _)⟩
  case round =>
    obtain ⟨j, ys, rfl, rfl, hj, rfl, hy, HR, HG⟩ := hrel
    by_cases hlt : j < zs.length
    · have j0 : (0 : Int) ≤ (j : Int) := by omega
      have j1 : (j : Int) < (zs.length : Int) := by omega
      go_wp2_with fail
      refine (markText_int _ (k0 + 5 * j) (by omega) _ (by omega) (by omega)).mono ?_
      rintro e w2 ⟨rfl, hb2⟩
      have hR2 := HR.out.below hb2
      have HG2 := Lib.hid (gb_trans HG.out (gb_of_below _ hb2))
      obtain ⟨d0, d1, d2, d3, d4⟩ := hR2.at j (by omega)
      have f0 := hR2.free (j * 5)
      have f1 := hR2.free (j * 5 + 1)
      have f2 := hR2.free (j * 5 + 2)
      have f3 := hR2.free (j * 5 + 3)
      have f4 := hR2.free (j * 5 + 4)
      generalize ys[j]'(by omega) = y at d0 d1 d2 d3 d4
      have PU := Lib.hid (fun x => hR2.put j (by omega) x)
      clear hb2 hR2
      generalize mkT (k0 + 5 * j) = tx at *
      go_wp2_with fail
      go_roundg (zs.length + 1 - (j + 1))
      case measure => omega
      case rel => exact ⟨j + 1, _, by go_num, by go_num, by omega, by omega, by rw [List.length_set]; exact hy, Lib.hid (PU.out ⟨_, _, _, _, _⟩), Lib.hid (gb_trans HG2.out (gb_put _ _ _ ⟨_, _, _, _, _⟩))⟩
    · obtain rfl : j = zs.length := by omega
      go_wp2_with fail
      go_ret
      exact ⟨ret_int (by omega), HG.out⟩
theorem markSt_full (g cap : Nat) (zs : List StarV) (w : World) (hb : zs.length ≤ 1048577) (h1 : Row w g zs) :
    Calls Tryz.prog 13 #[.slice (some ⟨g, 0, none⟩) zs.length cap, .int .i64 1] w fun e w' => e = .returned (.int .i64 (1 + 5 * (zs.length : Int))) ∧ w.grownBy w' (some g) :=
  markSt_from 1 (by omega) (by omega) g cap zs w hb h1
theorem fin_StMk1 : True := trivial
end

section
open Go.RowKit
set_option linter.unusedVariables false

/-- Nothing but what lies from lo on, below hi, has changed. -/
structure Spare (lo hi : Nat) (w w' : World) : Prop where
  os : w'.os = w.os
  tape : w'.tape = w.tape
  output : w'.output = w.output
  size : w.heap.size ≤ w'.heap.size
  block : ∀ k, k < w.heap.size → (k < lo ∨ hi ≤ k) → w'.heap[k]? = w.heap[k]?
theorem Spare.refl (lo hi : Nat) (w : World) : Spare lo hi w w := ⟨rfl, rfl, rfl, Nat.le_refl _, fun _ _ _ => rfl⟩
theorem Spare.trans {lo hi : Nat} {a b c : World} (h : Spare lo hi a b) (k : Spare lo hi b c) : Spare lo hi a c :=
  ⟨k.os.trans h.os, k.tape.trans h.tape, k.output.trans h.output, Nat.le_trans h.size k.size, fun i hi' hne => (k.block i (Nat.lt_of_lt_of_le hi' h.size) hne).trans (h.block i hi' hne)⟩
theorem Spare.of_gb {lo hi b : Nat} {w w' : World} (h : w.grownBy w' (some b)) (h1 : lo ≤ b) (h2 : b < hi) : Spare lo hi w w' :=
  ⟨h.os, h.tape, h.output, h.size, fun k hk hne => h.block k hk (by simp; omega)⟩
theorem Spare.below {lo hi B : Nat} {w w' : World} (h : Spare lo hi w w') (h1 : B ≤ lo) (h2 : B ≤ w.heap.size) : Below B w w' :=
  ⟨h.os, h.tape, h.output, h.size, fun k hk => h.block k (by omega) (Or.inl (by omega))⟩
theorem Spare.cell {lo hi : Nat} {w w' : World} (h : Spare lo hi w w') {p : Addr} (h1 : p.block < w.heap.size) (h2 : p.block < lo ∨ hi ≤ p.block) : w'.cell? p = w.cell? p := World.cell?_of_block (h.block _ h1 h2)
theorem Spare.row {lo hi : Nat} {w w' : World} (h : Spare lo hi w w') {g : Nat} {ys : List StarV} (hr : Row w g ys) (h2 : g < lo ∨ hi ≤ g) : Row w' g ys := World.rowIs.of_block hr (h.block g hr.lt h2)
theorem Spare.owns {lo hi : Nat} {w w' : World} (h : Spare lo hi w w') {B : Nat} {e : TypeId} {v : Value} {n : Nat} {xs : List Value} (ho : w.ownsRow B e 1 v n xs) (hB : hi ≤ B) : w'.ownsRow B e 1 v n xs := by
  rcases ho with ⟨h0, hv | ⟨g, cap, cur, hv, hg, hh, r⟩⟩
  · exact ⟨h0, Or.inl hv⟩
  · exact ⟨h0, Or.inr ⟨g, cap, cur, hv, hg, (h.block g (Array.getElem?_eq_some_iff.1 hh).1 (Or.inr (by omega))).trans hh, r⟩⟩
theorem gb_set (w : World) (g j : Nat) (v : Value) : w.grownBy (w.setCell ⟨g, j, none⟩ v) (some g) := by
  have hb : Below 0 w (w.setCell ⟨g, j, none⟩ v) := (Below.refl _ _).setCell (Nat.zero_le _) _
  refine ⟨hb.os, hb.tape, hb.output, hb.size, fun k hk hne => ?_⟩
  have hne' : k ≠ g := fun e => hne (by rw [e])
  rw [heap_setCell_other _ _ _ _ hne']

set_option maxRecDepth 100000 in
set_option maxHeartbeats 1000000 in
theorem markR_any (b n cap : Nat) (f : Nat → Value) (hf : ∀ i, i < n → ∃ z, f i = .int .i64 z) (k : Int) (w : World) (hn : n ≤ 1048577) (hk0 : 0 ≤ k) (hk : k ≤ 4503599627370496) (h : w.rowIs b 2 n f) :
    Calls Tryz.prog 14 #[.slice (some ⟨b, 0, none⟩) n cap, .int .i64 k] w fun e w' => e = .returned (.int .i64 (k + (n : Int))) ∧ w.grownBy w' (some b) ∧ ∃ f', (∀ i, i < n → ∃ z, f' i = .int .i64 z) ∧ w'.rowIs b 2 n f' := by
  have H0 := Lib.hid h
  have HF := Lib.hid hf
  clear h hf
  go_enter Tryz.func14, Tryz.ntmps14
  go_wp2_with fail
  go_loopg [1, 5] (n + 1) (fun kx s1 s5 wr => ∃ (j : Nat), s1 = .int .i64 (k + (j : Int)) ∧ s5 = .int .i64 (j : Int) ∧ j ≤ n ∧ kx = n + 1 - j ∧ Hid (∃ f', (∀ i, i < n → ∃ z, f' i = .int .i64 z) ∧ wr.rowIs b 2 n f') ∧ Hid (w.grownBy wr (some b)))
  case atStart => exact ⟨0, by go_num, rfl, Nat.zero_le _, rfl, Lib.hid ⟨f, HF.out, H0.out⟩, Lib.hid (gb_refl _ _)⟩
  case round =>
    obtain ⟨j, rfl, rfl, hj, rfl, HR, HG⟩ := hrel
    by_cases hlt : j < n
    · have j0 : (0 : Int) ≤ (j : Int) := by omega
      have j1 : (j : Int) < (n : Int) := by omega
      obtain ⟨f', hf', hR⟩ := HR.out
      obtain ⟨z, hz⟩ := hf' j hlt
      have c0 : wr.cell? ⟨b, j, none⟩ = some (.int .i64 z) := by rw [World.rowIs.cell hR hlt, hz]
      have f0 := World.rowIs.frozen hR j
      have NX : Hid (∃ g', (∀ i, i < n → ∃ z, g' i = .int .i64 z) ∧ (wr.setCell ⟨b, j, none⟩ (.int .i64 (k + (j : Int)))).rowIs b 2 n g') := Lib.hid ⟨_, fun i hi => by
        by_cases c : i = j
        · exact ⟨_, if_pos c⟩
        · obtain ⟨y, hy⟩ := hf' i hi
          exact ⟨y, by rw [if_neg c]; exact hy⟩, World.rowIs.set hR j _⟩
      have NG := Lib.hid (gb_trans HG.out (gb_set wr b j (.int .i64 (k + (j : Int)))))
      clear hf' hR hz HR
      go_wp2_with fail
      go_roundg (n + 1 - (j + 1))
      case measure => omega
      case rel => exact ⟨j + 1, by go_num, by go_num, by omega, by omega, NX, NG⟩
    · obtain rfl : j = n := by omega
      go_wp2_with fail
      go_ret
      exact ⟨rfl, HG.out, HR.out⟩

/-- The rows of a figure, whatever numbers they hold. -/
structure LShp (w : World) (g : Nat) (ls : List (List Int)) (bs : Nat → Nat) : Prop where
  row : w.rowIs g 27 ls.length (fun k => .slice (some ⟨bs k, 0, none⟩) (ls.getD k []).length (ls.getD k []).length)
  each : ∀ k, k < ls.length → ∃ f, (∀ i, i < (ls.getD k []).length → ∃ z, f i = .int .i64 z) ∧ w.rowIs (bs k) 2 (ls.getD k []).length f
theorem LRow.shp {w : World} {g : Nat} {ls : List (List Int)} {bs : Nat → Nat} (h : LRow w g ls bs) : LShp w g ls bs := ⟨h.row, fun k hk => ⟨_, fun i _ => ⟨_, rfl⟩, h.each k hk⟩⟩
theorem LShp.mark {w w' : World} {g : Nat} {ls : List (List Int)} {bs : Nat → Nat} (h : LShp w g ls bs) (j : Nat) (hj : j < ls.length) (hg : g ≠ bs j) (hb : w.grownBy w' (some (bs j))) (hr : ∃ f', (∀ i, i < (ls.getD j []).length → ∃ z, f' i = .int .i64 z) ∧ w'.rowIs (bs j) 2 (ls.getD j []).length f') : LShp w' g ls bs := by
  refine ⟨World.rowIs.of_block h.row (hb.block g (World.rowIs.lt h.row) (by simpa using hg)), fun k hk => ?_⟩
  by_cases c : bs k = bs j
  · obtain ⟨f, hf, hk1⟩ := h.each k hk
    obtain ⟨f0, _, hj1⟩ := h.each j hj
    obtain ⟨f', hf', hr'⟩ := hr
    have e : (ls.getD k []).length = (ls.getD j []).length := by
      obtain ⟨c1, h1, n1, _⟩ := hk1
      obtain ⟨c2, h2, n2, _⟩ := hj1
      rw [c, h2] at h1
      injection h1 with h1
      injection h1 with h1
      rw [← n1, ← n2, h1]
    rw [e, c]
    exact ⟨f', hf', hr'⟩
  · obtain ⟨f, hf, hk1⟩ := h.each k hk
    exact ⟨f, hf, World.rowIs.of_block hk1 (hb.block _ (World.rowIs.lt hk1) (by simpa using c))⟩

def totL (ls : List (List Int)) : Nat → Nat
  | 0 => 0
  | j + 1 => totL ls j + (ls.getD j []).length
theorem totL_le (ls : List (List Int)) (hl : ∀ j, (h : j < ls.length) → ls[j].length ≤ 1048576) : ∀ j, j ≤ ls.length → totL ls j ≤ 1048576 * j
  | 0, _ => Nat.le_refl _
  | j + 1, h => by
    have h1 := totL_le ls hl j (by omega)
    have h2 := hl j (by omega)
    have e : ls.getD j [] = ls[j] := by rw [List.getD, List.getElem?_eq_getElem (by omega)]; rfl
    show totL ls j + (ls.getD j []).length ≤ _
    rw [e]
    omega

theorem fin_FigM1 : True := trivial
end
end Go.Proofs.YtjghopepgfgebaaGreatDoor
