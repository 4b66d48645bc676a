/-
  What stays across calls that make memory alone: the cells of two vectors (and of a third one).
-/
import Derived.Test.YtjghopepgfgebaaGreatDoorVecS2
import Derived.Deep.RegionWith
import Derived.Deep.RegionHeld3
import Derived.Deep.Cut
namespace Go.Proofs.YtjghopepgfgebaaGreatDoor
open Go.RowKit

theorem undrew {W u : World} (h : Below W.drew.heap.size W.drew u) : Below W.heap.size W u := ⟨h.os, h.tape, h.output, h.size, h.block⟩
theorem two {W u v : World} (h : Below W.drew.heap.size W.drew u) (k : Below u.heap.size u v) : Below W.heap.size W v := (undrew h).trans (k.mono h.size)
theorem three {W u v x : World} (h : Below W.drew.heap.size W.drew u) (k : Below u.heap.size u v) (l : Below v.heap.size v x) : Below W.heap.size W x := (two h k).trans (l.mono (two h k).size)
theorem undrewA {W u : World} {o : Obj} (h : Below (W.drew.alloc o).heap.size (W.drew.alloc o) u) : Below W.heap.size W u := ((bel_drew (Below.refl _ W)).alloc (Nat.le_refl _) o).trans (h.mono (by simp))
theorem undrewD {W u : World} {o : Obj} (h : Below (W.alloc o).drew.heap.size (W.alloc o).drew u) : Below W.heap.size W u := ((Below.refl _ W).alloc (Nat.le_refl _) o).trans ((undrew h).mono (by simp))
theorem onward {W u v : World} (b : Below W.heap.size W u) (k : Below u.heap.size u v) : Below W.heap.size W v := b.trans (k.mono b.size)
theorem onwardA {W u v : World} {o : Obj} (b : Below W.heap.size W u) (k : Below (u.alloc o).heap.size (u.alloc o) v) : Below W.heap.size W v := (b.alloc b.size o).trans (k.mono (b.alloc b.size o).size)
theorem C3.lt {W : World} {g : Nat} {a b c : Int} (h : C3 W g a b c) : g < W.heap.size := World.block_lt_of_cell? W ⟨g, 0, none⟩ h.c0
theorem C3.late {v x : World} {T : TypeId} (l : Below (v.alloc (.cells #[.int .i64 0, .int .i64 0, .int .i64 0] T)).heap.size (v.alloc (.cells #[.int .i64 0, .int .i64 0, .int .i64 0] T)) x) : C3 x v.heap.size 0 0 0 :=
  (C3.new v T 0 0 0).stays l (by simp)
theorem C3.lateD {v x : World} {T : TypeId} (l : Below (v.alloc (.cells #[.int .i64 0, .int .i64 0, .int .i64 0] T)).drew.heap.size (v.alloc (.cells #[.int .i64 0, .int .i64 0, .int .i64 0] T)).drew x) : C3 x v.heap.size 0 0 0 :=
  (C3.new v T 0 0 0).stays (undrew l) (by simp)
theorem C3.on {v x : World} {g : Nat} {a b c : Int} (h : C3 v g a b c) (l : Below v.heap.size v x) : C3 x g a b c := h.stays l h.lt
theorem C3.stored {x : World} {g : Nat} (h : C3 x g 0 0 0) (a b c : Int) : C3 (((x.setCell ⟨g, 0, none⟩ (.int .i64 a)).setCell ⟨g, 1, none⟩ (.int .i64 b)).setCell ⟨g, 2, none⟩ (.int .i64 c)) g a b c := ((h.set0 a).set1 b).set2 c
theorem keepV {w W W' : World} {a0 b0 c0 a1 b1 c1 : Int} (h : W.cell? ⟨w.heap.size, 0, none⟩ = some (.int .i64 a0) ∧ W.cell? ⟨w.heap.size, 1, none⟩ = some (.int .i64 b0) ∧ W.cell? ⟨w.heap.size, 2, none⟩ = some (.int .i64 c0) ∧ W.cell? ⟨w.heap.size + 1, 0, none⟩ = some (.int .i64 a1) ∧ W.cell? ⟨w.heap.size + 1, 1, none⟩ = some (.int .i64 b1) ∧ W.cell? ⟨w.heap.size + 1, 2, none⟩ = some (.int .i64 c1) ∧ w.heap.size + 1 < W.heap.size ∧ Below w.heap.size w W) (hb : Below W.heap.size W W') :
    W'.cell? ⟨w.heap.size, 0, none⟩ = some (.int .i64 a0) ∧ W'.cell? ⟨w.heap.size, 1, none⟩ = some (.int .i64 b0) ∧ W'.cell? ⟨w.heap.size, 2, none⟩ = some (.int .i64 c0) ∧ W'.cell? ⟨w.heap.size + 1, 0, none⟩ = some (.int .i64 a1) ∧ W'.cell? ⟨w.heap.size + 1, 1, none⟩ = some (.int .i64 b1) ∧ W'.cell? ⟨w.heap.size + 1, 2, none⟩ = some (.int .i64 c1) ∧ w.heap.size + 1 < W'.heap.size ∧ Below w.heap.size w W' := by
  obtain ⟨h0, h1, h2, h3, h4, h5, h6, h7⟩ := h
  obtain ⟨k1, _⟩ := bcell hb
  have hs := hb.size
  exact ⟨(k1 _ _ (by omega)).trans h0, (k1 _ _ (by omega)).trans h1, (k1 _ _ (by omega)).trans h2, (k1 _ _ (by omega)).trans h3, (k1 _ _ (by omega)).trans h4, (k1 _ _ (by omega)).trans h5, by omega, h7.trans (hb.mono h7.size)⟩
theorem keepR {w W W' : World} {a0 b0 c0 a1 b1 c1 : Int} {r : Nat} {r0x r0y r0z : Int} (h : W.cell? ⟨w.heap.size, 0, none⟩ = some (.int .i64 a0) ∧ W.cell? ⟨w.heap.size, 1, none⟩ = some (.int .i64 b0) ∧ W.cell? ⟨w.heap.size, 2, none⟩ = some (.int .i64 c0) ∧ W.cell? ⟨w.heap.size + 1, 0, none⟩ = some (.int .i64 a1) ∧ W.cell? ⟨w.heap.size + 1, 1, none⟩ = some (.int .i64 b1) ∧ W.cell? ⟨w.heap.size + 1, 2, none⟩ = some (.int .i64 c1) ∧ w.heap.size + 1 < W.heap.size ∧ Below w.heap.size w W ∧ W.cell? ⟨r, 0, none⟩ = some (.int .i64 r0x) ∧ W.cell? ⟨r, 1, none⟩ = some (.int .i64 r0y) ∧ W.cell? ⟨r, 2, none⟩ = some (.int .i64 r0z) ∧ r < W.heap.size) (hb : Below W.heap.size W W') :
    W'.cell? ⟨w.heap.size, 0, none⟩ = some (.int .i64 a0) ∧ W'.cell? ⟨w.heap.size, 1, none⟩ = some (.int .i64 b0) ∧ W'.cell? ⟨w.heap.size, 2, none⟩ = some (.int .i64 c0) ∧ W'.cell? ⟨w.heap.size + 1, 0, none⟩ = some (.int .i64 a1) ∧ W'.cell? ⟨w.heap.size + 1, 1, none⟩ = some (.int .i64 b1) ∧ W'.cell? ⟨w.heap.size + 1, 2, none⟩ = some (.int .i64 c1) ∧ w.heap.size + 1 < W'.heap.size ∧ Below w.heap.size w W' ∧ W'.cell? ⟨r, 0, none⟩ = some (.int .i64 r0x) ∧ W'.cell? ⟨r, 1, none⟩ = some (.int .i64 r0y) ∧ W'.cell? ⟨r, 2, none⟩ = some (.int .i64 r0z) ∧ r < W'.heap.size := by
  obtain ⟨h0, h1, h2, h3, h4, h5, h6, h7, h8, h9, h10, h11⟩ := h
  obtain ⟨k1, _⟩ := bcell hb
  have hs := hb.size
  exact ⟨(k1 _ _ (by omega)).trans h0, (k1 _ _ (by omega)).trans h1, (k1 _ _ (by omega)).trans h2, (k1 _ _ (by omega)).trans h3, (k1 _ _ (by omega)).trans h4, (k1 _ _ (by omega)).trans h5, by omega, h7.trans (hb.mono h7.size), (k1 _ _ (by omega)).trans h8, (k1 _ _ (by omega)).trans h9, (k1 _ _ (by omega)).trans h10, by omega⟩
theorem addR {w W : World} {a0 b0 c0 a1 b1 c1 : Int} {r : Nat} {r0x r0y r0z : Int} (h : W.cell? ⟨w.heap.size, 0, none⟩ = some (.int .i64 a0) ∧ W.cell? ⟨w.heap.size, 1, none⟩ = some (.int .i64 b0) ∧ W.cell? ⟨w.heap.size, 2, none⟩ = some (.int .i64 c0) ∧ W.cell? ⟨w.heap.size + 1, 0, none⟩ = some (.int .i64 a1) ∧ W.cell? ⟨w.heap.size + 1, 1, none⟩ = some (.int .i64 b1) ∧ W.cell? ⟨w.heap.size + 1, 2, none⟩ = some (.int .i64 c1) ∧ w.heap.size + 1 < W.heap.size ∧ Below w.heap.size w W) (c : C3 W r r0x r0y r0z) :
    W.cell? ⟨w.heap.size, 0, none⟩ = some (.int .i64 a0) ∧ W.cell? ⟨w.heap.size, 1, none⟩ = some (.int .i64 b0) ∧ W.cell? ⟨w.heap.size, 2, none⟩ = some (.int .i64 c0) ∧ W.cell? ⟨w.heap.size + 1, 0, none⟩ = some (.int .i64 a1) ∧ W.cell? ⟨w.heap.size + 1, 1, none⟩ = some (.int .i64 b1) ∧ W.cell? ⟨w.heap.size + 1, 2, none⟩ = some (.int .i64 c1) ∧ w.heap.size + 1 < W.heap.size ∧ Below w.heap.size w W ∧ W.cell? ⟨r, 0, none⟩ = some (.int .i64 r0x) ∧ W.cell? ⟨r, 1, none⟩ = some (.int .i64 r0y) ∧ W.cell? ⟨r, 2, none⟩ = some (.int .i64 r0z) ∧ r < W.heap.size := by
  obtain ⟨h0, h1, h2, h3, h4, h5, h6, h7⟩ := h
  exact ⟨h0, h1, h2, h3, h4, h5, h6, h7, c.c0, c.c1, c.c2, c.lt⟩
end Go.Proofs.YtjghopepgfgebaaGreatDoor
