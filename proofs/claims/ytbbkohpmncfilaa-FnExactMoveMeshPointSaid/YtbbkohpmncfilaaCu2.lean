/-
  A result's block that lies before or behind the call that fills it (for laws that convert two arguments side by side).
-/
import Derived.Test.YtbbkohpmncfilaaMov
import Derived.Test.YtbbkohpmncfilaaKeep
import Derived.Deep.Cut
import Derived.Deep.RegionHeld3
namespace Go.Proofs.Ytbbkohpmncfilaa.Me
open Go.RowKit
open Sp (V Row)
set_option linter.unusedVariables false

/-- A mesh's result block and its row, apart from each other, all made since W0. -/
structure MRes (W0 : World) (c r : Int) (L : List V) (B : Nat) (u : Value) (lo hi : Nat) (W : World) : Prop where
  at_ : MAt W B c r u
  own : Sp.Own W lo hi u L
  apart : B < lo ∨ hi ≤ B
  low : W0.heap.size ≤ B
  lowR : W0.heap.size ≤ lo
  high : hi ≤ W.heap.size
  below : Below W0.heap.size W0 W
theorem alDm (W : World) (o : Obj) : Below W.heap.size W (W.alloc o).drew := by
  have h := (Below.refl W.heap.size W).alloc (Nat.le_refl _) o
  exact ⟨h.os, h.tape, h.output, h.size, h.block⟩
theorem zD (W : World) : (W.alloc rz).drew.heap[W.heap.size]? = some rz := World.alloc_heap_new W _
theorem zN (W : World) : (W.alloc rz).heap[W.heap.size]? = some rz := World.alloc_heap_new W _
theorem zOn {W W' : World} {B : Nat} (h : W.heap[B]? = some rz) (hb : Below W.heap.size W W') : W'.heap[B]? = some rz := (hb.block B (Array.getElem?_eq_some_iff.1 h).1).trans h
theorem rowAl {W : World} {g : Nat} {zs : List V} (h : Row W g zs) (o : Obj) : Row (W.alloc o) g zs := h.below ((Below.refl _ _).alloc (Nat.le_refl _) _)
theorem onA {W u v : World} {o : Obj} (b : Below W.heap.size W u) (k : Below (u.alloc o).heap.size (u.alloc o) v) : Below W.heap.size W v := (b.alloc b.size o).trans (k.mono (b.alloc b.size o).size)
theorem onN {W u v : World} (b : Below W.heap.size W u) (k : Below u.heap.size u v) : Below W.heap.size W v := b.trans (k.mono b.size)
theorem onD {W v : World} {o : Obj} (k : Below (W.alloc o).drew.heap.size (W.alloc o).drew v) : Below W.heap.size W v := (alDm W o).trans (k.mono (alDm W o).size)
theorem MRes.after {w5 x3 : World} {lo : Nat} {c r : Int} {u : Value} {L : List V} (ho : Sp.Own x3 lo x3.heap.size u L) (hb : Below w5.heap.size w5 x3) (hlo : w5.heap.size ≤ lo) :
    MRes w5 c r L x3.heap.size u lo x3.heap.size (x3.alloc (Obj.cells #[.int .i64 c, .int .i64 r, u] 29)) :=
  ⟨MAt.new _ _ _ _ _, own_alloc ho _, Or.inr (Nat.le_refl _), hb.size, hlo, by simp, hb.alloc hb.size _⟩
theorem MRes.before {w5 x3 : World} {lo B : Nat} {c r : Int} {u : Value} {L : List V} (ho : Sp.Own x3 lo x3.heap.size u L) (hb : Below w5.heap.size w5 x3) (hlo : w5.heap.size ≤ lo) (hz : x3.heap[B]? = some rz) (hB : w5.heap.size ≤ B) (hBl : B < lo) :
    MRes w5 c r L B u lo x3.heap.size (((x3.setCell ⟨B, 0, none⟩ (.int .i64 c)).setCell ⟨B, 1, none⟩ (.int .i64 r)).setCell ⟨B, 2, none⟩ u) := by
  have h := set3_heap hz (.int .i64 c) (.int .i64 r) u
  refine ⟨⟨by simp [World.cell?, h], by simp [World.cell?, h], by simp [World.cell?, h]⟩, ?_, Or.inl hBl, hB, hlo, by simp, set3B hb hB _ _ _⟩
  refine Sp.Own.mod ho (B' := B) (C' := B + 1) ?_ (by omega)
  exact ((((Mod.refl _ _ _).setCell (Nat.le_refl _) (Nat.lt_succ_self _) _).setCell (Nat.le_refl _) (Nat.lt_succ_self _) _).setCell (Nat.le_refl _) (Nat.lt_succ_self _) _)
end Go.Proofs.Ytbbkohpmncfilaa.Me
