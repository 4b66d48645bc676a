/-
  A code in a box that may be written: what stays, and what stores leave.
-/
import Derived.Test.YtecnhbgkkfcipaaTcU
import Derived.Test.YtecnhbgkkfcipaaTcS
namespace Go.Proofs.Ytecnhbgkkfcipaa.Cz
open Go.RowKit
set_option linter.unusedVariables false

structure BAt (w : World) (b : Nat) (x0 : Int) (x1 : Int) (x2 : Int) (x3 : Int) (x4 : Int) : Prop where
  c0 : w.cell? ⟨b, 0, none⟩ = some (.int .i64 x0)
  c1 : w.cell? ⟨b, 1, none⟩ = some (.int .i64 x1)
  c2 : w.cell? ⟨b, 2, none⟩ = some (.int .i64 x2)
  c3 : w.cell? ⟨b, 3, none⟩ = some (.int .i64 x3)
  c4 : w.cell? ⟨b, 4, none⟩ = some (.int .i64 x4)
  z0 : w.frozen? ⟨b, 0, none⟩ = false
  z1 : w.frozen? ⟨b, 1, none⟩ = false
  z2 : w.frozen? ⟨b, 2, none⟩ = false
  z3 : w.frozen? ⟨b, 3, none⟩ = false
  z4 : w.frozen? ⟨b, 4, none⟩ = false
theorem BAt.lt {w : World} {b : Nat} {x0 x1 x2 x3 x4 : Int} (h : BAt w b x0 x1 x2 x3 x4) : b < w.heap.size := World.block_lt_of_cell? w ⟨b, 0, none⟩ h.c0
theorem BAt.below {w w' : World} {b : Nat} {x0 x1 x2 x3 x4 : Int} (h : BAt w b x0 x1 x2 x3 x4) (hb : Below w.heap.size w w') : BAt w' b x0 x1 x2 x3 x4 :=
  have l := h.lt
  ⟨(hb.cell (p := ⟨b, 0, none⟩) l).trans h.c0, (hb.cell (p := ⟨b, 1, none⟩) l).trans h.c1, (hb.cell (p := ⟨b, 2, none⟩) l).trans h.c2, (hb.cell (p := ⟨b, 3, none⟩) l).trans h.c3, (hb.cell (p := ⟨b, 4, none⟩) l).trans h.c4, (hb.frozen (p := ⟨b, 0, none⟩) l).trans h.z0, (hb.frozen (p := ⟨b, 1, none⟩) l).trans h.z1, (hb.frozen (p := ⟨b, 2, none⟩) l).trans h.z2, (hb.frozen (p := ⟨b, 3, none⟩) l).trans h.z3, (hb.frozen (p := ⟨b, 4, none⟩) l).trans h.z4⟩
theorem BAt.of {w : World} {b : Nat} {x0 x1 x2 x3 x4 : Int} (h : Tc.Bx w b x0 x1 x2 x3 x4) : BAt w b x0 x1 x2 x3 x4 := ⟨h.at_.c0, h.at_.c1, h.at_.c2, h.at_.c3, h.at_.c4, h.fz 0, h.fz 1, h.fz 2, h.fz 3, h.fz 4⟩
theorem BAt.new (w : World) (x0 : Int) (x1 : Int) (x2 : Int) (x3 : Int) (x4 : Int) (T : TypeId) : BAt (w.alloc (.cells #[.int .i64 x0, .int .i64 x1, .int .i64 x2, .int .i64 x3, .int .i64 x4] T)) w.heap.size x0 x1 x2 x3 x4 := .of (Tc.Bx.new w x0 x1 x2 x3 x4 T)
theorem BAt.newD (w : World) (x0 : Int) (x1 : Int) (x2 : Int) (x3 : Int) (x4 : Int) (T : TypeId) : BAt (w.alloc (.cells #[.int .i64 x0, .int .i64 x1, .int .i64 x2, .int .i64 x3, .int .i64 x4] T)).drew w.heap.size x0 x1 x2 x3 x4 := (BAt.new w x0 x1 x2 x3 x4 T).below ⟨rfl, rfl, rfl, Nat.le_refl _, fun _ _ => rfl⟩
end Go.Proofs.Ytecnhbgkkfcipaa.Cz
namespace Go.Proofs.Ytecnhbgkkfcipaa.Tc
open Go.RowKit
open Cd (BAt)
set_option linter.unusedVariables false

theorem onN {W x x' : World} (y : Below W.heap.size W x) (h : Below x.heap.size x x') : Below W.heap.size W x' := y.trans (h.mono y.size)
theorem onA {W x x' : World} (y : Below W.heap.size W x) {o : Obj} (h : Below (x.alloc o).heap.size (x.alloc o) x') : Below W.heap.size W x' := (y.alloc y.size o).trans (h.mono (y.alloc y.size o).size)
theorem alD (W : World) (o : Obj) : Below W.heap.size W (W.alloc o).drew := ((Below.refl _ W).alloc (Nat.le_refl _) o).drew
theorem onD {W x' : World} {o : Obj} (h : Below (W.alloc o).drew.heap.size (W.alloc o).drew x') : Below W.heap.size W x' := (alD W o).trans (h.mono (alD W o).size)
/-- A new code lies behind the world W. -/
structure Res (W w : World) (b : Nat) (x0 : Int) (x1 : Int) (x2 : Int) (x3 : Int) (x4 : Int) : Prop where
  below : Below W.heap.size W w
  at_ : BAt w b x0 x1 x2 x3 x4
  high : W.heap.size ≤ b
theorem Res.fresh {W x : World} (y : Below W.heap.size W x) (x0 : Int) (x1 : Int) (x2 : Int) (x3 : Int) (x4 : Int) (T : TypeId) : Res W (x.alloc (.cells #[.int .i64 x0, .int .i64 x1, .int .i64 x2, .int .i64 x3, .int .i64 x4] T)) x.heap.size x0 x1 x2 x3 x4 := ⟨y.alloc y.size _, BAt.new x x0 x1 x2 x3 x4 T, y.size⟩
theorem Res.stored {W x : World} (y : Below W.heap.size W x) {b : Nat} {z0 z1 z2 z3 z4 : Int} (z : Cz.BAt x b z0 z1 z2 z3 z4) (hb : W.heap.size ≤ b) (x0 : Int) (x1 : Int) (x2 : Int) (x3 : Int) (x4 : Int) :
    Res W (((((x.setCell ⟨b, 0, none⟩ (.int .i64 x0)).setCell ⟨b, 1, none⟩ (.int .i64 x1)).setCell ⟨b, 2, none⟩ (.int .i64 x2)).setCell ⟨b, 3, none⟩ (.int .i64 x3)).setCell ⟨b, 4, none⟩ (.int .i64 x4)) b x0 x1 x2 x3 x4 := by
  obtain ⟨c0, c1, c2, c3, c4, _, _, _, _, _⟩ := z
  exact ⟨set5 y b hb _ _ _ _ _, ⟨by simp [go_sem, c0, c1, c2, c3, c4], by simp [go_sem, c0, c1, c2, c3, c4], by simp [go_sem, c0, c1, c2, c3, c4], by simp [go_sem, c0, c1, c2, c3, c4], by simp [go_sem, c0, c1, c2, c3, c4]⟩, hb⟩
theorem frame_atB (g : Nat) (h m s f r : Int) (k : okT h m s f r = true) (w : World) (hc : Cd.At w g 0 ⟨h, m, s, f, r⟩) :
    Calls Try.prog 49 #[.pointer (some ⟨g, 0, none⟩)] w fun e w' => e = .returned (.int .i64 (frN h m s f r)) ∧ Below w.heap.size w w' :=
  (frame_at g h m s f r k w hc).mono fun _ _ ⟨he, n, hw⟩ => ⟨he, by subst hw; exact bel_dT (Below.refl _ _) n⟩
theorem ok_atB (g : Nat) (h m s f r : Int) (fr : fits r) (w : World) (hc : Cd.At w g 0 ⟨h, m, s, f, r⟩) :
    Calls Try.prog 45 #[.pointer (some ⟨g, 0, none⟩)] w fun e w' => e = .returned (.bool (okT h m s f r)) ∧ Below w.heap.size w w' :=
  (ok_at g h m s f r fr w hc).mono fun _ _ ⟨he, n, hw⟩ => ⟨he, by subst hw; exact bel_dT (Below.refl _ _) n⟩
end Go.Proofs.Ytecnhbgkkfcipaa.Tc
