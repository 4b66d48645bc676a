/-
  A mesh that grows point by point in a block of its own (package spec's way), and what a point's coordinates are in a plain mesh.
-/
import Derived.Test.YtbbkohpmncfilaaGrd
import Derived.Test.YtbbkohpmncfilaaQ2
import Derived.StillTailTactics
import Derived.Deep.RegionWith
import Derived.Handy
namespace Go.Proofs.Ytbbkohpmncfilaa.Me
open Go.RowKit
open Sp (V Row)
set_option linter.unusedVariables false

/-- A mesh under way: its block B, its own row at n0 or above. -/
def GM (W : World) (B n0 : Nat) (c r : Int) (zs : List V) : Prop := ∃ v, W.heap[B]? = some (.cells #[.int .i64 c, .int .i64 r, v] 29 (0, 0)) ∧ W.ownsRow n0 39 2 v zs.length (Sp.flat zs)
/-- All blocks below n0 but B are as they were. -/
structure Kn (B n0 : Nat) (W W' : World) : Prop where
  os : W'.os = W.os
  tape : W'.tape = W.tape
  output : W'.output = W.output
  size : W.heap.size ≤ W'.heap.size
  block : ∀ k, k < n0 → k ≠ B → W'.heap[k]? = W.heap[k]?
theorem Kn.refl (B n0 : Nat) (W : World) : Kn B n0 W W := ⟨rfl, rfl, rfl, Nat.le_refl _, fun _ _ _ => rfl⟩
theorem Kn.trans {B n0 : Nat} {a b c : World} (h : Kn B n0 a b) (k : Kn B n0 b c) : Kn B n0 a c :=
  ⟨k.os.trans h.os, k.tape.trans h.tape, k.output.trans h.output, Nat.le_trans h.size k.size, fun i hi hc => (k.block i hi hc).trans (h.block i hi hc)⟩
theorem Kn.of_below {B n0 : Nat} {W W' : World} (h : Below W.heap.size W W') (hn : n0 ≤ W.heap.size) : Kn B n0 W W' := ⟨h.os, h.tape, h.output, h.size, fun k hk _ => h.block k (by omega)⟩
theorem Kn.below {A B n0 : Nat} {W W' : World} (h : Kn B n0 W W') (hA : A ≤ B) (hn : A ≤ n0) : Below A W W' := ⟨h.os, h.tape, h.output, h.size, fun k hk => h.block k (by omega) (by omega)⟩
theorem Kn.cell {B n0 b o : Nat} {W W' : World} {v : Value} (h : Kn B n0 W W') (hc : W.cell? ⟨b, o, none⟩ = some v) (hb : b < n0) (hne : b ≠ B) : W'.cell? ⟨b, o, none⟩ = some v :=
  (World.cell?_of_block (a := ⟨b, o, none⟩) (h.block b hb hne)).trans hc
theorem GM.keep {W W' : World} {B n0 : Nat} {c r : Int} {zs : List V} (h : GM W B n0 c r zs) (hb : Below W.heap.size W W') : GM W' B n0 c r zs := by
  obtain ⟨v, hv, ho⟩ := h
  exact ⟨v, (hb.block B (Array.getElem?_eq_some_iff.1 hv).1).trans hv, World.ownsRow.kept ho (⟨hb.os, hb.tape, hb.output, hb.size, fun k hk _ => hb.block k hk⟩ : W.grownBy W' none) (by cases hv : v.ownBlock <;> simp)⟩
theorem GM.lt {W : World} {B n0 : Nat} {c r : Int} {zs : List V} (h : GM W B n0 c r zs) : B < W.heap.size := by
  obtain ⟨v, hv, ho⟩ := h
  exact (Array.getElem?_eq_some_iff.1 hv).1
theorem GM.cells {W : World} {B n0 : Nat} {c r : Int} {zs : List V} (h : GM W B n0 c r zs) : ∃ a cap, W.cell? ⟨B, 0, none⟩ = some (.int .i64 c) ∧ W.cell? ⟨B, 1, none⟩ = some (.int .i64 r) ∧ W.cell? ⟨B, 2, none⟩ = some (.slice a zs.length cap) ∧ W.frozen? ⟨B, 2, none⟩ = false ∧ W.ownsRow n0 39 2 (.slice a zs.length cap) zs.length (Sp.flat zs) ∧ W.heap[B]? = some (.cells #[.int .i64 c, .int .i64 r, .slice a zs.length cap] 29 (0, 0)) := by
  obtain ⟨v, hv, ho⟩ := h
  obtain ⟨a, cap, rfl⟩ := (Sp.Own.mk ho).len
  exact ⟨a, cap, by simp [World.cell?, hv], by simp [World.cell?, hv], by simp [World.cell?, hv], by simp [World.frozen?, hv], ho, hv⟩
theorem GM.start {W : World} {B n0 : Nat} {c r : Int} (h : W.heap[B]? = some (.cells #[.int .i64 c, .int .i64 r, .slice none 0 0] 29 (0, 0))) : GM W B n0 c r [] := ⟨_, h, World.ownsRow_nil _ _ _ _⟩
/-- Behind one more point. -/
theorem GM.step {W W3 w4 : World} {B n0 : Nat} {v v' : Value} {c r : Int} {zs : List V} {x : V} {o : Obj} (hv : W.heap[B]? = some (.cells #[.int .i64 c, .int .i64 r, v] 29 (0, 0))) (ho : W.ownsRow n0 39 2 v zs.length (Sp.flat zs))
    (hBn : B < n0) (hs : n0 ≤ W.heap.size) (h3 : Below W.heap.size W W3) (hg : (W3.alloc o).grownBy w4 v.ownBlock) (h4 : w4.ownsRow n0 39 2 v' (zs.length + 1) (Sp.flat zs ++ x.cells)) :
    (w4.cell? ⟨B, 2, none⟩ = some v ∧ w4.frozen? ⟨B, 2, none⟩ = false) ∧ GM (w4.setCell ⟨B, 2, none⟩ v') B n0 c r (zs ++ [x]) ∧ Kn B n0 W (w4.setCell ⟨B, 2, none⟩ v') := by
  have hrow : ∀ k, v.ownBlock = some k → n0 ≤ k := ownBlock_bd ho
  have h3a : Below W.heap.size W (W3.alloc o) := h3.alloc h3.size o
  have blk : ∀ k, k < n0 → w4.heap[k]? = W.heap[k]? := fun k hk => (hg.block k (by have := h3a.size; omega) (fun e => by have := hrow k e.symm; omega)).trans (h3a.block k (by omega))
  have hset : ∀ k, k ≠ B → (w4.setCell ⟨B, 2, none⟩ v').heap[k]? = w4.heap[k]? := fun k hk => heap_setCell_other _ _ _ _ hk
  have hB4 : w4.heap[B]? = some (.cells #[.int .i64 c, .int .i64 r, v] 29 (0, 0)) := (blk B hBn).trans hv
  have hs4 : W.heap.size ≤ w4.heap.size := Nat.le_trans h3a.size hg.size
  refine ⟨⟨by simp [World.cell?, hB4], by simp [World.frozen?, hB4]⟩, ⟨v', ?_, ?_⟩, ?_⟩
  · obtain ⟨hlt, hk⟩ := Array.getElem?_eq_some_iff.1 hB4
    show (w4.heap.modify B _)[B]? = _
    rw [Array.getElem?_eq_getElem (by rw [Array.size_modify]; exact hlt), Array.getElem_modify_self, hk]
    rfl
  · have h5 := Sp.Own.app (zs := zs) (x := x) h4
    rcases h5.2 with ⟨rfl, hn⟩ | ⟨g, cap, cur, rfl, hg1, hg2, hrest⟩
    · exact ⟨h5.1, .inl ⟨rfl, hn⟩⟩
    · exact ⟨h5.1, .inr ⟨g, cap, cur, rfl, hg1, (hset g (by omega)).trans hg2, hrest⟩⟩
  · have hsz := ((Below.refl 0 w4).setCell (p := ⟨B, 2, none⟩) (Nat.zero_le _) v')
    exact ⟨(hg.os.trans h3a.os), (hg.tape.trans h3a.tape), (hg.output.trans h3a.output), Nat.le_trans hs4 hsz.size, fun k hk hne => (hset k hne).trans (blk k hk)⟩

/-- A coordinate in a plain mesh. -/
def plC (i n : Int) : Int := nearQ (2000000 * i) (n - 1) - 1000000
def plainPt (C R : Int) (x y : Nat) : Int × Int := (plC (x : Int) C, plC (y : Int) R)
theorem plC_bd (i n : Int) (h0 : 0 ≤ i) (h1 : i ≤ n - 1) (h2 : 2 ≤ n) (h3 : n ≤ 9) : -20000000 ≤ nearQ (2000000 * i) (n - 1) ∧ nearQ (2000000 * i) (n - 1) ≤ 20000000 := by
  have := nearQ_bd (2000000 * i) (n - 1) 18000000 (by omega) (by omega) (by omega)
  omega
set_option maxHeartbeats 400000 in
theorem plainCoord_any (i n : Int) (h0 : 0 ≤ i) (h1 : i ≤ n - 1) (h2 : 2 ≤ n) (h3 : n ≤ 9) (w : World) :
    Calls Try.prog 67 #[.int .i64 i, .int .i64 n] w fun e w' => e = .returned (.int .i64 (plC i n)) ∧ Below w.heap.size w w' := by
  have B := plC_bd i n h0 h1 h2 h3
  have N := Lib.hid (fun w => nearest_any (2000000 * i) (n - 1) w (by omega) (by omega) (by omega) (by omega))
  unfold plC
  generalize nearQ (2000000 * i) (n - 1) = q at *
  go_enter Try.func67, Try.ntmps67
  go_wp2_with fail
  refine (N.out _).mono ?_
  rintro e w1 ⟨rfl, hb⟩
  have hsw1 := hb.size
  try simp at hsw1
  obtain ⟨hcw1, hfw1⟩ := bcell hb
  have HBw1 : Hid (Below w.heap.size w w1) := by
    apply Lib.hid
    refine Below.trans ?_ (hb.mono ?_)
    · repeat (first | exact Below.refl _ _ | refine Below.setCell ?_ (by first | (simp; done) | omega | (simp; omega)) _ | refine Below.alloc ?_ (by first | (simp; done) | omega | (simp; omega)) _)
    · first | (simp; done) | omega | (simp; omega)
  clear hb
  go_wp2_with fail
  go_ret
  exact ⟨rfl, HBw1.out⟩
end Go.Proofs.Ytbbkohpmncfilaa.Me
