/-
  AddStar (package impl).
-/
import Derived.Test.YtfjhlapcopjfiaaAddS
import Derived.Test.YtfjhlapcopjfiaaDropI
import Derived.Test.YtfjhlapcopjfiaaSrch
namespace Go.Proofs.Ytfjhlapcopjfiaa
open Go.RowKit
set_option linter.unusedVariables false

/-- The two boxes of the arguments. -/
structure Boxes (w : World) (B : Nat) (g : Nat) (zs : List StarV) (x : StarV) : Prop where
  lt : B + 1 < w.heap.size
  c : w.cell? ⟨B, 0, none⟩ = some (.slice (some ⟨g, 0, none⟩) zs.length zs.length)
  x : StarAt w (B + 1) 0 x
theorem Boxes.below {w w' : World} {B g : Nat} {zs : List StarV} {x : StarV} (h : Boxes w B g zs x) (hb : Below w.heap.size w w') : Boxes w' B g zs x :=
  ⟨by have := hb.size; have := h.lt; omega, (hb.cell (p := ⟨B, 0, none⟩) (by have := h.lt; show B < _; omega)).trans h.c, h.x.below hb⟩
theorem Boxes.drewN {w : World} {B g : Nat} {zs : List StarV} {x : StarV} (h : Boxes w B g zs x) (n : Nat) : Boxes (w.drewN n) B g zs x := ⟨h.lt, h.c, ⟨h.x.c0, h.x.c1, h.x.c2, h.x.c3, h.x.c4⟩⟩
theorem set5 (A R : List Value) (b0 b1 b2 b3 b4 v0 v1 v2 v3 v4 : Value) (o : Nat) (ho : A.length = o) : (((((A ++ b0 :: b1 :: b2 :: b3 :: b4 :: R).set o v0).set (o + 1) v1).set (o + 2) v2).set (o + 3) v3).set (o + 4) v4 = A ++ v0 :: v1 :: v2 :: v3 :: v4 :: R := by
  subst ho
  rw [List.set_append_right _ _ (Nat.le_refl _), List.set_append_right _ _ (by omega), List.set_append_right _ _ (by omega), List.set_append_right _ _ (by omega), List.set_append_right _ _ (by omega), Nat.sub_self, Nat.add_sub_cancel_left, Nat.add_sub_cancel_left, Nat.add_sub_cancel_left, Nat.add_sub_cancel_left]
  rfl
theorem split5 (L : List Value) (o : Nat) (hl : o + 5 ≤ L.length) : ∃ b0 b1 b2 b3 b4, L = L.take o ++ b0 :: b1 :: b2 :: b3 :: b4 :: L.drop (o + 5) := by
  refine ⟨L[o], L[o + 1], L[o + 2], L[o + 3], L[o + 4], ?_⟩
  rw [← List.drop_eq_getElem_cons (by omega), ← List.drop_eq_getElem_cons (by omega), ← List.drop_eq_getElem_cons (by omega), ← List.drop_eq_getElem_cons (by omega), ← List.drop_eq_getElem_cons (by omega), List.take_append_drop]
theorem put5 (L : List Value) (o : Nat) (hl : o + 5 ≤ L.length) (v0 v1 v2 v3 v4 : Value) : ((((L.set o v0).set (o + 1) v1).set (o + 2) v2).set (o + 3) v3).set (o + 4) v4 = splice L o [v0, v1, v2, v3, v4] := by
  obtain ⟨b0, b1, b2, b3, b4, e⟩ := split5 L o hl
  unfold splice
  conv => lhs; rw [e]
  rw [set5 _ _ _ _ _ _ _ _ _ _ _ _ o (by rw [List.length_take]; omega)]
  rfl
theorem heap_set (W : World) (D : Nat) (M : List Value) (T : TypeId) (i : Nat) (v : Value) (hW : W.heap[D]? = some (.cells M.toArray T (0, 0))) : (W.setCell ⟨D, i, none⟩ v).heap[D]? = some (.cells (M.set i v).toArray T (0, 0)) := by
  simp [World.setCell, Array.getElem?_modify, hW]
theorem heap_put (w : World) (D o : Nat) (L : List Value) (T : TypeId) (x : StarV) (h : w.heap[D]? = some (.cells L.toArray T (0, 0))) (hl : o + 5 ≤ L.length) : (putAt w D o x).heap[D]? = some (.cells (splice L o [.string x.s, .int .i64 x.a, .int .i64 x.b, .int .i64 x.c, .int .i64 x.d]).toArray T (0, 0)) := by
  have h1 := heap_set _ _ _ _ o (.string x.s) h
  have h2 := heap_set _ _ _ _ (o + 1) (.int .i64 x.a) h1
  have h3 := heap_set _ _ _ _ (o + 2) (.int .i64 x.b) h2
  have h4 := heap_set _ _ _ _ (o + 3) (.int .i64 x.c) h3
  have h5 := heap_set _ _ _ _ (o + 4) (.int .i64 x.d) h4
  rw [put5 L o hl] at h5
  exact h5
theorem heap_cell {W : World} {D : Nat} {L : List Value} {T : TypeId} (h : W.heap[D]? = some (.cells L.toArray T (0, 0))) (i : Nat) (hi : i < L.length) : ∃ v, W.cell? ⟨D, i, none⟩ = some v := ⟨L[i], by simp [World.cell?, h, hi]⟩
theorem heap_frozen {W : World} {D : Nat} {L : List Value} {T : TypeId} (h : W.heap[D]? = some (.cells L.toArray T (0, 0))) (i : Nat) : W.frozen? ⟨D, i, none⟩ = false := by
  unfold World.frozen?
  rw [h]
  simp
theorem undrewA {W u : World} (h : Below W.drew.heap.size W.drew u) : Below W.heap.size W u := ⟨h.os, h.tape, h.output, h.size, h.block⟩
theorem drewA (W : World) : Below W.heap.size W W.drew := ⟨rfl, rfl, rfl, Nat.le_refl _, fun _ _ => rfl⟩
theorem Boxes.mk' {w : World} {B g : Nat} {zs : List StarV} {xs : ByteArray} {xa xb xc xd : Int} (h : w.cell? ⟨B, 0, none⟩ = some (.slice (some ⟨g, 0, none⟩) zs.length zs.length) ∧ w.cell? ⟨B + 1, 0, none⟩ = some (.string xs) ∧ w.cell? ⟨B + 1, 1, none⟩ = some (.int .i64 xa) ∧ w.cell? ⟨B + 1, 2, none⟩ = some (.int .i64 xb) ∧ w.cell? ⟨B + 1, 3, none⟩ = some (.int .i64 xc) ∧ w.cell? ⟨B + 1, 4, none⟩ = some (.int .i64 xd)) : Boxes w B g zs ⟨xs, xa, xb, xc, xd⟩ := by
  obtain ⟨h, h0, h1, h2, h3, h4⟩ := h
  exact ⟨World.block_lt_of_cell? w ⟨B + 1, 0, none⟩ h0, h, ⟨h0, h1, h2, h3, h4⟩⟩
theorem Boxes.all {w : World} {B g : Nat} {zs : List StarV} {xs : ByteArray} {xa xb xc xd : Int} (h : Boxes w B g zs ⟨xs, xa, xb, xc, xd⟩) : w.cell? ⟨B, 0, none⟩ = some (.slice (some ⟨g, 0, none⟩) zs.length zs.length) ∧ w.cell? ⟨B + 1, 0, none⟩ = some (.string xs) ∧ w.cell? ⟨B + 1, 1, none⟩ = some (.int .i64 xa) ∧ w.cell? ⟨B + 1, 2, none⟩ = some (.int .i64 xb) ∧ w.cell? ⟨B + 1, 3, none⟩ = some (.int .i64 xc) ∧ w.cell? ⟨B + 1, 4, none⟩ = some (.int .i64 xd) := ⟨h.c, h.x.c0, h.x.c1, h.x.c2, h.x.c3, h.x.c4⟩
theorem keepB {w W W' : World} {B g : Nat} {zs : List StarV} {xs : ByteArray} {xa xb xc xd : Int} (h : Boxes W B g zs ⟨xs, xa, xb, xc, xd⟩ ∧ Below B w W) (hB : B ≤ W.heap.size) (hb : Below W.heap.size W W') : W'.cell? ⟨B, 0, none⟩ = some (.slice (some ⟨g, 0, none⟩) zs.length zs.length) ∧ W'.cell? ⟨B + 1, 0, none⟩ = some (.string xs) ∧ W'.cell? ⟨B + 1, 1, none⟩ = some (.int .i64 xa) ∧ W'.cell? ⟨B + 1, 2, none⟩ = some (.int .i64 xb) ∧ W'.cell? ⟨B + 1, 3, none⟩ = some (.int .i64 xc) ∧ W'.cell? ⟨B + 1, 4, none⟩ = some (.int .i64 xd) ∧ Below B w W' := by
  obtain ⟨h0, h1, h2, h3, h4, h5⟩ := (h.1.below hb).all
  exact ⟨h0, h1, h2, h3, h4, h5, h.2.trans (hb.mono hB)⟩

set_option maxRecDepth 100000 in
set_option maxHeartbeats 2000000 in
theorem later_any (B g : Nat) (zs : List StarV) (x : StarV) (w : World) (h1 : Row w g zs) (hx : Boxes w B g zs x) (i : Nat) (hi : i < zs.length) (hb : zs.length ≤ 1048577) :
    Calls Try.prog 98 (#[.int .i64 (i : Int)] ++ #[.pointer (some ⟨B, 0, none⟩), .pointer (some ⟨B + 1, 0, none⟩)]) w fun e w' => e = .returned (.bool (gtP zs x.s i)) ∧ Below w.heap.size w w' := by
  have c0 := (h1.at i hi).c0
  have b0 := hx.c
  have b1 := hx.x.c0
  have GP : Hid (gtP zs x.s i = Op.bytesLess x.s.toList zs[i].s.toList) := Lib.hid (by
    unfold gtP ltS
    rw [getD_at zs i hi])
  have i0 : (0 : Int) ≤ (i : Int) := by omega
  have i1 : (i : Int) < (zs.length : Int) := by omega
  clear h1 hx
  generalize gtP zs x.s i = r at *
  generalize zs[i].s = t at *
  generalize x.s = s at *
  go_enter Try.func98, Try.ntmps98
  go_wp2_with fail
  go_quiet (fail)
  rename Nat => q
  go_wp2_with fail
  go_ret
  exact ⟨by rw [GP.out, less_tot t.toList s.toList]; rfl, bel_dA (Below.refl _ _) q⟩
end Go.Proofs.Ytfjhlapcopjfiaa
