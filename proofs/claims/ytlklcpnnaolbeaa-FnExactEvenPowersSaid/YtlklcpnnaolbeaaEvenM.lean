/-
  EvenPowers (both packages).
-/
import Derived.Test.YtlklcpnnaolbeaaPjLaw
import Derived.Test.YtlklcpnnaolbeaaProjI
import Derived.Test.YtlklcpnnaolbeaaMnMx
import Derived.IntWalk
namespace Go.Proofs.Ytlklcpnnaolbeaa
open Go.RowKit
set_option linter.unusedVariables false

/-- The least power of the first k projectors, 1000 at most. -/
def minD (zs : List StarV) : Nat → Int
  | 0 => 1000
  | k + 1 => if (zs.getD k star0).d < minD zs k then (zs.getD k star0).d else minD zs k
theorem minD_le (zs : List StarV) (k : Nat) : minD zs k ≤ 1000 := by
  induction k with
  | zero => exact Int.le_refl _
  | succ k ih => unfold minD; split <;> omega
theorem minD_mem (zs : List StarV) (k j : Nat) (hj : j < k) : minD zs k ≤ (zs.getD j star0).d := by
  induction k with
  | zero => omega
  | succ k ih =>
    unfold minD
    by_cases c : j = k
    · subst c; split <;> omega
    · have := ih (by omega)
      split <;> omega
/-- The same projector with another power. -/
def pw (x : StarV) (d : Int) : StarV := ⟨x.s, x.a, x.b, x.c, d⟩
/-- The lower one of a power and the least of the first k. -/
def lowD (zs : List StarV) (y : Int) (k : Nat) : Int := if y < minD zs k then y else minD zs k
/-- The projectors, the first i of them with the power e. -/
def evL (zs : List StarV) (e : Int) (i : Nat) : List StarV := (zs.take i).map (fun x => pw x e) ++ zs.drop i
theorem evL_len (zs : List StarV) (e : Int) (i : Nat) (h : i ≤ zs.length) : (evL zs e i).length = zs.length := by
  unfold evL
  rw [List.length_append, List.length_map, List.length_take, List.length_drop]
  omega
theorem evL_zero (zs : List StarV) (e : Int) : evL zs e 0 = zs := rfl
theorem evL_all (zs : List StarV) (e : Int) : evL zs e zs.length = zs.map (fun x => pw x e) := by unfold evL; rw [List.take_length, List.drop_length, List.append_nil]
theorem evL_here (zs : List StarV) (e : Int) (i : Nat) (h : i < zs.length) : (evL zs e i)[i]'(by rw [evL_len zs e i (by omega)]; exact h) = zs[i] := by
  unfold evL
  rw [List.getElem_append_right (by rw [List.length_map, List.length_take]; omega)]
  simp only [List.length_map, List.length_take, List.getElem_drop]
  congr 1
  omega
theorem evL_set (zs : List StarV) (e : Int) (i : Nat) (h : i < zs.length) : (evL zs e i).set i (pw zs[i] e) = evL zs e (i + 1) := by
  unfold evL
  have hl : ((zs.take i).map (fun x => pw x e)).length = i := by rw [List.length_map, List.length_take]; omega
  rw [List.set_append_right _ _ (by omega), hl, Nat.sub_self, List.drop_eq_getElem_cons h, List.set_cons_zero, List.take_add_one, List.getElem?_eq_getElem h, List.map_append, List.append_assoc]
  rfl
/-- What EvenPowers answers. -/
def evenV (zs : List StarV) : List StarV × Int := if okL zs = true then (zs.map (fun x => pw x (minD zs zs.length)), 0) else ([], 1)
def SPost (r : List StarV × Int) (w : World) (e : Ending) (w' : World) : Prop :=
  ∃ v, e = .returned (.tuple #[v, .int .i64 r.2]) ∧ SOwn w' w.heap.size v r.1 ∧ Below w.heap.size w w'
theorem set_same {α : Type} (l : List α) (k : Nat) (v : α) (h : l[k]? = some v) : l.set k v = l := by
  apply List.ext_getElem?
  intro n
  by_cases c : k = n
  · subst c
    rw [List.getElem?_set_self (List.getElem?_eq_some_iff.1 h).1, h]
  · rw [List.getElem?_set_ne c]
theorem flatS_pw (zs : List StarV) (j : Nat) (hj : j < zs.length) (d : Int) : flatS (zs.set j (pw zs[j] d)) = (flatS zs).set (j * 5 + 4) (.int .i64 d) := by
  rw [flatS_set zs j hj (pw zs[j] d)]
  have g : ∀ i, i < 5 → (flatS zs)[j * 5 + i]? = some (fieldV zs[j] i) := fun i hi => flatS_get zs j hj i hi
  have g0 : (flatS zs)[j * 5]? = some (.string (pw zs[j] d).s) := g 0 (by omega)
  have g1 : (flatS zs)[j * 5 + 1]? = some (.int .i64 (pw zs[j] d).a) := g 1 (by omega)
  have g2 : (flatS zs)[j * 5 + 2]? = some (.int .i64 (pw zs[j] d).b) := g 2 (by omega)
  have g3 : (flatS zs)[j * 5 + 3]? = some (.int .i64 (pw zs[j] d).c) := g 3 (by omega)
  rw [set_same _ _ _ g0, set_same _ _ _ g1, set_same _ _ _ g2, set_same _ _ _ g3]
  rfl
theorem SOwn.pow {w : World} {B g cap : Nat} {zs : List StarV} (h : SOwn w B (.slice (some ⟨g, 0, none⟩) zs.length cap) zs) (j : Nat) (hj : j < zs.length) (d : Int) :
    SOwn (w.setCell ⟨g, j * 5 + 4, none⟩ (.int .i64 d)) B (.slice (some ⟨g, 0, none⟩) zs.length cap) (zs.set j (pw zs[j] d)) := by
  have h0 := (World.ownsRow.stored h (j * 5 + 4) (.int .i64 d)).1
  unfold SOwn
  rw [List.length_set, flatS_pw zs j hj d]
  exact h0
theorem SOwn.freeE {w : World} {B g cap : Nat} {zs : List StarV} (h : SOwn w B (.slice (some ⟨g, 0, none⟩) zs.length cap) zs) (k : Nat) : w.frozen? ⟨g, k, none⟩ = false := World.ownsRow.frozenAt h k
theorem Row.srcE {w : World} {g : Nat} {zs : List StarV} (h : Row w g zs) : ∀ j u, (flatS zs)[j]? = some u → w.cell? ((⟨g, 0, none⟩ : Addr).add j) = some u := by
  intro j u hj
  have ea : ((⟨g, 0, none⟩ : Addr).add j) = ⟨g, j, none⟩ := by unfold Addr.add; split <;> simp_all
  have hl : j < zs.length * 5 := by
    rcases (show j < zs.length * 5 ∨ zs.length * 5 ≤ j by omega) with c | c
    · exact c
    · rw [List.getElem?_eq_none (by rw [flatS_len]; exact c)] at hj; cases hj
  have hk : j / 5 < zs.length := by omega
  have h1 := flatS_get zs (j / 5) hk (j % 5) (by omega)
  rw [show j / 5 * 5 + j % 5 = j by omega] at h1
  have h2 := h.at (j / 5) hk
  rw [ea]
  rw [h1] at hj
  injection hj with hj
  rw [← hj]
  obtain ⟨c0, c1, c2, c3, c4⟩ := h2
  rcases (by omega : j % 5 = 0 ∨ j % 5 = 1 ∨ j % 5 = 2 ∨ j % 5 = 3 ∨ j % 5 = 4) with e | e | e | e | e <;> rw [e] <;> (first | (have := c0; rw [show j / 5 * 5 = j by omega] at this; exact this) | (have := c1; rw [show j / 5 * 5 + 1 = j by omega] at this; exact this) | (have := c2; rw [show j / 5 * 5 + 2 = j by omega] at this; exact this) | (have := c3; rw [show j / 5 * 5 + 3 = j by omega] at this; exact this) | (have := c4; rw [show j / 5 * 5 + 4 = j by omega] at this; exact this))
theorem SOwn.heapE {w w' : World} {B : Nat} {v : Value} {zs : List StarV} (h : SOwn w B v zs) (e : w'.heap = w.heap) : SOwn w' B v zs := by
  rcases h with ⟨h0, h1 | ⟨g, cap, cur, hv, hg, hh, r⟩⟩
  · exact ⟨h0, Or.inl h1⟩
  · exact ⟨h0, Or.inr ⟨g, cap, cur, hv, hg, by rw [e]; exact hh, r⟩⟩
end Go.Proofs.Ytlklcpnnaolbeaa
