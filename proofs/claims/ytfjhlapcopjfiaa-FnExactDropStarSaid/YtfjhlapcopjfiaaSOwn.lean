/-
  Own rows of stars: reading, marks, held marks, equality; a copy of stars.
-/
import Derived.Test.YtfjhlapcopjfiaaStMk0
import Derived.Test.YtfjhlapcopjfiaaStarK
import Derived.Laws.CopyOwn
namespace Go.Proofs.Ytfjhlapcopjfiaa
open Go.RowKit
set_option linter.unusedVariables false

def flatS (zs : List StarV) : List Value := zs.flatMap StarV.cells
theorem flatS_cons (x : StarV) (zs : List StarV) : flatS (x :: zs) = x.cells ++ flatS zs := rfl
theorem flatS_app (a b : List StarV) : flatS (a ++ b) = flatS a ++ flatS b := List.flatMap_append
theorem flatS_len : ∀ zs : List StarV, (flatS zs).length = zs.length * 5
  | [] => rfl
  | x :: zs => by
    rw [flatS_cons, List.length_append, flatS_len zs, List.length_cons]
    show 5 + _ = _
    omega
theorem flatS_get : ∀ (zs : List StarV) (j : Nat) (hj : j < zs.length) (i : Nat), i < 5 → (flatS zs)[j * 5 + i]? = some (fieldV zs[j] i)
  | x :: zs, 0, _, i, hi => by
    rw [flatS_cons, Nat.zero_mul, Nat.zero_add, List.getElem?_append_left (by show i < 5; exact hi)]
    rcases (by omega : i = 0 ∨ i = 1 ∨ i = 2 ∨ i = 3 ∨ i = 4) with rfl | rfl | rfl | rfl | rfl <;> rfl
  | x :: zs, j + 1, hj, i, hi => by
    rw [flatS_cons, List.getElem?_append_right (by show 5 ≤ _; omega)]
    have := flatS_get zs j (by simpa using hj) i hi
    rw [show (j + 1) * 5 + i - x.cells.length = j * 5 + i by show (j + 1) * 5 + i - 5 = _; omega]
    exact this
theorem flatS_one : ∀ (zs : List StarV), ∀ u ∈ flatS zs, u.oneCell' = true
  | [], u, h => by cases h
  | x :: zs, u, h => by
    rw [flatS_cons, List.mem_append] at h
    rcases h with h | h
    · simp only [StarV.cells, List.mem_cons, List.not_mem_nil, or_false] at h
      rcases h with rfl | rfl | rfl | rfl | rfl <;> rfl
    · exact flatS_one zs u h
theorem flatS_take (zs : List StarV) (k : Nat) : flatS (zs.take k) = (flatS zs).take (k * 5) := by
  induction zs generalizing k with
  | nil => simp [flatS]
  | cons x zs ih =>
    cases k with
    | zero => simp [flatS]
    | succ k =>
      have e : (k + 1) * 5 = x.cells.length + k * 5 := by show _ = 5 + k * 5; omega
      rw [List.take_succ_cons, flatS_cons, flatS_cons, ih, e, List.take_length_add_append]
theorem flatS_drop (zs : List StarV) (k : Nat) : flatS (zs.drop k) = (flatS zs).drop (k * 5) := by
  induction zs generalizing k with
  | nil => simp [flatS]
  | cons x zs ih =>
    cases k with
    | zero => simp
    | succ k =>
      have e : (k + 1) * 5 = x.cells.length + k * 5 := by show _ = 5 + k * 5; omega
      rw [List.drop_succ_cons, flatS_cons, ih, e, List.drop_length_add_append]
theorem flatS_set (zs : List StarV) (j : Nat) (hj : j < zs.length) (x : StarV) : flatS (zs.set j x) = ((((((flatS zs).set (j * 5) (.string x.s)).set (j * 5 + 1) (.int .i64 x.a)).set (j * 5 + 2) (.int .i64 x.b)).set (j * 5 + 3) (.int .i64 x.c)).set (j * 5 + 4) (.int .i64 x.d)) := by
  have h := flatS_len zs
  have h' := flatS_len (zs.set j x)
  rw [List.length_set] at h'
  apply List.ext_getElem?
  intro k
  by_cases hk : k < zs.length * 5
  · have e : k = k / 5 * 5 + k % 5 := by omega
    have kl : k / 5 < (zs.set j x).length := by rw [List.length_set]; omega
    have g1 := flatS_get (zs.set j x) (k / 5) kl (k % 5) (by omega)
    have g0 := flatS_get zs (k / 5) (by omega) (k % 5) (by omega)
    rw [← e] at g1 g0
    rw [g1]
    simp only [List.getElem?_set, List.length_set, h]
    by_cases c : k / 5 = j
    · subst c
      rw [List.getElem_set_self]
      rcases (by omega : k % 5 = 0 ∨ k % 5 = 1 ∨ k % 5 = 2 ∨ k % 5 = 3 ∨ k % 5 = 4) with m | m | m | m | m
      · rw [m]
        rw [if_neg (by omega), if_neg (by omega), if_neg (by omega), if_neg (by omega), if_pos (by omega), if_pos (by omega)]
        rfl
      · rw [m]
        rw [if_neg (by omega), if_neg (by omega), if_neg (by omega), if_pos (by omega), if_pos (by omega)]
        rfl
      · rw [m]
        rw [if_neg (by omega), if_neg (by omega), if_pos (by omega), if_pos (by omega)]
        rfl
      · rw [m]
        rw [if_neg (by omega), if_pos (by omega), if_pos (by omega)]
        rfl
      · rw [m]
        rw [if_pos (by omega), if_pos (by omega)]
        rfl
    · rw [List.getElem_set_ne (fun e => c e.symm)]
      rw [if_neg (by omega), if_neg (by omega), if_neg (by omega), if_neg (by omega), if_neg (by omega), g0]
  · rw [List.getElem?_eq_none (by omega), List.getElem?_eq_none (by simp only [List.length_set]; omega)]

/-- v is an own row of these stars, at B or above. -/
def SOwn (w : World) (B : Nat) (v : Value) (zs : List StarV) : Prop := w.ownsRow B 26 5 v zs.length (flatS zs)
theorem SOwn.at {w : World} {B g cap : Nat} {zs : List StarV} (h : SOwn w B (.slice (some ⟨g, 0, none⟩) zs.length cap) zs) (j : Nat) (hj : j < zs.length) : StarAt w g (j * 5) zs[j] := by
  have e : ∀ i, i < 5 → w.cell? ⟨g, j * 5 + i, none⟩ = some (fieldV zs[j] i) := by
    intro i hi
    have := World.ownsRow.cells h (g := g) rfl (j * 5 + i) _ (flatS_get zs j hj i hi)
    have ea : ((⟨g, 0, none⟩ : Addr).add (j * 5 + i)) = ⟨g, j * 5 + i, none⟩ := by unfold Addr.add; split <;> simp_all
    rwa [ea] at this
  exact ⟨e 0 (by omega), e 1 (by omega), e 2 (by omega), e 3 (by omega), e 4 (by omega)⟩
theorem SOwn.forms {w : World} {B : Nat} {v : Value} {zs : List StarV} (h : SOwn w B v zs) : (v = .slice none 0 0 ∧ zs = []) ∨ ∃ g cap, v = .slice (some ⟨g, 0, none⟩) zs.length cap ∧ B ≤ g ∧ g < w.heap.size := by
  rcases h.2 with ⟨hv, h0⟩ | ⟨g, cap, cur, hv, hg, hh, _⟩
  · exact Or.inl ⟨hv, List.length_eq_zero_iff.1 h0⟩
  · exact Or.inr ⟨g, cap, hv, hg, (Array.getElem?_eq_some_iff.1 hh).1⟩
theorem SOwn.keep {w w' : World} {B : Nat} {v : Value} {zs : List StarV} (h : SOwn w B v zs) (hb : Below w.heap.size w w') : SOwn w' B v zs :=
  World.ownsRow.kept h (⟨hb.os, hb.tape, hb.output, hb.size, fun k hk _ => hb.block k hk⟩ : w.grownBy w' none) (by cases hv : v.ownBlock <;> simp)
theorem SOwn.gb {w w' : World} {B g : Nat} {v : Value} {zs : List StarV} (h : SOwn w B v zs) (hg : w.grownBy w' (some g)) (hlt : g < B) : SOwn w' B v zs := by
  refine World.ownsRow.kept h hg ?_
  rcases h.forms with ⟨rfl, _⟩ | ⟨g', cap, rfl, hB, _⟩
  · exact Or.inl rfl
  · refine Or.inr (fun e => ?_)
    have : g' = g := by simpa [Value.ownBlock] using e
    omega
theorem SOwn.nil (w : World) (B : Nat) : SOwn w B (.slice none 0 0) [] := World.ownsRow_nil _ _ _ _
theorem SOwn.le {w : World} {B B' : Nat} {v : Value} {zs : List StarV} (h : SOwn w B' v zs) (hB : B ≤ B') : SOwn w B v zs := by
  rcases h with ⟨h0, h1 | ⟨g, cap, cur, hv, hg, r⟩⟩
  · exact ⟨h0, Or.inl h1⟩
  · exact ⟨h0, Or.inr ⟨g, cap, cur, hv, by omega, r⟩⟩
theorem SOwn.put {w : World} {B g cap : Nat} {zs : List StarV} (h : SOwn w B (.slice (some ⟨g, 0, none⟩) zs.length cap) zs) (j : Nat) (hj : j < zs.length) (x : StarV) : SOwn (putAt w g (j * 5) x) B (.slice (some ⟨g, 0, none⟩) zs.length cap) (zs.set j x) := by
  have h0 := (World.ownsRow.stored h (j * 5) (.string x.s)).1
  have h1 := (World.ownsRow.stored h0 (j * 5 + 1) (.int .i64 x.a)).1
  have h2 := (World.ownsRow.stored h1 (j * 5 + 2) (.int .i64 x.b)).1
  have h3 := (World.ownsRow.stored h2 (j * 5 + 3) (.int .i64 x.c)).1
  have h4 := (World.ownsRow.stored h3 (j * 5 + 4) (.int .i64 x.d)).1
  unfold SOwn putAt
  rw [List.length_set, flatS_set zs j hj x]
  exact h4
theorem SOwn.of_row {w : World} {B g : Nat} {zs : List StarV} (h : Row w g zs) (hB : B ≤ g) (hz : zs.length ≤ maxLen) : SOwn w B (.slice (some ⟨g, 0, none⟩) zs.length zs.length) zs := by
  obtain ⟨c, hb, hn, hc⟩ := h
  refine ⟨flatS_len zs, Or.inr ⟨g, zs.length, c, rfl, hB, hb, Nat.le_refl _, hz, hn, ?_⟩⟩
  rw [List.take_of_length_le (by rw [Array.length_toList, hn]; exact Nat.le_refl _)]
  apply List.ext_getElem?
  intro k
  rw [Array.getElem?_toList]
  by_cases hk : k < zs.length * 5
  · have e : k = k / 5 * 5 + k % 5 := by omega
    have g0 := flatS_get zs (k / 5) (by omega) (k % 5) (by omega)
    rw [← e] at g0
    rw [hc k hk, g0]
    unfold rowF
    rw [List.getD, List.getElem?_eq_getElem (by omega)]
    rfl
  · have := flatS_len zs
    rw [List.getElem?_eq_none (by omega)]
    exact Array.getElem?_eq_none (by omega)
end Go.Proofs.Ytfjhlapcopjfiaa
