/-
  Planets as arguments: what a list of planets reads as.
-/
import Derived.Test.YtlnpaihoihlpeaaPlan0
namespace Go.Proofs.Ytlnpaihoihlpeaa
open Go.RowKit Go.Joins Go.ChangeShapes Go.WideShapes Go.Deep
set_option linter.unusedVariables false

theorem list_of {α : Type} (n : Nat) (Q : Nat → α → Prop) (h : ∀ i, i < n → ∃ x, Q i x) : ∃ zs : List α, zs.length = n ∧ ∀ i, (hi : i < zs.length) → Q i zs[i] := by
  induction n with
  | zero => exact ⟨[], rfl, fun i hi => by cases hi⟩
  | succ n ih =>
    obtain ⟨zs, hl, hz⟩ := ih (fun i hi => h i (by omega))
    obtain ⟨x, hx⟩ := h n (by omega)
    refine ⟨zs ++ [x], by simp [hl], fun i hi => ?_⟩
    by_cases c : i < zs.length
    · rw [List.getElem_append_left c]; exact hz i c
    · have : i = n := by simp at hi; omega
      subst this
      rw [List.getElem_append_right (by omega)]
      simp [hl]
      exact hx


/-- A planet's fields. -/
structure PlanV where
  s : ByteArray
  a : Int
  b : Int
  c : Int
def PlanV.ok (x : PlanV) : Prop := PlanetOk x.s x.a x.b x.c
def PlanV.good (x : PlanV) : Bool := planetB x.s x.a x.b x.c
/-- A planet lies in four cells. -/
structure PlanAt (w : World) (b o : Nat) (x : PlanV) : Prop where
  c0 : w.cell? ⟨b, o, none⟩ = some (.string x.s)
  c1 : w.cell? ⟨b, o + 1, none⟩ = some (.int .i64 x.a)
  c2 : w.cell? ⟨b, o + 2, none⟩ = some (.int .i64 x.b)
  c3 : w.cell? ⟨b, o + 3, none⟩ = some (.int .i64 x.c)
theorem PlanAt.below {w w' : World} {b o : Nat} {x : PlanV} (h : PlanAt w b o x) (hb : Below w.heap.size w w') : PlanAt w' b o x := by
  have hl : b < w.heap.size := World.block_lt_of_cell? w ⟨b, o, none⟩ h.c0
  exact ⟨(hb.cell (p := ⟨b, o, none⟩) hl).trans h.c0, (hb.cell (p := ⟨b, o + 1, none⟩) hl).trans h.c1, (hb.cell (p := ⟨b, o + 2, none⟩) hl).trans h.c2, (hb.cell (p := ⟨b, o + 3, none⟩) hl).trans h.c3⟩
/-- A slice that came in holds these planets. -/
def PlansIn (w : World) (v : Value) (zs : List PlanV) : Prop :=
  (∃ a cap, v = .slice a 0 cap ∧ zs = []) ∨ (∃ b off cap, v = .slice (some ⟨b, off, none⟩) zs.length cap ∧ b < w.heap.size ∧ ∀ j, (h : j < zs.length) → PlanAt w b (off + j * 4) zs[j] ∧ zs[j].ok)
theorem PlansIn.below {w w' : World} {v : Value} {zs : List PlanV} (h : PlansIn w v zs) (hb : Below w.heap.size w w') : PlansIn w' v zs := by
  rcases h with h | ⟨b, off, cap, hv, hl, hc⟩
  · exact .inl h
  · exact .inr ⟨b, off, cap, hv, by have := hb.size; omega, fun j hj => ⟨(hc j hj).1.below hb, (hc j hj).2⟩⟩
end Go.Proofs.Ytlnpaihoihlpeaa
