/-
  A Code and a list of them as arguments.
-/
import Derived.Test.YtecnhbgkkfcipaaArg0
import Derived.Lib.SmallJoins
import Derived.Deep.Slices
import Derived.Deep.Fields
import Derived.ChangeSame
namespace Go.Proofs.Ytecnhbgkkfcipaa.Cd
open Go.RowKit Go.Joins Go.ChangeShapes Go.WideShapes Go.Deep
set_option linter.unusedVariables false

section
variable {H : Type} {enc : TypeId × Value → H} {P : Program} {w : World} {base : Nat} {spare : Nat → Bool} {held : Bool}
/-- A struct of one-cell fields by value (the guide's extra page on structs has it for its own numbers, the library not). -/
theorem agg_open {r : Reach} {b0 : Nat} {t : TypeId} {g0 g1 g2 g3 g4 : Field} {v : Value} {d : DataW H} {p : List MemPlace} (hs : P.underlying t = some (.struct #[g0, g1, g2, g3, g4])) (hone : oneCellFields P #[g0, g1, g2, g3, g4] = true) (hC : P.cellsOf t = 5)
    (hv : Value.okWide P w r b0 t v) (h : DataW.Trod enc P w base spare held t v d p) :
    ∃ (v0 v1 v2 v3 v4 : Value) (n : Nat), v = .agg #[v0, v1, v2, v3, v4] ∧ (∃ y, DataW.trod enc P w base spare held n g0.type [v0] = some y) ∧ (∃ y, DataW.trod enc P w base spare held n g1.type [v1] = some y) ∧ (∃ y, DataW.trod enc P w base spare held n g2.type [v2] = some y) ∧ (∃ y, DataW.trod enc P w base spare held n g3.type [v3] = some y) ∧ (∃ y, DataW.trod enc P w base spare held n g4.type [v4] = some y) := by
  obtain ⟨cs, rfl, hsz⟩ := okWide_struct hs hv
  obtain ⟨l⟩ := cs
  have hl : l.length = 5 := hsz.trans hC
  obtain ⟨fuel, hf⟩ := h
  obtain ⟨xs, n, _, hx, _, hlen, hg⟩ := DataW.trod_struct hs hf
  have hlen' : xs.length = 5 := hlen
  have get : ∀ (j : Nat) (f : Field) (hj : j < 5), (#[g0, g1, g2, g3, g4] : Array Field)[j]? = some f → ∃ y, DataW.trod enc P w base spare held n f.type [l[j]] = some y := by
    intro j f hj hfj
    obtain ⟨o, k⟩ := hone_of hone j f hfj
    have h1 := hg j f hfj
    rw [o, k] at h1
    refine ⟨xs[j], ?_⟩
    have e : ((Value.agg (⟨l⟩ : Array Value)).cells.toList.drop j).take 1 = [l[j]] := by
      show (l.drop j).take 1 = [l[j]]
      rw [List.drop_eq_getElem_cons (by omega)]
      rfl
    rw [e, List.getElem?_eq_getElem (by omega)] at h1
    exact h1
  obtain ⟨c0, c1, c2, c3, c4, rfl⟩ : ∃ c0 c1 c2 c3 c4, l = [c0, c1, c2, c3, c4] := by
    match l, hl with
    | [c0, c1, c2, c3, c4], _ => exact ⟨c0, c1, c2, c3, c4, rfl⟩
  exact ⟨c0, c1, c2, c3, c4, n, rfl, get 0 g0 (by omega) rfl, get 1 g1 (by omega) rfl, get 2 g2 (by omega) rfl, get 3 g3 (by omega) rfl, get 4 g4 (by omega) rfl⟩
end

theorem list_of {α : Type} (n : Nat) (Q : Nat → α → Prop) (h : ∀ i, i < n → ∃ x, Q i x) : ∃ zs : List α, zs.length = n ∧ ∀ i, (hi : i < zs.length) → Q i zs[i] := by
  induction n with
  | zero => exact ⟨[], rfl, fun i hi => by cases hi⟩
  | succ n ih =>
    obtain ⟨zs, hl, hz⟩ := ih (fun i hi => h i (by omega))
    obtain ⟨x, hx⟩ := h n (by omega)
    refine ⟨zs ++ [x], by simp [hl], fun i hi => ?_⟩
    by_cases c : i < zs.length
    · rw [List.getElem_append_left c]; exact hz i c
    · have : i = n := by simp at hi; omega
      subst this
      rw [List.getElem_append_right (by omega)]
      simp [hl]
      exact hx

/-- The fields. -/
structure V where
  f0 : Int
  f1 : Int
  f2 : Int
  f3 : Int
  f4 : Int

/-- The fields fit. -/
def V.ok (x : V) : Prop := fits x.f0 ∧ fits x.f1 ∧ fits x.f2 ∧ fits x.f3 ∧ fits x.f4
/-- The value. -/
def V.val (x : V) : Value := .agg #[.int .i64 x.f0, .int .i64 x.f1, .int .i64 x.f2, .int .i64 x.f3, .int .i64 x.f4]
/-- The cells. -/
def V.cells (x : V) : List Value := [.int .i64 x.f0, .int .i64 x.f1, .int .i64 x.f2, .int .i64 x.f3, .int .i64 x.f4]
/-- It lies in its cells. -/
structure At (w : World) (b o : Nat) (x : V) : Prop where
  c0 : w.cell? ⟨b, o, none⟩ = some (.int .i64 x.f0)
  c1 : w.cell? ⟨b, o + 1, none⟩ = some (.int .i64 x.f1)
  c2 : w.cell? ⟨b, o + 2, none⟩ = some (.int .i64 x.f2)
  c3 : w.cell? ⟨b, o + 3, none⟩ = some (.int .i64 x.f3)
  c4 : w.cell? ⟨b, o + 4, none⟩ = some (.int .i64 x.f4)

theorem At.below {w w' : World} {b o : Nat} {x : V} (h : At w b o x) (hb : Below w.heap.size w w') : At w' b o x := by
  have hl : b < w.heap.size := World.block_lt_of_cell? w ⟨b, o, none⟩ h.c0
  exact ⟨(hb.cell (p := ⟨b, o, none⟩) hl).trans h.c0, (hb.cell (p := ⟨b, o + 1, none⟩) hl).trans h.c1, (hb.cell (p := ⟨b, o + 2, none⟩) hl).trans h.c2, (hb.cell (p := ⟨b, o + 3, none⟩) hl).trans h.c3, (hb.cell (p := ⟨b, o + 4, none⟩) hl).trans h.c4⟩
theorem At.drewN {w : World} {b o : Nat} {x : V} (h : At w b o x) {n : Nat} : At (w.drewN n) b o x := ⟨h.c0, h.c1, h.c2, h.c3, h.c4⟩
/-- A slice that came in holds these. -/
def In (w : World) (v : Value) (zs : List V) : Prop :=
  (∃ a cap, v = .slice a 0 cap ∧ zs = []) ∨ (∃ b off cap, v = .slice (some ⟨b, off, none⟩) zs.length cap ∧ b < w.heap.size ∧ ∀ j, (h : j < zs.length) → At w b (off + j * 5) zs[j] ∧ zs[j].ok)
theorem In.below {w w' : World} {v : Value} {zs : List V} (h : In w v zs) (hb : Below w.heap.size w w') : In w' v zs := by
  rcases h with h | ⟨b, off, cap, hv, hl, hc⟩
  · exact .inl h
  · exact .inr ⟨b, off, cap, hv, by have := hb.size; omega, fun j hj => ⟨(hc j hj).1.below hb, (hc j hj).2⟩⟩
theorem In.len {w : World} {v : Value} {zs : List V} (h : In w v zs) : ∃ a cap, v = .slice a zs.length cap := by
  rcases h with ⟨a, cap, rfl, rfl⟩ | ⟨b, off, cap, rfl, _⟩
  · exact ⟨a, cap, rfl⟩
  · exact ⟨_, cap, rfl⟩
theorem In.oks {w : World} {v : Value} {zs : List V} (h : In w v zs) : ∀ j, (h : j < zs.length) → zs[j].ok := by
  rcases h with ⟨a, cap, rfl, rfl⟩ | ⟨b, off, cap, rfl, _, hc⟩
  · intro j hj; cases hj
  · exact fun j hj => (hc j hj).2
end Go.Proofs.Ytecnhbgkkfcipaa.Cd
