/-
  Stars as arguments: what a star and a list of stars read as.
-/
import Derived.Test.YtjghopepgfgebaaDoorArg0
import Derived.Lib.SmallJoins
import Derived.Deep.Slices
import Derived.Deep.Fields
import Derived.ChangeSame
namespace Go.Proofs.YtjghopepgfgebaaDoor
open Go.RowKit Go.Joins Go.ChangeShapes Go.WideShapes Go.Deep
set_option linter.unusedVariables false

section
variable {H : Type} {enc : TypeId × Value → H} {P : Program} {w : World} {base : Nat} {spare : Nat → Bool} {held : Bool}
/-- A struct of five one-cell fields by value (the guide's extra page on structs has it, the library not). -/
theorem agg5_open {r : Reach} {b0 : Nat} {t : TypeId} {f0 f1 f2 f3 f4 : Field} {v : Value} {d : DataW H} {p : List MemPlace} (hs : P.underlying t = some (.struct #[f0, f1, f2, f3, f4])) (hone : oneCellFields P #[f0, f1, f2, f3, f4] = true) (hC : P.cellsOf t = 5)
    (hv : Value.okWide P w r b0 t v) (h : DataW.Trod enc P w base spare held t v d p) :
    ∃ (v0 v1 v2 v3 v4 : Value) (n : Nat), v = .agg #[v0, v1, v2, v3, v4] ∧ (∃ y, DataW.trod enc P w base spare held n f0.type [v0] = some y) ∧ (∃ y, DataW.trod enc P w base spare held n f1.type [v1] = some y) ∧
      (∃ y, DataW.trod enc P w base spare held n f2.type [v2] = some y) ∧ (∃ y, DataW.trod enc P w base spare held n f3.type [v3] = some y) ∧ (∃ y, DataW.trod enc P w base spare held n f4.type [v4] = some y) := by
  obtain ⟨cs, rfl, hsz⟩ := okWide_struct hs hv
  obtain ⟨l⟩ := cs
  have hl : l.length = 5 := hsz.trans hC
  obtain ⟨fuel, hf⟩ := h
  obtain ⟨xs, n, _, hx, _, hlen, hg⟩ := DataW.trod_struct hs hf
  have hlen' : xs.length = 5 := hlen
  have get : ∀ (j : Nat) (f : Field) (hj : j < 5), (#[f0, f1, f2, f3, f4] : Array Field)[j]? = some f → ∃ y, DataW.trod enc P w base spare held n f.type [l[j]] = some y := by
    intro j f hj hfj
    obtain ⟨o, k⟩ := hone_of hone j f hfj
    have h1 := hg j f hfj
    rw [o, k] at h1
    refine ⟨xs[j], ?_⟩
    have e : ((Value.agg (⟨l⟩ : Array Value)).cells.toList.drop j).take 1 = [l[j]] := by
      show (l.drop j).take 1 = [l[j]]
      rw [List.drop_eq_getElem_cons (by omega)]
      rfl
    rw [e, List.getElem?_eq_getElem (by omega)] at h1
    exact h1
  obtain ⟨c0, c1, c2, c3, c4, rfl⟩ : ∃ c0 c1 c2 c3 c4, l = [c0, c1, c2, c3, c4] := by
    match l, hl with
    | [c0, c1, c2, c3, c4], _ => exact ⟨c0, c1, c2, c3, c4, rfl⟩
  exact ⟨c0, c1, c2, c3, c4, n, rfl, get 0 f0 (by omega) rfl, get 1 f1 (by omega) rfl, get 2 f2 (by omega) rfl, get 3 f3 (by omega) rfl, get 4 f4 (by omega) rfl⟩
end

theorem list_of {α : Type} (n : Nat) (Q : Nat → α → Prop) (h : ∀ i, i < n → ∃ x, Q i x) : ∃ zs : List α, zs.length = n ∧ ∀ i, (hi : i < zs.length) → Q i zs[i] := by
  induction n with
  | zero => exact ⟨[], rfl, fun i hi => by cases hi⟩
  | succ n ih =>
    obtain ⟨zs, hl, hz⟩ := ih (fun i hi => h i (by omega))
    obtain ⟨x, hx⟩ := h n (by omega)
    refine ⟨zs ++ [x], by simp [hl], fun i hi => ?_⟩
    by_cases c : i < zs.length
    · rw [List.getElem_append_left c]; exact hz i c
    · have : i = n := by simp at hi; omega
      subst this
      rw [List.getElem_append_right (by omega)]
      simp [hl]
      exact hx

/-- A star's fields. -/
structure StarV where
  s : ByteArray
  a : Int
  b : Int
  c : Int
  d : Int
def StarOk (s : ByteArray) (a b c d : Int) : Prop := s.size ≤ maxLen ∧ fits a ∧ fits b ∧ fits c ∧ fits d
def StarV.ok (x : StarV) : Prop := StarOk x.s x.a x.b x.c x.d
def StarV.val (x : StarV) : Value := .agg #[.string x.s, .int .i64 x.a, .int .i64 x.b, .int .i64 x.c, .int .i64 x.d]
def StarV.cells (x : StarV) : List Value := [.string x.s, .int .i64 x.a, .int .i64 x.b, .int .i64 x.c, .int .i64 x.d]
/-- A star lies in five cells. -/
structure StarAt (w : World) (b o : Nat) (x : StarV) : Prop where
  c0 : w.cell? ⟨b, o, none⟩ = some (.string x.s)
  c1 : w.cell? ⟨b, o + 1, none⟩ = some (.int .i64 x.a)
  c2 : w.cell? ⟨b, o + 2, none⟩ = some (.int .i64 x.b)
  c3 : w.cell? ⟨b, o + 3, none⟩ = some (.int .i64 x.c)
  c4 : w.cell? ⟨b, o + 4, none⟩ = some (.int .i64 x.d)
theorem StarAt.below {w w' : World} {b o : Nat} {x : StarV} (h : StarAt w b o x) (hb : Below w.heap.size w w') : StarAt w' b o x := by
  have hl : b < w.heap.size := World.block_lt_of_cell? w ⟨b, o, none⟩ h.c0
  exact ⟨(hb.cell (p := ⟨b, o, none⟩) hl).trans h.c0, (hb.cell (p := ⟨b, o + 1, none⟩) hl).trans h.c1, (hb.cell (p := ⟨b, o + 2, none⟩) hl).trans h.c2, (hb.cell (p := ⟨b, o + 3, none⟩) hl).trans h.c3, (hb.cell (p := ⟨b, o + 4, none⟩) hl).trans h.c4⟩
/-- A slice that came in holds these stars. -/
def StarsIn (w : World) (v : Value) (zs : List StarV) : Prop :=
  (∃ a cap, v = .slice a 0 cap ∧ zs = []) ∨ (∃ b off cap, v = .slice (some ⟨b, off, none⟩) zs.length cap ∧ b < w.heap.size ∧ ∀ j, (h : j < zs.length) → StarAt w b (off + j * 5) zs[j] ∧ zs[j].ok)
/-- The list is no longer than a slice can be: its cells lie in one block. -/
theorem StarsIn.below {w w' : World} {v : Value} {zs : List StarV} (h : StarsIn w v zs) (hb : Below w.heap.size w w') : StarsIn w' v zs := by
  rcases h with h | ⟨b, off, cap, hv, hl, hc⟩
  · exact .inl h
  · exact .inr ⟨b, off, cap, hv, by have := hb.size; omega, fun j hj => ⟨(hc j hj).1.below hb, (hc j hj).2⟩⟩

set_option maxRecDepth 100000 in
theorem star_open {H : Type} {enc : TypeId × Value → H} {w : World} {base : Nat} {spare : Nat → Bool} {held : Bool} {r : Reach} {b0 : Nat} {v : Value} {d : DataW H} {p : List MemPlace}
    (hv : Value.okWide Tryd.prog w r b0 42 v) (h : DataW.Trod enc Tryd.prog w base spare held 42 v d p) :
    ∃ (s : ByteArray) (a b c d : Int), v = .agg #[.string s, .int .i64 a, .int .i64 b, .int .i64 c, .int .i64 d] ∧ StarOk s a b c d := by
  obtain ⟨v0, v1, v2, v3, v4, n, rfl, ⟨y0, t0⟩, ⟨y1, t1⟩, ⟨y2, t2⟩, ⟨y3, t3⟩, ⟨y4, t4⟩⟩ := agg5_open Tryd.underlying42 (by kernel_rfl) (by kernel_rfl) hv h
  obtain ⟨s, e0, _, g0⟩ := DataW.trod_string Tryd.underlying9 t0
  obtain ⟨a, e1, _, g1⟩ := DataW.trod_int Tryd.underlying2 t1
  obtain ⟨b, e2, _, g2⟩ := DataW.trod_int Tryd.underlying2 t2
  obtain ⟨c, e3, _, g3⟩ := DataW.trod_int Tryd.underlying2 t3
  obtain ⟨d, e4, _, g4⟩ := DataW.trod_int Tryd.underlying2 t4
  simp only [List.cons.injEq, and_true] at e0 e1 e2 e3 e4
  subst e0 e1 e2 e3 e4
  exact ⟨s, a, b, c, d, rfl, g0, wf_fits g1, wf_fits g2, wf_fits g3, wf_fits g4⟩
end Go.Proofs.YtjghopepgfgebaaDoor
