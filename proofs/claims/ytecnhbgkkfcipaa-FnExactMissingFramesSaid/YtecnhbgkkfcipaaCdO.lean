/-
  A Code and a list of them as arguments, opened.
-/
import Derived.Test.YtecnhbgkkfcipaaCdA
namespace Go.Proofs.Ytecnhbgkkfcipaa.Cd
open Go.RowKit Go.Joins Go.ChangeShapes Go.WideShapes Go.Deep
set_option linter.unusedVariables false

set_option maxRecDepth 100000 in
theorem one_open {H : Type} {enc : TypeId × Value → H} {w : World} {base : Nat} {spare : Nat → Bool} {held : Bool} {r : Reach} {b0 : Nat} {v : Value} {d : DataW H} {p : List MemPlace}
    (hv : Value.okWide Try.prog w r b0 23 v) (h : DataW.Trod enc Try.prog w base spare held 23 v d p) :
    ∃ x : V, v = x.val ∧ x.ok := by
  obtain ⟨v0, v1, v2, v3, v4, n, rfl, ⟨y0, t0⟩, ⟨y1, t1⟩, ⟨y2, t2⟩, ⟨y3, t3⟩, ⟨y4, t4⟩⟩ := agg_open Try.underlying23 (by kernel_rfl) (by kernel_rfl) hv h
  obtain ⟨x0, e0, _, q0⟩ := DataW.trod_int Try.underlying2 t0
  obtain ⟨x1, e1, _, q1⟩ := DataW.trod_int Try.underlying2 t1
  obtain ⟨x2, e2, _, q2⟩ := DataW.trod_int Try.underlying2 t2
  obtain ⟨x3, e3, _, q3⟩ := DataW.trod_int Try.underlying2 t3
  obtain ⟨x4, e4, _, q4⟩ := DataW.trod_int Try.underlying2 t4
  simp only [List.cons.injEq, and_true] at e0 e1 e2 e3 e4
  subst e0 e1 e2 e3 e4
  exact ⟨⟨x0, x1, x2, x3, x4⟩, rfl, wf_fits q0, wf_fits q1, wf_fits q2, wf_fits q3, wf_fits q4⟩
end Go.Proofs.Ytecnhbgkkfcipaa.Cd
