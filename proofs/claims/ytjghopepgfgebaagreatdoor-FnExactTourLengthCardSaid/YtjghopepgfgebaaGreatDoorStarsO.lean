/-
  A list of stars as an argument, opened.
-/
import Derived.Test.YtjghopepgfgebaaGreatDoorStar0
namespace Go.Proofs.YtjghopepgfgebaaGreatDoor
open Go.RowKit Go.Joins Go.ChangeShapes Go.WideShapes Go.Deep
set_option linter.unusedVariables false

section
variable {H : Type} {enc : TypeId × Value → H} {P : Program} {w : World} {base : Nat} {spare : Nat → Bool} {held : Bool}
/-- A slice of structs of one-cell fields: each field's cell and its reading (the guide's extra page on structs has it, the library not). -/
theorem slice_fields {t e : TypeId} {fs : Array Field} {fuel : Nat} {cs : List Value} {x : DataW H × List MemPlace} (ht : P.underlying t = some (.slice e)) (he : P.underlying e = some (.struct fs))
    (hone : oneCellFields P fs = true) (hC : P.cellsOf e = fs.size) (h : DataW.trod enc P w base spare held fuel t cs = some x) :
    (cs = [.slice none 0 0]) ∨
    ∃ (a : Addr) (len cap : Nat), cs = [.slice (some a) len cap] ∧ len ≤ cap ∧ cap ≤ maxLen ∧
      ∀ i, i < len → ∃ (n : Nat), ∀ (j : Nat) (f : Field), fs[j]? = some f → ∃ (v : Value) (y : DataW H × List MemPlace), w.cell? (a.add (i * fs.size + j)) = some v ∧ DataW.trod enc P w base spare held n f.type [v] = some y := by
  rcases open_slice ht h with h0 | ⟨a, len, cap, m, n, D, Pl, hcs, hb, hl, hm, hmm, hx, hi⟩
  · exact .inl h0.1
  · refine .inr ⟨a, len, cap, hcs, hl, hm, fun i hil => ?_⟩
    obtain ⟨cs', hc, ht'⟩ := hi i (by rw [hmm]; split <;> omega)
    rw [hC] at hc
    obtain ⟨ys, n', hn', hy, hlen, hyl, hf⟩ := DataW.trod_struct he ht'
    obtain ⟨_, hcl, hat⟩ := World.cells?_some hc
    refine ⟨n', fun j f hj => ?_⟩
    obtain ⟨ho, hk⟩ := hone_of hone j f hj
    have hjl : j < fs.size := (Array.getElem?_eq_some_iff.1 hj).1
    have hcell := hat j hjl
    have hv : cs'[j]? = some (cs'[j]'(by omega)) := List.getElem?_eq_getElem (by omega)
    have h1 := hf j f hj
    rw [ho, hk] at h1
    have hone' : (cs'.drop j).take 1 = [cs'[j]'(by omega)] := by
      rw [List.drop_eq_getElem_cons (by omega)]
      rfl
    rw [hone'] at h1
    have hys : ys[j]? = some (ys[j]'(by omega)) := List.getElem?_eq_getElem (by omega)
    refine ⟨_, _, ?_, h1.trans hys⟩
    rw [← Go.Deep.add_add, hcell, hv]
end

set_option maxRecDepth 100000 in
theorem stars_open {H : Type} {enc : TypeId × Value → H} {w : World} {base : Nat} {spare : Nat → Bool} {held : Bool} {a : Option Addr} {len cap : Nat} {d : DataW H} {p : List MemPlace}
    (h : DataW.Trod enc Tryz.prog w base spare held 24 (.slice a len cap) d p) : ∃ zs : List StarV, StarsIn w (.slice a len cap) zs ∧ zs.length ≤ 9223372036854775807 := by
  obtain ⟨fuel, hf⟩ := h
  rcases slice_fields Tryz.underlying24 Tryz.underlying45 (by kernel_rfl) (by kernel_rfl) hf with hcs | ⟨a', len', cap', hcs, hl, hm, hx⟩
  · simp [Value.cells] at hcs
    obtain ⟨rfl, rfl, rfl⟩ := hcs
    exact ⟨[], .inl ⟨_, _, rfl, rfl⟩, by simp⟩
  · simp [Value.cells] at hcs
    obtain ⟨rfl, rfl, rfl⟩ := hcs
    by_cases hl0 : len = 0
    · subst hl0
      exact ⟨[], .inl ⟨_, _, rfl, rfl⟩, by simp⟩
    · obtain ⟨b, off, spot⟩ := a'
      have hspot : spot = none := by
        obtain ⟨n, hn⟩ := hx 0 (by omega)
        obtain ⟨v, y, hc, _⟩ := hn 0 _ rfl
        simpa [Addr.add] using World.cell?_spot hc
      subst hspot
      obtain ⟨zs, hzl, hz⟩ := list_of len (fun i x => StarAt w b (off + i * 5) x ∧ x.ok) (by
        intro i hi
        obtain ⟨n, hn⟩ := hx i hi
        obtain ⟨v0, y0, k0, t0⟩ := hn 0 _ rfl
        obtain ⟨v1, y1, k1, t1⟩ := hn 1 _ rfl
        obtain ⟨v2, y2, k2, t2⟩ := hn 2 _ rfl
        obtain ⟨v3, y3, k3, t3⟩ := hn 3 _ rfl
        obtain ⟨v4, y4, k4, t4⟩ := hn 4 _ rfl
        obtain ⟨s, e0, _, g0⟩ := DataW.trod_string Tryz.underlying9 t0
        obtain ⟨a, e1, _, g1⟩ := DataW.trod_int Tryz.underlying2 t1
        obtain ⟨b', e2, _, g2⟩ := DataW.trod_int Tryz.underlying2 t2
        obtain ⟨c, e3, _, g3⟩ := DataW.trod_int Tryz.underlying2 t3
        obtain ⟨d, e4, _, g4⟩ := DataW.trod_int Tryz.underlying2 t4
        simp only [List.cons.injEq, and_true] at e0 e1 e2 e3 e4
        subst e0 e1 e2 e3 e4
        have hadd : ∀ k, (⟨b, off, none⟩ : Addr).add k = ⟨b, off + k, none⟩ := fun k => add_plain _ _ _
        rw [hadd] at k0 k1 k2 k3 k4
        exact ⟨⟨s, a, b', c, d⟩, ⟨k0, by rw [Nat.add_assoc]; exact k1, by rw [Nat.add_assoc]; exact k2, by rw [Nat.add_assoc]; exact k3, by rw [Nat.add_assoc]; exact k4⟩, g0, wf_fits g1, wf_fits g2, wf_fits g3, wf_fits g4⟩)
      subst hzl
      exact ⟨zs, .inr ⟨b, off, cap, rfl, World.block_lt_of_cell? w ⟨b, off + 0 * 5, none⟩ (hz 0 (by omega)).1.c0, hz⟩, by unfold maxLen at hm; omega⟩
end Go.Proofs.YtjghopepgfgebaaGreatDoor
