/-
  What a call may have changed: the blocks from B up to C, and what it made.
-/
import Derived.Test.YtecnhbgkkfcipaaVec0
import Derived.Laws.CopyOwn
namespace Go.Proofs.Ytecnhbgkkfcipaa
open Go.RowKit
set_option linter.unusedVariables false

/-- All blocks but those from B up to C are as they were. -/
structure Mod (B C : Nat) (w w' : World) : Prop where
  os : w'.os = w.os
  tape : w'.tape = w.tape
  output : w'.output = w.output
  size : w.heap.size ≤ w'.heap.size
  block : ∀ k, k < w.heap.size → (k < B ∨ C ≤ k) → w'.heap[k]? = w.heap[k]?
theorem Mod.refl (B C : Nat) (w : World) : Mod B C w w := ⟨rfl, rfl, rfl, Nat.le_refl _, fun _ _ _ => rfl⟩
theorem Mod.trans {B C : Nat} {a b c : World} (h : Mod B C a b) (k : Mod B C b c) : Mod B C a c :=
  ⟨k.os.trans h.os, k.tape.trans h.tape, k.output.trans h.output, Nat.le_trans h.size k.size, fun i hi hc => (k.block i (Nat.lt_of_lt_of_le hi h.size) hc).trans (h.block i hi hc)⟩
theorem Mod.of_below {B C : Nat} {w w' : World} (h : Below w.heap.size w w') : Mod B C w w' := ⟨h.os, h.tape, h.output, h.size, fun k hk _ => h.block k hk⟩
theorem Mod.wide {B C B' C' : Nat} {w w' : World} (h : Mod B C w w') (hB : B' ≤ B) (hC : C ≤ C') : Mod B' C' w w' :=
  ⟨h.os, h.tape, h.output, h.size, fun k hk hc => h.block k hk (by omega)⟩
theorem Mod.below {A B C : Nat} {w w' : World} (h : Mod B C w w') (hA : A ≤ B) (hs : A ≤ w.heap.size) : Below A w w' :=
  ⟨h.os, h.tape, h.output, h.size, fun k hk => h.block k (by omega) (by omega)⟩
theorem Mod.cell {B C : Nat} {w w' : World} (h : Mod B C w w') {b o : Nat} {v : Value} (hc : w.cell? ⟨b, o, none⟩ = some v) (hd : b < B ∨ C ≤ b) : w'.cell? ⟨b, o, none⟩ = some v :=
  (World.cell?_of_block (a := ⟨b, o, none⟩) (h.block b (World.block_lt_of_cell? w ⟨b, o, none⟩ hc) hd)).trans hc
theorem owns_one {w w' : World} {base g size n cap len : Nat} {e : TypeId} {xs : List Value} (h : w.ownsRow base e size (.slice (some ⟨g, 0, none⟩) len cap) n xs) (hg : w'.heap[g]? = w.heap[g]?) : w'.ownsRow base e size (.slice (some ⟨g, 0, none⟩) len cap) n xs := by
  refine ⟨h.1, ?_⟩
  rcases h.2 with hn | ⟨g', cap', cur, hv, hb, hgg, rest⟩
  · exact .inl hn
  · refine .inr ⟨g', cap', cur, hv, hb, ?_, rest⟩
    have e : g' = g := by
      injection hv with e1 _ _
      injection e1 with e1
      injection e1 with e1
      exact e1.symm
    rw [e, hg, ← e]
    exact hgg
theorem Mod.setCell {B C b o : Nat} {w w' : World} (h : Mod B C w w') (hB : B ≤ b) (hC : b < C) (v : Value) : Mod B C w (w'.setCell ⟨b, o, none⟩ v) :=
  have hb : Below 0 w' (w'.setCell ⟨b, o, none⟩ v) := (Below.refl _ _).setCell (Nat.zero_le _) v
  h.trans ⟨hb.os, hb.tape, hb.output, hb.size, fun k _ hk => heap_setCell_other _ _ _ _ (show k ≠ b by omega)⟩
theorem Mod.alloc {B C : Nat} {w w' : World} (h : Mod B C w w') (o : Obj) : Mod B C w (w'.alloc o) := h.trans (Mod.of_below ((Below.refl _ _).alloc (Nat.le_refl _) o))
theorem Mod.drew {B C : Nat} {w w' : World} (h : Mod B C w w') : Mod B C w w'.drew := h.trans ⟨rfl, rfl, rfl, Nat.le_refl _, fun _ _ _ => rfl⟩
end Go.Proofs.Ytecnhbgkkfcipaa
