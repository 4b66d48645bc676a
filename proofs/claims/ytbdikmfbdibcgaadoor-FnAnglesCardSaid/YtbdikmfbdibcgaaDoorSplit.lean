/-
  Dividing texts: the contract of l01Split (package spec), and what strings.Split comes to at one byte.
-/
import Derived.Test.YtbdikmfbdibcgaaDoorCore
import Derived.Test.YtbdikmfbdibcgaaDoorPost
import Derived.Test.YtbdikmfbdibcgaaDoorDec
import Derived.Test.YtbdikmfbdibcgaaDoorSplitMath
import Derived.Test.YtbdikmfbdibcgaaDoorShelfSplit
import Derived.WalkSpells
namespace Go.Proofs.YtbdikmfbdibcgaaDoor
open Go.RowKit

theorem info_str : (Tryd.prog.info? 9).map (fun i => (i.zero, i.size, i.bytes)) = some (some (.string ByteArray.empty), 1, 16) := by kernel_rfl
theorem one_cell_s (w : World) (T : TypeId) (c : ByteArray) : ∀ (j : Nat) u, [Value.string c][j]? = some u → (w.alloc (.cells #[.string c] T)).cell? ((⟨w.heap.size, 0, none⟩ : Addr).add j) = some u := by
  intro j u hj
  match j, hj with
  | 0, hj => simp at hj; subst hj; simp [Addr.add]
theorem one_plain_s (c : ByteArray) : ∀ u ∈ [Value.string c], u.oneCell' = true := by
  intro u hu
  simp at hu
  subst hu
  rfl

/-- The call returned a slice of its own that holds these strings. -/
def RowPost (xs : List ByteArray) (w : World) (e : Ending) (w' : World) : Prop :=
  ∃ v, e = .returned v ∧ w'.ownsRow w.heap.size 9 1 v xs.length (xs.map Value.string) ∧ Below w.heap.size w w'

theorem size_len' (s : ByteArray) : s.data.toList.length = s.size := Array.length_toList
theorem get_list (s : ByteArray) (i : Nat) (h : i < s.size) : s.data.toList[i]'(by rw [size_len']; exact h) = s[i] := rfl

/-- strings.Split at one byte. -/
def LenOK (w : World) : Prop := ∃ m, w.cell? ⟨1, 0, none⟩ = some (.int .i64 m)
theorem LenOK.below {w w' : World} (h : LenOK w) (hb : Below w.heap.size w w') : LenOK w' := by
  obtain ⟨m, hm⟩ := h
  have hlt : 1 < w.heap.size := World.block_lt_of_cell? w ⟨1, 0, none⟩ hm
  exact ⟨m, (hb.cell (p := ⟨1, 0, none⟩) hlt).trans hm⟩
end Go.Proofs.YtbdikmfbdibcgaaDoor
