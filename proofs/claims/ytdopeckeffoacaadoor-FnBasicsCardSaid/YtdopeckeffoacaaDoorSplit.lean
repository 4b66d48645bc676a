/-
  Dividing texts: the contract of l01Split (package spec), and what strings.Split comes to at one byte.
-/
import Derived.Test.YtdopeckeffoacaaDoorCore
import Derived.Test.YtdopeckeffoacaaDoorPost
import Derived.Test.YtdopeckeffoacaaDoorDec
import Derived.Test.YtdopeckeffoacaaDoorSplitMath
import Derived.Test.YtdopeckeffoacaaDoorShelfSplit
import Derived.WalkSpells
namespace Go.Proofs.YtdopeckeffoacaaDoor
open Go.RowKit

theorem info_str : (Tryd.prog.info? 9).map (fun i => (i.zero, i.size, i.bytes)) = some (some (.string ByteArray.empty), 1, 16) := by kernel_rfl
theorem one_cell_s (w : World) (T : TypeId) (c : ByteArray) : ∀ (j : Nat) u, [Value.string c][j]? = some u → (w.alloc (.cells #[.string c] T)).cell? ((⟨w.heap.size, 0, none⟩ : Addr).add j) = some u := by
  intro j u hj
  match j, hj with
  | 0, hj => simp at hj; subst hj; simp [Addr.add]
theorem one_plain_s (c : ByteArray) : ∀ u ∈ [Value.string c], u.oneCell' = true := by
  intro u hu
  simp at hu
  subst hu
  rfl

/-- The call returned a slice of its own that holds these strings. -/
def RowPost (xs : List ByteArray) (w : World) (e : Ending) (w' : World) : Prop :=
  ∃ v, e = .returned v ∧ w'.ownsRow w.heap.size 9 1 v xs.length (xs.map Value.string) ∧ Below w.heap.size w w'

theorem size_len' (s : ByteArray) : s.data.toList.length = s.size := Array.length_toList
theorem get_list (s : ByteArray) (i : Nat) (h : i < s.size) : s.data.toList[i]'(by rw [size_len']; exact h) = s[i] := rfl

/-- strings.Split at one byte. -/
def LenOK (w : World) : Prop := ∃ m, w.cell? ⟨3, 0, none⟩ = some (.int .i64 m)
theorem LenOK.below {w w' : World} (h : LenOK w) (hb : Below w.heap.size w w') : LenOK w' := by
  obtain ⟨m, hm⟩ := h
  have hlt : 3 < w.heap.size := World.block_lt_of_cell? w ⟨3, 0, none⟩ hm
  exact ⟨m, (hb.cell (p := ⟨3, 0, none⟩) hlt).trans hm⟩
theorem split_any (s : ByteArray) (c : UInt8) (w : World) (hs : s.size ≤ 1048576) (hm : LenOK w) :
    Calls Tryd.prog 23 #[.string s, .string ⟨#[c]⟩] w (RowPost (bs (spl c s.data.toList)) w) := by
  obtain ⟨m, hm⟩ := hm
  refine (Tryd.strings_Split s ⟨#[c]⟩ m w (by omega) hm (Nat.le_refl 1)).mono fun e w' h => ?_
  obtain ⟨he, hw⟩ := h
  have hl : (bs (spl c s.data.toList)).length = Lib.countB s ⟨#[c]⟩ + 1 := by
    rw [← splitB_spl]
    exact Lib.splitB_all ⟨#[c]⟩ (Nat.le_refl 1) 0 _ s rfl
  have hlen := spl_len c s.data.toList
  rw [size_len'] at hlen
  refine ⟨_, he, ?_, ?_⟩
  · rw [hw, splitB_spl, ← hl]
    have := World.ownsRow_lit (base := w.heap.size) (e := 9) (size := 1) w ((bs (spl c s.data.toList)).map Value.string).toArray (bs (spl c s.data.toList)).length (Nat.le_refl _) (by rw [bs_len]; unfold maxLen; omega) (by simp)
    simpa using this
  · rw [hw]
    exact (Below.refl _ _).alloc (Nat.le_refl _) _
end Go.Proofs.YtdopeckeffoacaaDoor
