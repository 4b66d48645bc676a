/-
  Lists read from texts: the contracts of ReadList (package impl) and of ReadList (package spec).
-/
import Derived.Test.YtjghopepgfgebaaDoorSplit
import Derived.Test.YtjghopepgfgebaaDoorRead
import Derived.Deep.OwnRows
namespace Go.Proofs.YtjghopepgfgebaaDoor
open Go.RowKit

/-- The numbers that parts spell, all of them in range. -/
def rowI : List (List UInt8) → Option (List Int)
  | [] => some []
  | x :: r => if numOk x = true ∧ inR (-1000000000000) 1000000000000 [numV x] = true then (rowI r).map (numV x :: ·) else none
/-- The list with a text. -/
def listR (l : List UInt8) : Option (List Int) := if l = [45] then some [] else if 64 < (spl 44 l).length then none else rowI (spl 44 l)

structure RowInv (xs : List (List UInt8)) (j : Nat) (zs : List Int) : Prop where
  len : zs.length = j
  le : j ≤ xs.length
  rest : rowI xs = (rowI (xs.drop j)).map (zs ++ ·)
theorem RowInv.start (xs : List (List UInt8)) : RowInv xs 0 [] := ⟨rfl, Nat.zero_le _, by rw [List.drop_zero]; cases rowI xs <;> rfl⟩
theorem RowInv.next {xs : List (List UInt8)} {j : Nat} {zs : List Int} (h : RowInv xs j zs) (hj : j < xs.length) (h1 : numOk xs[j] = true) (h2 : inR (-1000000000000) 1000000000000 [numV xs[j]] = true) : RowInv xs (j + 1) (zs ++ [numV xs[j]]) := by
  refine ⟨by rw [List.length_append, h.len]; rfl, hj, ?_⟩
  have hr := h.rest
  rw [List.drop_eq_getElem_cons hj, rowI, if_pos ⟨h1, h2⟩] at hr
  rw [hr]
  cases rowI (xs.drop (j + 1)) <;> simp
theorem RowInv.bad {xs : List (List UInt8)} {j : Nat} {zs : List Int} (h : RowInv xs j zs) (hj : j < xs.length) (h1 : ¬ (numOk xs[j] = true ∧ inR (-1000000000000) 1000000000000 [numV xs[j]] = true)) : rowI xs = none := by
  have hr := h.rest
  rw [List.drop_eq_getElem_cons hj, rowI, if_neg h1] at hr
  exact hr
theorem RowInv.done {xs : List (List UInt8)} {zs : List Int} (h : RowInv xs xs.length zs) : rowI xs = some zs := by
  have hr := h.rest
  rw [List.drop_length] at hr
  rw [hr]
  simp [rowI]

/-- The call returned a slice of its own that holds these numbers, and whether there are any. -/
def ListPost (r : Option (List Int)) (w : World) (e : Ending) (w' : World) : Prop :=
  ∃ v, e = .returned (.tuple #[v, .bool r.isSome]) ∧ w'.ownsRow w.heap.size 2 1 v (r.getD []).length ((r.getD []).map (Value.int .i64)) ∧ Below w.heap.size w w'
theorem list_none {w w' : World} (hb : Below w.heap.size w w') {r : Option (List Int)} (h : r = none) : ListPost r w (.returned (.tuple #[.slice none 0 0, .bool false])) w' := by
  subst h
  exact ⟨_, rfl, World.ownsRow_nil _ _ _ _, hb⟩
theorem list_some {w w' : World} (hb : Below w.heap.size w w') {r : Option (List Int)} {zs : List Int} {v : Value} {n : Nat} (h : r = some zs) (hn : zs.length = n) (ho : w'.ownsRow w.heap.size 2 1 v n (zs.map (Value.int .i64))) : ListPost r w (.returned (.tuple #[v, .bool true])) w' := by
  subst h
  subst hn
  exact ⟨_, rfl, ho, hb⟩

theorem info_i64 : (Tryd.prog.info? 2).map (fun i => (i.zero, i.size, i.bytes)) = some (some (.int .i64 0), 1, 8) := by kernel_rfl
theorem ownsRow_below {B : Nat} {w w' : World} {e : TypeId} {v : Value} {n : Nat} {xs : List Value} (h : w.ownsRow B e 1 v n xs) (hb : Below w.heap.size w w') : w'.ownsRow B e 1 v n xs :=
  h.kept (⟨hb.os, hb.tape, hb.output, hb.size, fun k hk _ => hb.block k hk⟩ : w.grownBy w' none) (by cases hv : v.ownBlock <;> simp)
theorem dash_eq (s : ByteArray) (h : (s.toList == [45]) = true) : s.data.toList = [45] := by
  rw [ByteArray.toList_eq] at h
  exact beq_iff_eq.1 h
theorem dash_ne (s : ByteArray) (h : (s.toList == [45]) = false) : ¬ s.data.toList = [45] := by
  rw [ByteArray.toList_eq] at h
  exact beq_eq_false_iff_ne.1 h
theorem bs_get (xs : List (List UInt8)) (j : Nat) (h : j < xs.length) : (bs xs)[j]? = some ⟨xs[j].toArray⟩ := by
  unfold bs
  rw [List.getElem?_map, List.getElem?_eq_getElem h]
  rfl
theorem part_size (s : ByteArray) (c : UInt8) (j : Nat) (h : j < (spl c s.data.toList).length) : (⟨((spl c s.data.toList)[j]).toArray⟩ : ByteArray).size ≤ s.size := by
  have h1 := spl_part c s.data.toList _ (List.getElem_mem h)
  rw [size_len'] at h1
  show (((spl c s.data.toList)[j]).toArray).size ≤ s.size
  simpa using h1

theorem made_list (z : Value) (n : Nat) : (madeCells #[z] n).toList = List.replicate n z := by
  apply List.ext_getElem?
  intro i
  by_cases h : i < n
  · simp [madeCells, h, Nat.mod_one]
  · simp [madeCells, h]
theorem set_next (zs : List Int) (n : Nat) (m : Int) (h : zs.length < n) :
    ((zs ++ List.replicate (n - zs.length) 0).map (Value.int .i64)).set zs.length (.int .i64 m) = (zs ++ [m] ++ List.replicate (n - (zs.length + 1)) 0).map (Value.int .i64) := by
  rw [show n - zs.length = (n - (zs.length + 1)) + 1 by omega, List.replicate_succ, ← List.map_set]
  congr 1
  rw [List.set_append_right _ _ (Nat.le_refl _), Nat.sub_self, List.set_cons_zero, List.append_assoc]
  rfl
theorem get_next (zs : List Int) (n : Nat) (h : zs.length < n) : ((zs ++ List.replicate (n - zs.length) 0).map (Value.int .i64))[zs.length]? = some (.int .i64 0) := by
  rw [show n - zs.length = (n - (zs.length + 1)) + 1 by omega, List.replicate_succ, List.getElem?_map, List.getElem?_append_right (Nat.le_refl _), Nat.sub_self]
  rfl

end Go.Proofs.YtjghopepgfgebaaDoor
