/-
  Lists as texts: the contracts of ListText (package impl) and of l01Fits, l01List, ListText (package spec).
-/
import Derived.Test.YtkfhjmkodcahpaaDoorIntS
import Derived.Test.YtkfhjmkodcahpaaDoorCore
import Derived.Lib.Join
namespace Go.Proofs.YtkfhjmkodcahpaaDoor
open Go.RowKit

def fitsB (zs : List Int) : Bool := inR (-1000000000000) 1000000000000 zs && decide (zs.length ≤ 64)
def joinT (zs : List Int) : List UInt8 := Lib.join (zs.map Lib.itoa) [44]
def listT (zs : List Int) : List UInt8 := if fitsB zs = true then (if zs = [] then [45] else joinT zs) else []

theorem itoa_len (n : Int) (h0 : -1000000000000 ≤ n) (h1 : n ≤ 1000000000000) : (Lib.itoa n).length ≤ 20 := by
  by_cases h : n = 0
  · rw [h, itoa_zero]; simp
  · have e := congrArg List.length (signed_back n h)
    rw [List.length_reverse, List.length_map] at e
    have := signed_len n (by omega) (by omega)
    omega
theorem join_snoc (xs : List (List UInt8)) (x : List UInt8) (h : xs ≠ []) : Lib.join (xs ++ [x]) [44] = Lib.join xs [44] ++ [44] ++ x := by
  cases xs with
  | nil => exact absurd rfl h
  | cons a r =>
    rw [List.cons_append, Lib.join_cons, Lib.join_cons]
    simp [Lib.joinTail]
theorem inR_at (lo hi : Int) (zs : List Int) (h : inR lo hi zs = true) (j : Nat) (hj : j < zs.length) : lo ≤ zs[j] ∧ zs[j] ≤ hi := by
  unfold inR at h
  rw [List.all_eq_true] at h
  have := h zs[j] (List.getElem_mem hj)
  simpa using this
theorem inR_not (lo hi : Int) (zs : List Int) (j : Nat) (hj : j < zs.length) (h : inR lo hi [zs[j]] = false) : inR lo hi zs = false := by
  unfold inR at *
  rw [List.all_eq_false]
  refine ⟨zs[j], List.getElem_mem hj, ?_⟩
  simpa using h
theorem inR_take (lo hi : Int) (zs : List Int) (j : Nat) (hj : j < zs.length) (h1 : inR lo hi (zs.take j) = true) (h : inR lo hi [zs[j]] = true) : inR lo hi (zs.take (j + 1)) = true := by
  unfold inR at *
  rw [List.take_succ_eq_append_getElem hj, List.all_append, h1, h]
  rfl
/-- The text of the first j numbers. -/
def joinTo (zs : List Int) (j : Nat) : List UInt8 := joinT (zs.take j)
theorem joinTo_zero (zs : List Int) : joinTo zs 0 = [] := by unfold joinTo joinT; rw [List.take_zero]; rfl
theorem joinTo_one (zs : List Int) (h : 0 < zs.length) : joinTo zs 1 = Lib.itoa zs[0] := by
  unfold joinTo joinT
  rw [List.take_succ_eq_append_getElem h, List.take_zero, List.nil_append, List.map_cons, List.map_nil, Lib.join_one]
theorem joinTo_next (zs : List Int) (j : Nat) (h0 : 0 < j) (h : j < zs.length) : joinTo zs (j + 1) = joinTo zs j ++ [44] ++ Lib.itoa zs[j] := by
  unfold joinTo joinT
  rw [List.take_succ_eq_append_getElem h, List.map_append, List.map_cons, List.map_nil]
  refine join_snoc _ _ fun e => ?_
  have hl := congrArg List.length e
  rw [List.length_map, List.length_take, List.length_nil] at hl
  omega
theorem joinTo_len (zs : List Int) (h : inR (-1000000000000) 1000000000000 zs = true) : ∀ j, j ≤ zs.length → (joinTo zs j).length ≤ 21 * j
  | 0, _ => by rw [joinTo_zero]; simp
  | 1, hj => by
    rw [joinTo_one zs (by omega)]
    obtain ⟨b0, b1⟩ := inR_at _ _ zs h 0 (by omega)
    have := itoa_len zs[0] b0 b1
    omega
  | j + 2, hj => by
    have ih := joinTo_len zs h (j + 1) (by omega)
    obtain ⟨b0, b1⟩ := inR_at _ _ zs h (j + 1) (by omega)
    have := itoa_len zs[j + 1] b0 b1
    rw [joinTo_next zs (j + 1) (by omega) (by omega), List.length_append, List.length_append]
    simp
    omega

theorem app_bytes (a b : List UInt8) : (⟨a.toArray⟩ : ByteArray) ++ (⟨b.toArray⟩ : ByteArray) = ⟨(a ++ b).toArray⟩ := by
  apply WideShapes.bytes_inj
  rw [ByteArray.data_append, Array.toList_append]

theorem fits_iff (zs : List Int) : fitsB zs = true ↔ inR (-1000000000000) 1000000000000 zs = true ∧ zs.length ≤ 64 := by unfold fitsB; rw [Bool.and_eq_true, decide_eq_true_eq]

/-- The numbers as strings. -/
def strsT (zs : List Int) : List ByteArray := zs.map fun n => ⟨(Lib.itoa n).toArray⟩
theorem strsT_data (zs : List Int) : (strsT zs).map (·.data.toList) = zs.map Lib.itoa := by
  unfold strsT
  rw [List.map_map]
  rfl
theorem strsT_len (zs : List Int) : (strsT zs).length = zs.length := by simp [strsT]
/-- The texts made so far, empty ones behind them. -/
def textsTo (zs : List Int) (j : Nat) : List ByteArray := strsT (zs.take j) ++ List.replicate (zs.length - j) ByteArray.empty
theorem textsTo_zero (zs : List Int) : textsTo zs 0 = List.replicate zs.length ByteArray.empty := rfl
theorem textsTo_all (zs : List Int) : textsTo zs zs.length = strsT zs := by unfold textsTo; rw [List.take_length, Nat.sub_self]; simp
theorem textsTo_len (zs : List Int) (j : Nat) (h : j ≤ zs.length) : (textsTo zs j).length = zs.length := by
  unfold textsTo
  rw [List.length_append, strsT_len, List.length_take, List.length_replicate]
  omega
theorem textsTo_set (zs : List Int) (j : Nat) (h : j < zs.length) : (textsTo zs j).set j ⟨(Lib.itoa zs[j]).toArray⟩ = textsTo zs (j + 1) := by
  have hl : (strsT (zs.take j)).length = j := by rw [strsT_len, List.length_take]; omega
  unfold textsTo
  rw [show zs.length - j = (zs.length - (j + 1)) + 1 by omega, List.replicate_succ, List.set_append_right _ _ (by omega), hl, Nat.sub_self, List.set_cons_zero, List.take_succ_eq_append_getElem h]
  unfold strsT
  rw [List.map_append, List.append_assoc]
  rfl
theorem info_str' : (Tryd.prog.info? 9).map (fun i => (i.zero, i.size, i.bytes)) = some (some (.string ByteArray.empty), 1, 16) := by kernel_rfl
theorem fits_no (zs : List Int) (h : inR (-1000000000000) 1000000000000 zs = false) : fitsB zs = false := by unfold fitsB; rw [h]; rfl
theorem fits_long (zs : List Int) (h : ¬ zs.length ≤ 64) : fitsB zs = false := by
  unfold fitsB
  rw [show decide (zs.length ≤ 64) = false by simpa using h, Bool.and_false]
theorem cells_getD (g : Nat) (zs : List Int) (w : World) (hc : ∀ j, (hj : j < zs.length) → w.cell? ⟨g, j, none⟩ = some (.int .i64 zs[j])) : ∀ j, j < zs.length → w.cell? ⟨g, 0 + j, none⟩ = some (.int .i64 (zs.getD j 0)) := by
  intro j hj
  rw [Nat.zero_add, hc j hj]
  simp [List.getD, hj]

end Go.Proofs.YtkfhjmkodcahpaaDoor
