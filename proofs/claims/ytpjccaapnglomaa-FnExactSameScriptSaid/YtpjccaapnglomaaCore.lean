/-
  The contracts of the basic helpers of package impl: least, greatest and within, at int64, int and byte: each returns what its Lean function says and leaves the world as it was.
-/
import Derived.Test.YtpjccaapnglomaaRows
import Derived.WalkKit
import Derived.ProofKit
import Derived.OpenShut
import Derived.WalkLawsBesides
import Derived.Lib.Hide
import Derived.Below
namespace Go.Proofs.Ytpjccaapnglomaa
open Go.RowKit

theorem ret_str {a b : ByteArray} (h : a = b) : Ending.returned (.string a) = .returned (.string b) := by rw [h]
theorem ret_int {k : IntKind} {a b : Int} (h : a = b) : Ending.returned (.int k a) = .returned (.int k b) := by rw [h]
theorem ret_bool {a b : Bool} (h : a = b) : Ending.returned (.bool a) = .returned (.bool b) := by rw [h]
def mnI (a b : Int) : Int := if b < a then b else a
def mxI (a b : Int) : Int := if a < b then b else a
def leastI (f : Int) (zs : List Int) : Int := zs.foldl mnI f
def greatestI (f : Int) (zs : List Int) : Int := zs.foldl mxI f
def inR (lo hi : Int) (zs : List Int) : Bool := zs.all fun z => decide (lo ≤ z) && decide (z ≤ hi)

theorem leastI_snoc (f : Int) (zs : List Int) (k : Nat) (h : k < zs.length) : leastI f (zs.take (k + 1)) = mnI (leastI f (zs.take k)) zs[k] := by
  unfold leastI
  rw [List.take_succ_eq_append_getElem h, List.foldl_append]
  rfl
theorem greatestI_snoc (f : Int) (zs : List Int) (k : Nat) (h : k < zs.length) : greatestI f (zs.take (k + 1)) = mxI (greatestI f (zs.take k)) zs[k] := by
  unfold greatestI
  rw [List.take_succ_eq_append_getElem h, List.foldl_append]
  rfl
theorem leastI_le (f : Int) (zs : List Int) : leastI f zs ≤ f := by
  induction zs generalizing f with
  | nil => exact Int.le_refl _
  | cons z zs ih =>
    have h := ih (mnI f z)
    have e : leastI f (z :: zs) = leastI (mnI f z) zs := rfl
    rw [e]
    have : mnI f z ≤ f := by unfold mnI; split <;> omega
    omega
theorem greatestI_ge (f : Int) (zs : List Int) : f ≤ greatestI f zs := by
  induction zs generalizing f with
  | nil => exact Int.le_refl _
  | cons z zs ih =>
    have h := ih (mxI f z)
    have e : greatestI f (z :: zs) = greatestI (mxI f z) zs := rfl
    rw [e]
    have : f ≤ mxI f z := by unfold mxI; split <;> omega
    omega
theorem leastI_eq (f : Int) (zs : List Int) : (leastI f zs == f) = zs.all fun z => decide (f ≤ z) := by
  induction zs generalizing f with
  | nil => simp [leastI]
  | cons z zs ih =>
    have e : leastI f (z :: zs) = leastI (mnI f z) zs := rfl
    rw [e, List.all_cons]
    by_cases h : f ≤ z
    · have e2 : mnI f z = f := by unfold mnI; rw [if_neg (by omega)]
      rw [e2, ih f]; simp [h]
    · have hle := leastI_le (mnI f z) zs
      have : mnI f z = z := by unfold mnI; rw [if_pos (by omega)]
      simp [h]; omega
theorem greatestI_eq (f : Int) (zs : List Int) : (greatestI f zs == f) = zs.all fun z => decide (z ≤ f) := by
  induction zs generalizing f with
  | nil => simp [greatestI]
  | cons z zs ih =>
    have e : greatestI f (z :: zs) = greatestI (mxI f z) zs := rfl
    rw [e, List.all_cons]
    by_cases h : z ≤ f
    · have e2 : mxI f z = f := by unfold mxI; rw [if_neg (by omega)]
      rw [e2, ih f]; simp [h]
    · have hle := greatestI_ge (mxI f z) zs
      have : mxI f z = z := by unfold mxI; rw [if_pos (by omega)]
      simp [h]; omega
theorem inR_eq (lo hi : Int) (zs : List Int) : inR lo hi zs = ((leastI lo zs == lo) && (greatestI hi zs == hi)) := by
  rw [leastI_eq, greatestI_eq]
  unfold inR
  induction zs with
  | nil => rfl
  | cons z zs ih =>
    simp only [List.all_cons, ih]
    cases decide (lo ≤ z) <;> cases decide (z ≤ hi) <;> cases (zs.all fun z => decide (lo ≤ z)) <;> cases (zs.all fun z => decide (z ≤ hi)) <;> rfl

theorem inR_2 (lo hi a b : Int) : inR lo hi [a, b] = (inR lo hi [a] && inR lo hi [b]) := by simp [inR]
theorem inR_1 (lo hi a : Int) : inR lo hi [a] = true ↔ lo ≤ a ∧ a ≤ hi := by simp [inR]

theorem cells_2 (w : World) (T : TypeId) (a b : Int) : ∀ j, j < [a, b].length →
    (w.alloc (Obj.cells #[.int .i64 a, .int .i64 b] T)).cell? ⟨w.heap.size, 0 + j, none⟩ = some (.int .i64 ([a, b].getD j 0)) := by
  intro j hj
  match j, hj with
  | 0, _ => simp
  | 1, _ => simp

theorem cells_1 (k : IntKind) (w : World) (T : TypeId) (a : Int) : ∀ j, j < [a].length →
    (w.alloc (Obj.cells #[.int k a] T)).cell? ⟨w.heap.size, 0 + j, none⟩ = some (.int k ([a].getD j 0)) := by
  intro j hj
  match j, hj with
  | 0, _ => simp

theorem cells_4 (w : World) (T : TypeId) (a b c d : Int) : ∀ j, j < [a, b, c, d].length →
    (w.alloc (Obj.cells #[.int .i64 a, .int .i64 b, .int .i64 c, .int .i64 d] T)).cell? ⟨w.heap.size, 0 + j, none⟩ = some (.int .i64 ([a, b, c, d].getD j 0)) := by
  intro j hj
  match j, hj with
  | 0, _ => simp
  | 1, _ => simp
  | 2, _ => simp
  | 3, _ => simp

end Go.Proofs.Ytpjccaapnglomaa
