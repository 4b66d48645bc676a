/-
  The law's own helpers on lists of numbers: eqInt64S at equal lists, markInt64S, heldInt64S.
-/
import Derived.Test.YtkfhjmkodcahpaaDoorListE
import Derived.Deep.QuietTactic
import Derived.BigQuiet
namespace Go.Proofs.YtkfhjmkodcahpaaDoor
open Go.RowKit

/-- The numbers k, k + 1, .. -/
def marks (k : Int) : Nat → List Int
  | 0 => []
  | n + 1 => k :: marks (k + 1) n
theorem marks_len : ∀ (n : Nat) (k : Int), (marks k n).length = n
  | 0, _ => rfl
  | n + 1, k => by rw [marks, List.length_cons, marks_len n (k + 1)]
theorem marks_get : ∀ (n : Nat) (k : Int) (j : Nat) (_h : j < n), (marks k n)[j]? = some (k + j)
  | n + 1, k, 0, _ => by rw [marks]; simp
  | n + 1, k, j + 1, _ => by
    rw [marks, List.getElem?_cons_succ, marks_get n (k + 1) j (by omega)]
    congr 1; omega

theorem cells_own {w : World} {B g cap : Nat} {e : TypeId} {zs : List Int} (h : w.ownsRow B e 1 (.slice (some ⟨g, 0, none⟩) zs.length cap) zs.length (zs.map (Value.int .i64))) :
    ∀ j, (hj : j < zs.length) → w.cell? ⟨g, j, none⟩ = some (.int .i64 zs[j]) := by
  intro j hj
  rw [h.cellAt j (by omega), List.getElem?_map, List.getElem?_eq_getElem hj]
  rfl
/-- The marks so far, the old numbers behind them. -/
def marked (k : Int) (zs : List Int) (j : Nat) : List Int := marks k j ++ zs.drop j
theorem marked_len (k : Int) (zs : List Int) (j : Nat) (h : j ≤ zs.length) : (marked k zs j).length = zs.length := by
  unfold marked
  rw [List.length_append, marks_len, List.length_drop]
  omega
theorem marks_snoc : ∀ (j : Nat) (k : Int), marks k (j + 1) = marks k j ++ [k + j]
  | 0, k => by simp [marks]
  | j + 1, k => by
    rw [marks, marks_snoc j (k + 1), marks, List.cons_append]
    congr 3
    omega
theorem marked_set (k : Int) (zs : List Int) (j : Nat) (h : j < zs.length) : (marked k zs j).set j (k + j) = marked k zs (j + 1) := by
  unfold marked
  rw [marks_snoc, List.drop_eq_getElem_cons h, List.set_append_right _ _ (by rw [marks_len]; omega), marks_len, Nat.sub_self, List.set_cons_zero, List.append_assoc]
  rfl
theorem marked_done (k : Int) (zs : List Int) : marked k zs zs.length = marks k zs.length := by
  unfold marked
  rw [List.drop_length, List.append_nil]

theorem bel_drewN {B : Nat} {a w : World} (h : Below B a w) (n : Nat) : Below B a (w.drewN n) := ⟨h.os, h.tape, h.output, h.size, h.block⟩
theorem owns_drewN {w : World} {B : Nat} {e : TypeId} {v : Value} {n : Nat} {xs : List Value} (h : w.ownsRow B e 1 v n xs) (q : Nat) : (w.drewN q).ownsRow B e 1 v n xs := h
theorem rowI_len : ∀ (xs : List (List UInt8)) (zs : List Int), rowI xs = some zs → zs.length = xs.length
  | [], zs, h => by cases h; rfl
  | x :: r, zs, h => by
    rw [rowI] at h
    split at h
    · cases hr : rowI r with
      | none => rw [hr] at h; cases h
      | some ys =>
        rw [hr] at h
        have e : numV x :: ys = zs := Option.some.inj h
        rw [← e, List.length_cons, List.length_cons, rowI_len r ys hr]
    · cases h
theorem listR_len (l : List UInt8) : ((listR l).getD []).length ≤ 64 := by
  cases hr : listR l with
  | none => simp
  | some zs =>
    unfold listR at hr
    split at hr
    · cases hr; simp
    · split at hr
      · cases hr
      · have := rowI_len _ _ hr
        simp
        omega
end Go.Proofs.YtkfhjmkodcahpaaDoor
