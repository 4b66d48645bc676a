/-
  The law's own helpers on lists of numbers: eqInt64S at equal lists, markInt64S, heldInt64S.
-/
import Derived.Test.YtjghopepgfgebaaDoorListE
import Derived.Deep.QuietTactic
import Derived.BigQuiet
namespace Go.Proofs.YtjghopepgfgebaaDoor
open Go.RowKit

/-- The numbers k, k + 1, .. -/
def marks (k : Int) : Nat → List Int
  | 0 => []
  | n + 1 => k :: marks (k + 1) n
theorem marks_len : ∀ (n : Nat) (k : Int), (marks k n).length = n
  | 0, _ => rfl
  | n + 1, k => by rw [marks, List.length_cons, marks_len n (k + 1)]
theorem marks_get : ∀ (n : Nat) (k : Int) (j : Nat) (_h : j < n), (marks k n)[j]? = some (k + j)
  | n + 1, k, 0, _ => by rw [marks]; simp
  | n + 1, k, j + 1, _ => by
    rw [marks, List.getElem?_cons_succ, marks_get n (k + 1) j (by omega)]
    congr 1; omega

set_option maxHeartbeats 400000 in
theorem eqI_empty (a b : Option Addr) (ca cb : Nat) (w : World) :
    Calls Tryd.prog 77 #[.slice a 0 ca, .slice b 0 cb] w fun e w' => e = .returned (.bool true) ∧ ∃ q, w' = w.drewN q := by
  go_enter Tryd.func77, Tryd.ntmps77
  go_wp2_with fail
  go_loop [5] (fun i => i = .int .i64 0) (fun _ => 0)
  case atStart => rfl
  case round =>
    subst hrel
    go_wp2_with fail
    go_ret
    exact ⟨rfl, 0, rfl⟩

set_option maxHeartbeats 1000000 in
theorem eqI_full (g h ca cb : Nat) (zs : List Int) (w : World) (hb : zs.length ≤ 1048576)
    (hg : ∀ j, (hj : j < zs.length) → w.cell? ⟨g, j, none⟩ = some (.int .i64 zs[j])) (hh : ∀ j, (hj : j < zs.length) → w.cell? ⟨h, j, none⟩ = some (.int .i64 zs[j])) :
    Calls Tryd.prog 77 #[.slice (some ⟨g, 0, none⟩) zs.length ca, .slice (some ⟨h, 0, none⟩) zs.length cb] w fun e w' => e = .returned (.bool true) ∧ ∃ q, w' = w.drewN q := by
  have HG := Lib.hid hg
  have HH := Lib.hid hh
  clear hg hh
  go_enter Tryd.func77, Tryd.ntmps77
  go_wp2_with fail
  go_loopw [5] (fun i wr => ∃ (j q : Nat), i = .int .i64 (j : Int) ∧ j ≤ zs.length ∧ wr = w.drewN q) (fun i _ => zs.length - (intOf i).toNat)
  case atStart => exact ⟨0, 0, rfl, Nat.zero_le _, rfl⟩
  case round =>
    obtain ⟨j, q, rfl, hj, rfl⟩ := hrel
    by_cases hlt : j < zs.length
    · have c1 := HG.out j hlt
      have c2 := HH.out j hlt
      generalize zs[j] = z at *
      go_wp2_with fail
      go_quiet (fail)
      go_wp2_with fail
      go_roundw
      case rel => exact ⟨j + 1, _, by go_num, by omega, rfl⟩
      case measure => (simp [intOf] <;> omega)
    · go_wp2_with fail
      go_ret
      exact ⟨rfl, q, rfl⟩

theorem cells_own {w : World} {B g cap : Nat} {e : TypeId} {zs : List Int} (h : w.ownsRow B e 1 (.slice (some ⟨g, 0, none⟩) zs.length cap) zs.length (zs.map (Value.int .i64))) :
    ∀ j, (hj : j < zs.length) → w.cell? ⟨g, j, none⟩ = some (.int .i64 zs[j]) := by
  intro j hj
  rw [h.cellAt j (by omega), List.getElem?_map, List.getElem?_eq_getElem hj]
  rfl
theorem eqI_same {B C : Nat} {v u : Value} {zs : List Int} {w : World} (hb : zs.length ≤ 1048576) (h1 : w.ownsRow B 2 1 v zs.length (zs.map (Value.int .i64))) (h2 : w.ownsRow C 2 1 u zs.length (zs.map (Value.int .i64))) :
    Calls Tryd.prog 77 #[v, u] w fun e w' => e = .returned (.bool true) ∧ ∃ q, w' = w.drewN q := by
  by_cases hz : zs.length = 0
  · rw [hz] at h1 h2
    rcases Go.Joins.ownsRow_forms h1 with ⟨rfl, _⟩ | ⟨g, c, rfl⟩ <;> rcases Go.Joins.ownsRow_forms h2 with ⟨rfl, _⟩ | ⟨g', c', rfl⟩ <;> exact eqI_empty _ _ _ _ _
  · obtain ⟨g, c, rfl⟩ := Go.Joins.ownsRow_form h1 (by omega)
    obtain ⟨g', c', rfl⟩ := Go.Joins.ownsRow_form h2 (by omega)
    exact eqI_full g g' c c' zs w hb (cells_own h1) (cells_own h2)

/-- The marks so far, the old numbers behind them. -/
def marked (k : Int) (zs : List Int) (j : Nat) : List Int := marks k j ++ zs.drop j
theorem marked_len (k : Int) (zs : List Int) (j : Nat) (h : j ≤ zs.length) : (marked k zs j).length = zs.length := by
  unfold marked
  rw [List.length_append, marks_len, List.length_drop]
  omega
theorem marks_snoc : ∀ (j : Nat) (k : Int), marks k (j + 1) = marks k j ++ [k + j]
  | 0, k => by simp [marks]
  | j + 1, k => by
    rw [marks, marks_snoc j (k + 1), marks, List.cons_append]
    congr 3
    omega
theorem marked_set (k : Int) (zs : List Int) (j : Nat) (h : j < zs.length) : (marked k zs j).set j (k + j) = marked k zs (j + 1) := by
  unfold marked
  rw [marks_snoc, List.drop_eq_getElem_cons h, List.set_append_right _ _ (by rw [marks_len]; omega), marks_len, Nat.sub_self, List.set_cons_zero, List.append_assoc]
  rfl
theorem marked_done (k : Int) (zs : List Int) : marked k zs zs.length = marks k zs.length := by
  unfold marked
  rw [List.drop_length, List.append_nil]

theorem bel_drewN {B : Nat} {a w : World} (h : Below B a w) (n : Nat) : Below B a (w.drewN n) := ⟨h.os, h.tape, h.output, h.size, h.block⟩
theorem owns_drewN {w : World} {B : Nat} {e : TypeId} {v : Value} {n : Nat} {xs : List Value} (h : w.ownsRow B e 1 v n xs) (q : Nat) : (w.drewN q).ownsRow B e 1 v n xs := h
theorem rowI_len : ∀ (xs : List (List UInt8)) (zs : List Int), rowI xs = some zs → zs.length = xs.length
  | [], zs, h => by cases h; rfl
  | x :: r, zs, h => by
    rw [rowI] at h
    split at h
    · cases hr : rowI r with
      | none => rw [hr] at h; cases h
      | some ys =>
        rw [hr] at h
        have e : numV x :: ys = zs := Option.some.inj h
        rw [← e, List.length_cons, List.length_cons, rowI_len r ys hr]
    · cases h
theorem listR_len (l : List UInt8) : ((listR l).getD []).length ≤ 64 := by
  cases hr : listR l with
  | none => simp
  | some zs =>
    unfold listR at hr
    split at hr
    · cases hr; simp
    · split at hr
      · cases hr
      · have := rowI_len _ _ hr
        simp
        omega
end Go.Proofs.YtjghopepgfgebaaDoor
