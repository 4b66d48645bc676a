/-
  PowerCurve (packages impl and spec).
-/
import Derived.Test.YtleaoemckdkndaaKnL
import Derived.Test.YtleaoemckdkndaaDivR
import Derived.Handy
import Derived.IntWalk
import Derived.Deep.AppendLies
namespace Go.Proofs.Ytleaoemckdkndaa.Kn
open Go.RowKit
set_option linter.unusedVariables false

/-- The power of a level. -/
def powV (x : Int) : Nat → Int
  | 0 => 1000
  | n + 1 => nearQ (powV x n * x) 1000
theorem powV_bd (x : Int) (h : 0 ≤ x ∧ x ≤ 1000) : ∀ n, 0 ≤ powV x n ∧ powV x n ≤ 1000 := by
  intro n
  induction n with
  | zero => exact ⟨by show (0 : Int) ≤ 1000; omega, by show (1000 : Int) ≤ 1000; omega⟩
  | succ n ih =>
    have a := Int.mul_nonneg ih.1 h.1
    have b : powV x n * x ≤ 1000 * 1000 := Int.mul_le_mul ih.2 h.2 h.1 (by omega)
    show 0 ≤ nearQ (powV x n * x) 1000 ∧ nearQ (powV x n * x) 1000 ≤ 1000
    rw [nearQ_pp _ _ a (by omega)]
    omega
theorem mul_pw {v x : Int} (h : 0 ≤ v ∧ v ≤ 1000) (k : 0 ≤ x ∧ x ≤ 1000) : 0 ≤ v * x ∧ v * x ≤ 1000000 :=
  ⟨Int.mul_nonneg h.1 k.1, Int.le_trans (Int.mul_le_mul h.2 k.2 k.1 (by omega)) (by omega)⟩
theorem divR_in (a : Int) (h : 0 ≤ a ∧ a ≤ 1000000) : divR a 1000 = nearQ a 1000 := by
  unfold divR
  rw [if_pos]
  rw [inR_2, Bool.and_eq_true, inR_1, inR_1]
  omega
/-- The knots at levels that are equally far apart. -/
def knL (f : Int → Int) (k : Nat) : List V := (List.range k).map (fun (i : Nat) => ⟨100 * (i : Int), f (100 * (i : Int))⟩)
theorem knL_len (f : Int → Int) (k : Nat) : (knL f k).length = k := by simp [knL]
theorem knL_next (f : Int → Int) (k : Nat) : knL f (k + 1) = knL f k ++ [⟨100 * (k : Int), f (100 * (k : Int))⟩] := by
  unfold knL
  rw [List.range_succ, List.map_append]
  rfl
/-- A curve of its own and a code. -/
abbrev KR := List V × Int
def KPost (R : KR) (w : World) (e : Ending) (w' : World) : Prop :=
  ∃ u, e = .returned (.tuple #[u, .int .i64 R.2]) ∧ Own w' w.heap.size w'.heap.size u R.1 ∧ Below w.heap.size w w'
def powR (e : Int) : KR := if inR 1 5 [e] = true then (knL (fun x => powV x e.toNat) 11, 0) else ([], 2)
theorem own_belowK {B : Nat} {w0 w w1 : World} {e : TypeId} {v : Value} {n : Nat} {xs : List Value} {o : Obj} (hown : w.ownsRow B e 2 v n xs) (hb : Below B w0 w) (hB : B ≤ w.heap.size)
    (hg : (w.alloc o).grownBy w1 v.ownBlock) : Below B w0 w1 :=
  (hb.alloc hB o).grown hg (by simp; omega) (fun k hk => (hown.lt k hk).1)

theorem areOne_any (lo hi a : Int) (b cap : Nat) (w : World) (hc : w.cell? ⟨b, 0, none⟩ = some (.int .i64 a)) : Calls Try.prog 71 #[.int .i64 lo, .int .i64 hi, .slice (some ⟨b, 0, none⟩) 1 cap] w fun e w' => e = .returned (.bool (inR lo hi [a])) ∧ w = w' := within1 lo hi a b cap w hc
theorem powR_len (e : Int) : (powR e).1.length ≤ 1048576 := by
  unfold powR
  split
  · show (knL (fun x => powV x e.toNat) 11).length ≤ _
    rw [knL_len]
    omega
  · exact Nat.zero_le _
end Go.Proofs.Ytleaoemckdkndaa.Kn
