/-
  ValidCurve (packages impl and spec).
-/
import Derived.Test.YtleaoemckdkndaaKnL
import Derived.Test.YtleaoemckdkndaaQ2
import Derived.Test.YtleaoemckdkndaaKeep
import Derived.Test.YtleaoemckdkndaaCore3
import Derived.IntWalk
import Derived.Deep.RegionHeld3
import Derived.Deep.RegionWith
import Derived.Deep.QuietTactic
import Derived.BigQuiet
namespace Go.Proofs.Ytleaoemckdkndaa.Kn
open Go.RowKit
set_option linter.unusedVariables false

def gk (zs : List V) (k : Nat) : V := zs.getD k ⟨0, 0⟩
theorem gk_at (zs : List V) (k : Nat) (hk : k < zs.length) : gk zs k = zs[k] := by unfold gk; rw [List.getD_eq_getElem?_getD, List.getElem?_eq_getElem hk]; rfl
theorem Row.gk {w : World} {g : Nat} {zs : List V} (h : Row w g zs) (k : Nat) (hk : k < zs.length) : At w g (k * 2) (gk zs k) := by rw [gk_at zs k hk]; exact h.at k hk
/-- A knot may follow one. -/
def bfB (a b x y : Int) : Bool := decide (a < x) && decide (b ≤ y)
def folB (zs : List V) (j : Nat) : Bool := decide (j = 0) || bfB (gk zs (j - 1)).f0 (gk zs (j - 1)).f1 (gk zs j).f0 (gk zs j).f1
def stepI (zs : List V) (j : Nat) : Bool := inR 0 1000 [(gk zs j).f0, (gk zs j).f1] && folB zs j
def stepS (zs : List V) (j : Nat) : Bool := inR 0 1000 [(gk zs j).f1] && folB zs j
def headB (zs : List V) : Bool := inR 2 16 [(zs.length : Int)] && (decide ((gk zs 0).f0 = 0) && decide ((gk zs (zs.length - 1)).f0 = 1000))
def allK (p : Nat → Bool) (n : Nat) : Bool := (List.range n).all p
theorem allK_next (p : Nat → Bool) (n : Nat) : allK p (n + 1) = (allK p n && p n) := by unfold allK; rw [List.range_succ, List.all_append]; simp
theorem allK_at {p : Nat → Bool} {n : Nat} (h : allK p n = true) (j : Nat) (hj : j < n) : p j = true := List.all_eq_true.1 h j (List.mem_range.2 hj)
theorem allK_stop {p : Nat → Bool} {n : Nat} (j : Nat) (hj : j < n) (h : p j = false) : allK p n = false := by
  cases e : allK p n with
  | false => rfl
  | true => rw [allK_at e j hj] at h; exact absurd h (by simp)
/-- A curve is valid. -/
def curveB (zs : List V) : Bool := headB zs && allK (stepI zs) zs.length
theorem rising {zs : List V} (hz : (gk zs 0).f0 = 0) (ha : allK (stepS zs) zs.length = true) : ∀ j, j < zs.length → ∀ i, i ≤ j → 0 ≤ (gk zs i).f0 ∧ (gk zs i).f0 ≤ (gk zs j).f0 := by
  intro j
  induction j with
  | zero => intro _ i hi; obtain rfl : i = 0 := by omega
            exact ⟨by omega, Int.le_refl _⟩
  | succ j ih =>
    intro hj i hi
    have h1 := allK_at ha (j + 1) hj
    unfold stepS folB bfB at h1
    simp only [Bool.and_eq_true, Bool.or_eq_true, decide_eq_true_eq, Nat.add_one_sub_one] at h1
    have h2 : (gk zs j).f0 < (gk zs (j + 1)).f0 := by
      rcases h1.2 with e | e
      · omega
      · exact e.1
    rcases Nat.lt_or_ge i (j + 1) with hlt | hge
    · have := ih (by omega) i (by omega)
      omega
    · obtain rfl : i = j + 1 := by omega
      have := ih (by omega) j (Nat.le_refl _)
      omega
theorem both_all (zs : List V) (hh : headB zs = true) : allK (stepS zs) zs.length = allK (stepI zs) zs.length := by
  unfold headB at hh
  simp only [Bool.and_eq_true, decide_eq_true_eq, inR_1] at hh
  obtain ⟨⟨hn, hn'⟩, hz, hl⟩ := hh
  cases e : allK (stepS zs) zs.length with
  | true =>
    symm
    unfold allK
    rw [List.all_eq_true]
    intro j hj
    have hj' := List.mem_range.1 hj
    have a := allK_at e j hj'
    have b := rising hz e (zs.length - 1) (by omega) j (by omega)
    rw [hl] at b
    unfold stepS at a
    unfold stepI
    rw [Bool.and_eq_true, inR_1] at a
    rw [Bool.and_eq_true, inR_2, Bool.and_eq_true, inR_1, inR_1]
    exact ⟨⟨by omega, a.1⟩, a.2⟩
  | false =>
    symm
    cases e2 : allK (stepI zs) zs.length with
    | false => rfl
    | true =>
      exfalso
      have : allK (stepS zs) zs.length = true := by
        unfold allK
        rw [List.all_eq_true]
        intro j hj
        have a := allK_at e2 j (List.mem_range.1 hj)
        unfold stepI at a
        unfold stepS
        rw [Bool.and_eq_true, inR_2, Bool.and_eq_true] at a
        rw [Bool.and_eq_true]
        exact ⟨a.1.2, a.2⟩
      rw [this] at e
      exact absurd e (by simp)

set_option maxHeartbeats 400000 in
theorem areLevels2_any (a a' : Int) (b cap : Nat) (w : World) (hc : w.cell? ⟨b, 0, none⟩ = some (.int .i64 a)) (hc' : w.cell? ⟨b, 1, none⟩ = some (.int .i64 a')) :
    Calls Try.prog 81 #[.slice (some ⟨b, 0, none⟩) 2 cap] w fun e w' => e = .returned (.bool (inR 0 1000 [a, a'])) ∧ w = w' := by
  have I := Lib.hid (within2 0 1000 a a' b cap w hc hc')
  clear hc hc'
  go_enter Try.func81, Try.ntmps81
  go_wp2_with fail
  refine (I.out).mono ?_
  rintro e w' ⟨rfl, rfl⟩
  go_wp2_with fail
  go_ret
  exact ⟨rfl, rfl⟩
set_option maxHeartbeats 2000000 in
theorem isBefore_any (a b x y : Int) (w : World) :
    Calls Try.prog 82 #[.agg #[.int .i64 a, .int .i64 b], .agg #[.int .i64 x, .int .i64 y]] w fun e w' => e = .returned (.bool (bfB a b x y)) ∧ Below w.heap.size w w' := by
  unfold bfB
  by_cases h1 : a < x
  · rw [show decide (a < x) = true by simpa using h1, Bool.true_and]
    go_enter Try.func82, Try.ntmps82
    go_wp2_with fail
    go_ret
    refine ⟨rfl, ?_⟩
    repeat (first | exact Below.refl _ _ | refine Below.setCell ?_ (by first | (simp; done) | omega | (simp; omega)) _ | refine Below.alloc ?_ (by first | (simp; done) | omega | (simp; omega)) _ | refine bel_drew ?_)
  · rw [show decide (a < x) = false by simpa using h1, Bool.false_and]
    go_enter Try.func82, Try.ntmps82
    go_wp2_with fail
    go_ret
    refine ⟨rfl, ?_⟩
    repeat (first | exact Below.refl _ _ | refine Below.setCell ?_ (by first | (simp; done) | omega | (simp; omega)) _ | refine Below.alloc ?_ (by first | (simp; done) | omega | (simp; omega)) _ | refine bel_drew ?_)
set_option maxHeartbeats 400000 in
theorem l12Level_any (a : Int) (w : World) :
    Calls Try.prog 84 #[.int .i64 a] w fun e w' => e = .returned (.bool (inR 0 1000 [a])) ∧ w = w' := by
  go_enter Try.func84, Try.ntmps84
  go_wp2_with fail
  refine (l00In_any _ _ _ _).mono ?_
  rintro e w' ⟨rfl, rfl⟩
  go_wp2_with fail
  go_ret
  exact ⟨rfl, rfl⟩
theorem stepI_at (zs : List V) (j : Nat) : stepI zs j = (inR 0 1000 [(gk zs j).f0, (gk zs j).f1] && folB zs j) := rfl
theorem alKD (W : World) (o : Obj) : Below W.heap.size W (W.alloc o).drew := by
  have h := (Below.refl W.heap.size W).alloc (Nat.le_refl _) o
  exact ⟨h.os, h.tape, h.output, h.size, h.block⟩
end Go.Proofs.Ytleaoemckdkndaa.Kn
