/-
  The least of a row of numbers and its first place: slices.Min, slices.Index.
-/
import Derived.Test.YtoellkbmhpekdaaGreatDoorNear3
namespace Go.Proofs.YtoellkbmhpekdaaGreatDoor
open Go.RowKit
set_option linter.unusedVariables false

def bestF (f : Nat → Int) : Nat → Nat × Int
  | 0 => (0, f 0)
  | j + 1 => if f (j + 1) < (bestF f j).2 then (j + 1, f (j + 1)) else bestF f j
theorem bestF_spec (f : Nat → Int) (j : Nat) : (bestF f j).1 ≤ j ∧ f (bestF f j).1 = (bestF f j).2 ∧ (∀ k, k < (bestF f j).1 → (bestF f j).2 < f k) ∧ ∀ k, k ≤ j → (bestF f j).2 ≤ f k := by
  induction j with
  | zero => exact ⟨Nat.le_refl _, rfl, fun k hk => absurd hk (Nat.not_lt_zero _), fun k hk => by rw [show k = 0 by omega]; exact Int.le_refl _⟩
  | succ j ih =>
    obtain ⟨h1, h2, h3, h4⟩ := ih
    unfold bestF
    split
    · next hlt =>
      refine ⟨Nat.le_refl _, rfl, fun k hk => ?_, fun k hk => ?_⟩
      · have := h4 k (by simp only at hk; omega)
        show f (j + 1) < f k
        omega
      · show f (j + 1) ≤ f k
        by_cases e : k = j + 1
        · rw [e]; exact Int.le_refl _
        · have := h4 k (by omega)
          omega
    · next hlt =>
      refine ⟨by omega, h2, h3, fun k hk => ?_⟩
      by_cases e : k = j + 1
      · rw [e]; omega
      · exact h4 k (by omega)

theorem bestF_min (f : Nat → Int) (j : Nat) : (bestF f (j + 1)).2 = min (bestF f j).2 (f (j + 1)) := by
  show (if f (j + 1) < (bestF f j).2 then (j + 1, f (j + 1)) else bestF f j).2 = _
  by_cases c : f (j + 1) < (bestF f j).2
  · rw [if_pos c]
    show f (j + 1) = _
    omega
  · rw [if_neg c]
    omega

set_option maxRecDepth 100000 in
set_option maxHeartbeats 1000000 in
theorem min_any (g cap n : Nat) (f : Nat → Int) (w : World) (h : IRow w g (n + 1) f) (hb : n ≤ 1048577) :
    Calls Tryz.prog 49 #[.slice (some ⟨g, 0, none⟩) (n + 1 : Nat) cap] w fun e w' => e = .returned (.int .i64 (bestF f n).2) ∧ w = w' := by
  have c0 := World.rowIs.cell h (show 0 < n + 1 by omega)
  have H := Lib.hid h
  clear h
  obtain ⟨m, hm⟩ : ∃ m : Nat, m = n + 1 := ⟨_, rfl⟩
  rw [← hm] at H ⊢
  have m1 : ¬ (m : Int) < 1 := by omega
  have m2 : (0 : Int) < (m : Int) := by omega
  have HM := Lib.hid hm
  clear hm
  go_enter Tryz.func49, Tryz.ntmps49
  go_wp2_with fail
  go_loopg [3, 4] (m + 1) (fun kx s3 s4 wr => ∃ j : Nat, s3 = .int .i64 (bestF f j).2 ∧ s4 = .int .i64 ((j : Int) + 1) ∧ j + 1 ≤ m ∧ kx = m + 1 - j ∧ Hid (w = wr))
  case atStart => exact ⟨0, rfl, rfl, by omega, rfl, Lib.hid rfl⟩
  case round =>
    obtain ⟨j, rfl, rfl, hj, rfl, HW⟩ := hrel
    obtain rfl := HW.out
    clear HW
    by_cases hlt : j + 1 < m
    · have c1 := World.rowIs.cell H.out hlt
      have j0 : (0 : Int) ≤ (j : Int) + 1 := by omega
      have j1 : (j : Int) + 1 < (m : Int) := by omega
      have je : ((j : Int) + 1).toNat = j + 1 := by omega
      have HS := Lib.hid (bestF_min f j)
      generalize (bestF f j).2 = u at *
      go_wp2_with fail
      go_roundg (m + 1 - (j + 1))
      case measure => omega
      case rel =>
        have hm9 := HM.out
        exact ⟨j + 1, congrArg (Value.int .i64) HS.out.symm, by first | go_num | (congr 1; go_arith) | (congr 1; unfold wrap64; omega), by omega, by omega, Lib.hid rfl⟩
    · have j1 : ¬ (j : Int) + 1 < (m : Int) := by omega
      obtain rfl : m = j + 1 := by omega
      obtain rfl : n = j := by have := HM.out; omega
      go_wp2_with fail
      go_ret
      exact ⟨rfl, rfl⟩

set_option maxRecDepth 100000 in
set_option maxHeartbeats 1000000 in
theorem index_any (g cap m k0 : Nat) (v : Int) (f : Nat → Int) (w : World) (h : IRow w g m f) (hb : m ≤ 1048578) (hk : k0 < m) (hv : f k0 = v) (hne : ∀ k, k < k0 → v ≠ f k) :
    Calls Tryz.prog 50 #[.slice (some ⟨g, 0, none⟩) m cap, .int .i64 v] w fun e w' => e = .returned (.int .i64 (k0 : Int)) ∧ w = w' := by
  have H := Lib.hid h
  have NE := Lib.hid hne
  have HV := Lib.hid hv
  clear h hne hv
  go_enter Tryz.func50, Tryz.ntmps50
  go_wp2_with fail
  go_loopg [8] (m + 1) (fun kx s8 wr => ∃ j : Nat, s8 = .int .i64 (j : Int) ∧ j ≤ k0 ∧ kx = m + 1 - j ∧ Hid (w = wr))
  case atStart => exact ⟨0, rfl, Nat.zero_le _, rfl, Lib.hid rfl⟩
  case round =>
    obtain ⟨j, rfl, hj, rfl, HW⟩ := hrel
    obtain rfl := HW.out
    clear HW
    have hlt : j < m := by omega
    have c1 := World.rowIs.cell H.out hlt
    have j0 : (0 : Int) ≤ (j : Int) := by omega
    have j1 : (j : Int) < (m : Int) := by omega
    by_cases e : j = k0
    · subst e
      rw [HV.out] at c1
      go_wp2_with fail
      go_ret
      exact ⟨rfl, rfl⟩
    · have n1 := NE.out j (by omega)
      have n2 : (v == f j) = false := by simpa using n1
      generalize f j = u at *
      go_wp2_with fail
      go_roundg (m + 1 - (j + 1))
      case measure => omega
      case rel => exact ⟨j + 1, by go_num, by omega, by omega, Lib.hid rfl⟩
end Go.Proofs.YtoellkbmhpekdaaGreatDoor
