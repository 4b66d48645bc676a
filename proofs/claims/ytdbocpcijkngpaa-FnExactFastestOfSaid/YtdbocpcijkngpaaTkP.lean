/-
  FastestOf (both packages).
-/
import Derived.Test.YtdbocpcijkngpaaTkQ
import Derived.Test.YtdbocpcijkngpaaTkN
namespace Go.Proofs.Ytdbocpcijkngpaa.Tk
open Go.RowKit
open Ky (V In Own Row At gk)
set_option linter.unusedVariables false

/-- The first greatest of the first speeds. -/
def bsF (f : Nat → Int) : Nat → Nat × Int
  | 0 => (0, -1)
  | i + 1 => if (bsF f i).2 < f i then (i, f i) else bsF f i
theorem bsF_yes (f : Nat → Int) (i : Nat) (h : (bsF f i).2 < f i) : bsF f (i + 1) = (i, f i) := if_pos h
theorem bsF_no (f : Nat → Int) (i : Nat) (h : ¬ (bsF f i).2 < f i) : bsF f (i + 1) = bsF f i := if_neg h
theorem bsF_max (f : Nat → Int) (i : Nat) : (bsF f (i + 1)).2 = if (bsF f i).2 < f i then f i else (bsF f i).2 := by
  by_cases h : (bsF f i).2 < f i
  · rw [bsF_yes f i h, if_pos h]
  · rw [bsF_no f i h, if_neg h]
theorem bsF_ge (f : Nat → Int) : ∀ n i, i < n → f i ≤ (bsF f n).2
  | 0, i, h => by omega
  | n + 1, i, h => by
    rw [bsF_max]
    rcases Nat.lt_or_ge i n with c | c
    · have := bsF_ge f n i c
      split <;> omega
    · obtain rfl : i = n := by omega
      split <;> omega
theorem bsF_is (f : Nat → Int) : ∀ n, 1 ≤ n → (∀ i, i < n → 0 ≤ f i) → (bsF f n).1 < n ∧ f (bsF f n).1 = (bsF f n).2 ∧ ∀ k, k < (bsF f n).1 → f k < (bsF f n).2
  | 0, h, _ => by omega
  | n + 1, _, h0 => by
    by_cases h : (bsF f n).2 < f n
    · rw [bsF_yes f n h]
      exact ⟨Nat.lt_succ_self n, rfl, fun k hk => Int.lt_of_le_of_lt (bsF_ge f n k hk) h⟩
    · rw [bsF_no f n h]
      rcases Nat.eq_zero_or_pos n with e | e
      · subst e
        exfalso
        have := h0 0 (by omega)
        apply h
        show (-1 : Int) < f 0
        omega
      · have ih := bsF_is f n e (fun i hi => h0 i (by omega))
        exact ⟨Nat.lt_succ_of_lt ih.1, ih.2⟩
theorem bsF_low (f : Nat → Int) : ∀ n, -1 ≤ (bsF f n).2
  | 0 => by show (-1 : Int) ≤ -1; omega
  | n + 1 => by
    have := bsF_low f n
    rw [bsF_max]
    split <;> omega
/-- What FastestOf answers. -/
def fastV (s : ByteArray) (zs : List V) : Int × Int × Int := if trackB s zs = true then (if zs.length = 1 then (0, 0, 6) else (((bsF (spd zs) (zs.length - 1)).1 : Int), (bsF (spd zs) (zs.length - 1)).2, 0)) else (0, 0, 1)
def N3Post (r : Int × Int × Int) (w : World) (e : Ending) (w' : World) : Prop := e = .returned (.tuple #[.int .i64 r.1, .int .i64 r.2.1, .int .i64 r.2.2]) ∧ Below w.heap.size w w'

set_option maxRecDepth 100000 in
set_option maxHeartbeats 2000000 in
theorem maxI_any (g cap n : Nat) (f : Nat → Int) (w : World) (hn : 1 ≤ n) (hb : n ≤ 1048577) (hp : ∀ i, i < n → 0 ≤ f i) (hc : ∀ j, j < n → w.cell? ⟨g, j, none⟩ = some (.int .i64 (f j))) :
    Calls Try.prog 89 #[.slice (some ⟨g, 0, none⟩) n cap] w fun e w' => e = .returned (.int .i64 (bsF f n).2) ∧ w = w' := by
  have HC := Lib.hid hc
  have BM := Lib.hid (bsF_max f)
  have c0 := hc 0 (by omega)
  have h1 : (bsF f 1).2 = f 0 := by
    rw [bsF_max, if_pos]
    have := hp 0 (by omega)
    show (-1 : Int) < f 0
    omega
  have l1 : ¬ (n : Int) < 1 := by omega
  have l0 : (0 : Int) < (n : Int) := by omega
  clear hc hp
  obtain ⟨B, hB⟩ : ∃ B, B = fun i => (bsF f i).2 := ⟨_, rfl⟩
  have hB1 : ∀ i, (bsF f i).2 = B i := fun i => by rw [hB]
  simp only [hB1] at BM h1 ⊢
  clear hB hB1
  generalize f 0 = y0 at *
  subst h1
  go_enter Try.func89, Try.ntmps89
  go_wp2_with fail
  clear c0
  go_loopg [3, 4] (n + 1) (fun kx s3 s4 wr => ∃ j : Nat, s3 = .int .i64 (B (j + 1)) ∧ s4 = .int .i64 ((j + 1 : Nat) : Int) ∧ j + 1 ≤ n ∧ kx = n + 1 - j ∧ w = wr)
  case atStart => exact ⟨0, rfl, rfl, hn, rfl, rfl⟩
  case round =>
    obtain ⟨j, rfl, rfl, hj, rfl, rfl⟩ := hrel
    by_cases hlt : j + 1 < n
    · have cj := HC.out (j + 1) hlt
      have bm := BM.out (j + 1)
      have j0 : (0 : Int) ≤ ((j + 1 : Nat) : Int) := by omega
      have j1 : ((j + 1 : Nat) : Int) < (n : Int) := by omega
      have j2 : (0 : Int) ≤ (j : Int) + 1 := by omega
      have j3 : (j : Int) + 1 < (n : Int) := by omega
      generalize f (j + 1) = y at *
      generalize B (j + 1) = b at *
      have HBM := Lib.hid bm
      clear bm
      by_cases hy : b < y
      · have hif : (if b < y then y else b) = y := if_pos hy
        have hBE := HBM.out
        rw [hif] at hBE
        have HBE := Lib.hid hBE
        clear hBE HBM
        go_wp2_with fail
        go_roundg (n + 1 - (j + 1))
        case measure => omega
        case rel => exact ⟨j + 1, by rw [HBE.out], by go_num, by omega, by omega, rfl⟩
      · have hif : (if b < y then y else b) = b := if_neg hy
        have hBE := HBM.out
        rw [hif] at hBE
        have HBE := Lib.hid hBE
        clear hBE HBM
        go_wp2_with fail
        go_roundg (n + 1 - (j + 1))
        case measure => omega
        case rel => exact ⟨j + 1, by rw [HBE.out], by go_num, by omega, by omega, rfl⟩
    · obtain rfl : n = j + 1 := by omega
      go_wp2_with fail
      go_ret
      exact ⟨rfl, rfl⟩
set_option maxRecDepth 100000 in
set_option maxHeartbeats 2000000 in
theorem indexI_any (g cap n k0 : Nat) (v : Int) (f : Nat → Int) (w : World) (hb : n ≤ 1048577) (hk : k0 < n) (hv : f k0 = v) (hne : ∀ k, k < k0 → f k < v) (hc : ∀ j, j < n → w.cell? ⟨g, j, none⟩ = some (.int .i64 (f j))) :
    Calls Try.prog 90 #[.slice (some ⟨g, 0, none⟩) n cap, .int .i64 v] w fun e w' => e = .returned (.int .i64 (k0 : Int)) ∧ w = w' := by
  have HC := Lib.hid hc
  have HN := Lib.hid hne
  clear hc hne
  go_enter Try.func90, Try.ntmps90
  go_wp2_with fail
  go_loopg [8] (n + 1) (fun kx s8 wr => ∃ j : Nat, s8 = .int .i64 (j : Int) ∧ j ≤ k0 ∧ kx = n + 1 - j ∧ w = wr)
  case atStart => exact ⟨0, rfl, Nat.zero_le _, rfl, rfl⟩
  case round =>
    obtain ⟨j, rfl, hj, rfl, rfl⟩ := hrel
    have cj := HC.out j (by omega)
    have j0 : (0 : Int) ≤ (j : Int) := by omega
    have j1 : (j : Int) < (n : Int) := by omega
    by_cases e : j = k0
    · subst e
      rw [hv] at cj
      have q : (v == v) = true := by simp
      clear hv
      go_wp2_with fail
      go_ret
      exact ⟨rfl, rfl⟩
    · have hlt := HN.out j (by omega)
      generalize f j = y at *
      have q : (v == y) = false := beq_eq_false_iff_ne.2 (by omega)
      have q2 : ¬ v = y := by omega
      go_wp2_with fail
      go_roundg (n + 1 - (j + 1))
      case measure => omega
      case rel => exact ⟨j + 1, by go_num, by omega, by omega, rfl⟩
end Go.Proofs.Ytdbocpcijkngpaa.Tk
