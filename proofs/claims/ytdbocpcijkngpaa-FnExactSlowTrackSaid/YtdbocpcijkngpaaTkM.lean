/-
  The value of a track at a time: mathematics.
-/
import Derived.Test.YtdbocpcijkngpaaTkV
import Derived.Test.YtdbocpcijkngpaaQ2
import Derived.Test.YtdbocpcijkngpaaSrch
namespace Go.Proofs.Ytdbocpcijkngpaa.Tk
open Go.RowKit
open Ky (V In Own Row At gk)
set_option linter.unusedVariables false

/-- What the keys of a valid track are. -/
structure Trk (zs : List V) : Prop where
  n1 : 0 < zs.length
  n24 : zs.length ≤ 24
  i : ∀ j, j < zs.length → (0 ≤ (gk zs j).f0 ∧ (gk zs j).f0 ≤ 7200000) ∧ -1000000 ≤ (gk zs j).f1 ∧ (gk zs j).f1 ≤ 1000000
  s : ∀ j, j + 1 < zs.length → (gk zs j).f0 < (gk zs (j + 1)).f0
theorem trk_of {s : ByteArray} {zs : List V} (h : trackB s zs = true) : Trk zs := by
  obtain ⟨h1, h2⟩ := trackB_at h
  obtain ⟨h3, h4, h5⟩ := Ky.incB_at h2
  exact ⟨h1, h3, fun j hj => Ky.good_bd (h4 j hj), h5⟩
theorem Trk.mono {zs : List V} (h : Trk zs) : ∀ j i, i ≤ j → j < zs.length → (gk zs i).f0 ≤ (gk zs j).f0
  | 0, i, hi, _ => by obtain rfl : i = 0 := by omega
                      exact Int.le_refl _
  | j + 1, i, hi, hj => by
    by_cases c : i = j + 1
    · subst c; exact Int.le_refl _
    · have h1 := h.mono j i (by omega) (by omega)
      have h2 := h.s j hj
      omega
theorem Trk.lt {zs : List V} (h : Trk zs) (i j : Nat) (hij : i < j) (hj : j < zs.length) : (gk zs i).f0 < (gk zs j).f0 := by
  obtain ⟨k, rfl⟩ : ∃ k, j = k + 1 := ⟨j - 1, by omega⟩
  have h1 := h.mono k i (by omega) (by omega)
  have h2 := h.s k hj
  omega
def metB (zs : List V) (x : Int) (i : Nat) : Bool := decide (x ≤ (gk zs i).f0)
/-- The first key with a Time of at least x. -/
def atK (zs : List V) (x : Int) : Nat := cnt zs.length (metB zs x)
theorem atK_le (zs : List V) (x : Int) : atK zs x ≤ zs.length := cnt_le _ _
theorem metB_mono {zs : List V} (h : Trk zs) (x : Int) (a b : Nat) (hab : a ≤ b) (hb : b < zs.length) (ha : metB zs x a = true) : metB zs x b = true := by
  unfold metB at *
  have := h.mono b a hab hb
  rw [decide_eq_true_eq] at *
  omega
theorem atK_iff {zs : List V} (h : Trk zs) (x : Int) (i : Nat) (hi : i < zs.length) : x ≤ (gk zs i).f0 ↔ atK zs x ≤ i := by
  have := cnt_iff zs.length (metB zs x) (metB_mono h x) i hi
  unfold metB at this
  rwa [decide_eq_true_eq] at this
theorem nearQ_exact (m d : Int) (hd : 0 < d) : nearQ (m * d) d = m := by
  by_cases h : m * d < 0
  · rw [nearQ_np _ _ h hd, show d - 2 * (m * d) = d + (2 * d) * (-m) by rw [Int.mul_neg, Int.mul_comm m d, ← Int.mul_assoc]; omega, Int.add_mul_ediv_left _ _ (by omega), Int.ediv_eq_zero_of_lt (by omega) (by omega)]
    omega
  · rw [nearQ_pp _ _ (by omega) hd, show 2 * (m * d) + d = d + (2 * d) * m by rw [Int.mul_comm m d, ← Int.mul_assoc]; omega, Int.add_mul_ediv_left _ _ (by omega), Int.ediv_eq_zero_of_lt (by omega) (by omega)]
    omega
/-- The value at a time. -/
def valI (zs : List V) (x : Int) : Int := lineI (gk zs (atK zs x - 1)).f0 (gk zs (atK zs x - 1)).f1 (gk zs (min (atK zs x) (zs.length - 1))).f0 (gk zs (min (atK zs x) (zs.length - 1))).f1 x
theorem valI_low {zs : List V} (h : Trk zs) (x : Int) (hx : x ≤ (gk zs 0).f0) : valI zs x = (gk zs 0).f1 := by
  have h0 := (atK_iff h x 0 h.n1).1 hx
  have e : atK zs x = 0 := by omega
  unfold valI
  rw [e, show min 0 (zs.length - 1) = 0 by omega]
  unfold lineI
  exact if_pos (Or.inl hx)
theorem valI_high {zs : List V} (h : Trk zs) (x : Int) (hx : atK zs x = zs.length) : valI zs x = (gk zs (zs.length - 1)).f1 := by
  unfold valI
  rw [hx, show min zs.length (zs.length - 1) = zs.length - 1 by omega]
  unfold lineI
  exact if_pos (Or.inr (Int.le_refl _))
theorem valI_mid {zs : List V} (h : Trk zs) (x : Int) (k : Nat) (hk : k + 1 < zs.length) (hx : atK zs x = k + 1) :
    valI zs x = (gk zs k).f1 + nearQ (((gk zs (k + 1)).f1 - (gk zs k).f1) * (x - (gk zs k).f0)) ((gk zs (k + 1)).f0 - (gk zs k).f0) := by
  have h1 := (atK_iff h x (k + 1) hk).2 (by omega)
  have h2 : ¬ x ≤ (gk zs k).f0 := fun c => by have := (atK_iff h x k (by omega)).1 c; omega
  have h3 := h.s k hk
  unfold valI
  rw [hx, show min (k + 1) (zs.length - 1) = k + 1 by omega, show k + 1 - 1 = k by omega]
  unfold lineI
  rw [if_neg (by omega)]
  by_cases c : (gk zs (k + 1)).f0 ≤ x
  · rw [if_pos c]
    obtain rfl : x = (gk zs (k + 1)).f0 := by omega
    rw [nearQ_exact _ _ (by omega)]
    omega
  · rw [if_neg c]
theorem prod_bd (a b : Int) (ha : -2000000 ≤ a) (ha' : a ≤ 2000000) (hb : 0 ≤ b) (hb' : b ≤ 7200000) : -64000000000000 ≤ a * b ∧ a * b ≤ 64000000000000 := by
  have := mul_bd a b 8000000 (by omega) (by omega) hb (by omega)
  omega
theorem quot_bd (a b : Int) (ha : -64000000000000 ≤ a) (ha' : a ≤ 64000000000000) (hb : 1 ≤ b) : -64000000000001 ≤ nearQ a b ∧ nearQ a b ≤ 64000000000001 := nearQ_bd a b 64000000000000 ha ha' hb
/-- What ValueAt answers. -/
def valV (s : ByteArray) (zs : List V) (x : Int) : Int × Int := if trackB s zs = true then (if inR 0 7200000 [x] = true then (valI zs x, 0) else (0, 2)) else (0, 1)
end Go.Proofs.Ytdbocpcijkngpaa.Tk
