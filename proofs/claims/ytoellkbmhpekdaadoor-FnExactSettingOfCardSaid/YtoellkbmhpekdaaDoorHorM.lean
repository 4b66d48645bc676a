/-
  The mathematics of the horizon: the direction of a star over a site, its bounds, and that a star never goes up again before the hour angle 180000.
-/
import Derived.Test.YtoellkbmhpekdaaDoorSinMath
import Derived.Test.YtoellkbmhpekdaaDoorSRot
namespace Go.Proofs.YtoellkbmhpekdaaDoor
open Go.RowKit
set_option linter.unusedVariables false

theorem nq6_bd (n m : Int) (h0 : 0 ≤ m) (h : -(m * 1000000) ≤ n) (h' : n ≤ m * 1000000) : -m ≤ nearQ n 1000000 ∧ nearQ n 1000000 ≤ m := by
  rcases (show n < 0 ∨ 0 ≤ n by omega) with c | c
  · rw [nearQ_np n 1000000 c (by omega)]; omega
  · rw [nearQ_pp n 1000000 c (by omega)]; omega
theorem nq6_mono {n n' : Int} (h : n ≤ n') : nearQ n 1000000 ≤ nearQ n' 1000000 := by
  rcases (show n < 0 ∨ 0 ≤ n by omega) with c | c
  · rcases (show n' < 0 ∨ 0 ≤ n' by omega) with c' | c'
    · rw [nearQ_np n 1000000 c (by omega), nearQ_np n' 1000000 c' (by omega)]; omega
    · rw [nearQ_np n 1000000 c (by omega), nearQ_pp n' 1000000 c' (by omega)]; omega
  · rw [nearQ_pp n 1000000 c (by omega), nearQ_pp n' 1000000 (by omega) (by omega)]; omega

def dX (lon lat : Int) : Int := nearQ (cosI lat * cosI lon) 1000000
def dY (lon lat : Int) : Int := nearQ (cosI lat * sinI lon) 1000000
theorem dX_bd (lon lat : Int) : -1000000 ≤ dX lon lat ∧ dX lon lat ≤ 1000000 := by
  have p := pr_bd (cosI lat) (cosI lon) 1000000 1000000 (cosI_bd lat).1 (cosI_bd lat).2 (cosI_bd lon).1 (cosI_bd lon).2
  exact nq6_bd _ 1000000 (by omega) (by omega) (by omega)
theorem dY_bd (lon lat : Int) : -1000000 ≤ dY lon lat ∧ dY lon lat ≤ 1000000 := by
  have p := pr_bd (cosI lat) (sinI lon) 1000000 1000000 (cosI_bd lat).1 (cosI_bd lat).2 (sinI_bd lon).1 (sinI_bd lon).2
  exact nq6_bd _ 1000000 (by omega) (by omega) (by omega)
theorem dir_in (lon lat : Int) : inV 1000000 (dX lon lat) (dY lon lat) (sinI lat) := ⟨dX_bd lon lat, dY_bd lon lat, sinI_bd lat⟩
theorem dir_ni (lon lat : Int) : inV 1000000 (sinI lat) (dY lon lat) (dX lon lat) := ⟨sinI_bd lat, dY_bd lon lat, dX_bd lon lat⟩
theorem inV_2 {x y z : Int} (h : inV 1000000 x y z) : inV 2000000 x y z := by
  obtain ⟨⟨a, b⟩, ⟨c, d⟩, e, f⟩ := h
  exact ⟨⟨by omega, by omega⟩, ⟨by omega, by omega⟩, by omega, by omega⟩
theorem okV_in {x y z : Int} (h : inV 2000000 x y z) : okV x y z = true := (okV_bd x y z).2 h
theorem turned_in {x y z s c : Int} (h : inV 1000000 x y z) (hs : -1000000 ≤ s ∧ s ≤ 1000000) (hc : -1000000 ≤ c ∧ c ≤ 1000000) : inV 2000000 (roX 2 x y z s c) (roY 2 x y z s c) (roZ 2 x y z s c) := by
  obtain ⟨⟨a, b⟩, ⟨k, d⟩, e, f⟩ := h
  have p1 := pr_bd x c 1000000 1000000 a b hc.1 hc.2
  have p2 := pr_bd z s 1000000 1000000 e f hs.1 hs.2
  have p3 := pr_bd z c 1000000 1000000 e f hc.1 hc.2
  have p4 := pr_bd x s 1000000 1000000 a b hs.1 hs.2
  have q1 := nq6_bd (x * c + z * s) 2000000 (by omega) (by omega) (by omega)
  have q2 := nq6_bd (z * c - x * s) 2000000 (by omega) (by omega) (by omega)
  have e1 : roX 2 x y z s c = nearQ (x * c + z * s) 1000000 := rfl
  have e2 : roY 2 x y z s c = y := rfl
  have e3 : roZ 2 x y z s c = nearQ (z * c - x * s) 1000000 := rfl
  rw [e1, e2, e3]
  exact ⟨⟨by omega, by omega⟩, ⟨by omega, by omega⟩, by omega, by omega⟩

/-- The direction of a star over a site: to the north, the east and the zenith. -/
def hoP (phi lon d : Int) : Int := roZ 2 (dX lon d) (dY lon d) (sinI d) (sinI phi) (cosI phi)
def hoQ (phi lon d : Int) : Int := roY 2 (dX lon d) (dY lon d) (sinI d) (sinI phi) (cosI phi)
def hoR (phi lon d : Int) : Int := roX 2 (dX lon d) (dY lon d) (sinI d) (sinI phi) (cosI phi)
theorem ho_in (phi lon d : Int) : inV 2000000 (hoR phi lon d) (hoQ phi lon d) (hoP phi lon d) := turned_in (dir_in lon d) (sinI_bd phi) (cosI_bd phi)
theorem ho_ni (phi lon d : Int) : inV 2000000 (hoP phi lon d) (hoQ phi lon d) (hoR phi lon d) := ⟨(ho_in phi lon d).2.2, (ho_in phi lon d).2.1, (ho_in phi lon d).1⟩
/-- And back. -/
def baX (phi az al : Int) : Int := roX 2 (sinI al) (dY az al) (dX az al) (sinI (-phi)) (cosI (-phi))
def baY (phi az al : Int) : Int := roY 2 (sinI al) (dY az al) (dX az al) (sinI (-phi)) (cosI (-phi))
def baZ (phi az al : Int) : Int := roZ 2 (sinI al) (dY az al) (dX az al) (sinI (-phi)) (cosI (-phi))
theorem ba_in (phi az al : Int) : inV 2000000 (baX phi az al) (baY phi az al) (baZ phi az al) := turned_in (dir_ni az al) (sinI_bd _) (cosI_bd _)

theorem cosI_up (d : Int) (h0 : -90000 ≤ d) (h1 : d ≤ 90000) : 0 ≤ cosI d := by
  rcases (show d < 0 ∨ 0 ≤ d by omega) with c | c
  · have e : cosI d = cosI (-d) := by
      have := cosI_even (-d) (by omega) (by omega)
      rw [Int.neg_neg] at this
      exact this
    rw [e, cosI_1 (-d) (by omega) (by omega)]
    exact (qs_bd _ (by omega) (by omega)).1
  · rw [cosI_1 d c h1]
    exact (qs_bd _ (by omega) (by omega)).1
def pHo (phi d : Int) (i : Nat) : Bool := decide (hoR phi (-(i : Int)) d ≤ 0)
theorem hoR_anti (phi d : Int) (p0 : -90000 ≤ phi) (p1 : phi ≤ 90000) (d0 : -90000 ≤ d) (d1 : d ≤ 90000) {a b : Nat} (h : a ≤ b) (hb : b ≤ 180000) : hoR phi (-(b : Int)) d ≤ hoR phi (-(a : Int)) d := by
  have e : ∀ i : Nat, i ≤ 180000 → hoR phi (-(i : Int)) d = nearQ (nearQ (cosI d * cosI (i : Int)) 1000000 * cosI phi + sinI d * sinI phi) 1000000 := by
    intro i hi
    show nearQ (dX (-(i : Int)) d * cosI phi + sinI d * sinI phi) 1000000 = _
    unfold dX
    rw [cosI_even (i : Int) (by omega) (by omega)]
  rw [e b hb, e a (by omega)]
  have k := cosI_anti (a := (a : Int)) (b := (b : Int)) (by omega) (by omega) (by omega)
  have k1 := nq6_mono (Int.mul_le_mul_of_nonneg_left k (cosI_up d d0 d1))
  have k2 := Int.mul_le_mul_of_nonneg_right k1 (cosI_up phi p0 p1)
  exact nq6_mono (by omega)
theorem pHo_mono (phi d : Int) (p0 : -90000 ≤ phi) (p1 : phi ≤ 90000) (d0 : -90000 ≤ d) (d1 : d ≤ 90000) : ∀ a b, a ≤ b → b < 180000 → pHo phi d a = true → pHo phi d b = true := by
  intro a b h hb ha
  have k := hoR_anti phi d p0 p1 d0 d1 h (by omega)
  unfold pHo at ha ⊢
  simp only [decide_eq_true_eq] at ha ⊢
  omega
/-- The hour angle at which a star sets. -/
def setN (phi d : Int) : Nat := cnt 180000 (pHo phi d)
theorem setN_le (phi d : Int) : setN phi d ≤ 180000 := cnt_le _ _
theorem setN_iff (phi d : Int) (p0 : -90000 ≤ phi) (p1 : phi ≤ 90000) (d0 : -90000 ≤ d) (d1 : d ≤ 90000) (m : Nat) (h : m < 180000) : hoR phi (-(m : Int)) d ≤ 0 ↔ setN phi d ≤ m := by
  have := cnt_iff 180000 (pHo phi d) (pHo_mono phi d p0 p1 d0 d1) m h
  unfold setN
  rw [← this]
  unfold pHo
  simp
def risesB (phi d : Int) : Bool := decide (0 < hoR phi 0 d) && decide (hoR phi (-180000) d ≤ 0)
end Go.Proofs.YtoellkbmhpekdaaDoor
