/-
  Plain mathematics for the law on sines: odd and even, squares that add up nearly to the unit's square, arcs that lead back.
-/
import Derived.Test.YtoellkbmhpekdaaDoorAngMath
namespace Go.Proofs.YtoellkbmhpekdaaDoor

theorem sinI_odd (a : Int) (h0 : 0 ≤ a) (h1 : a < 360000) : sinI (-a) = -sinI a := by
  by_cases c0 : a = 0
  · subst c0; decide +kernel
  · rw [← sinI_nrm (-a), show nrm (-a) = 360000 - a by unfold nrm; omega]
    by_cases c1 : a ≤ 90000
    · rw [sinI_q1 a h0 c1, sinI_q4 _ (by omega) (by omega)]; congr 2; omega
    · by_cases c2 : a ≤ 180000
      · rw [sinI_q2 a (by omega) c2, sinI_q3 _ (by omega) (by omega)]; congr 2; omega
      · by_cases c3 : a ≤ 270000
        · rw [sinI_q3 a (by omega) c3, sinI_q2 _ (by omega) (by omega), Int.neg_neg]; congr 1; omega
        · rw [sinI_q4 a (by omega) h1, sinI_q1 _ (by omega) (by omega), Int.neg_neg]
theorem sinI_half (a : Int) (h0 : 0 ≤ a) (h1 : a < 360000) : sinI (a + 180000) = -sinI a := by
  by_cases c1 : a ≤ 90000
  · rw [sinI_q1 a h0 c1, sinI_q3 _ (by omega) (by omega)]; congr 2; omega
  · by_cases c2 : a < 180000
    · rw [sinI_q2 a (by omega) (by omega), sinI_q4 _ (by omega) (by omega)]; congr 2; omega
    · rw [← sinI_nrm (a + 180000), show nrm (a + 180000) = a - 180000 by unfold nrm; omega]
      by_cases c3 : a ≤ 270000
      · rw [sinI_q3 a (by omega) c3, sinI_q1 _ (by omega) (by omega), Int.neg_neg]
      · rw [sinI_q4 a (by omega) h1, sinI_q2 _ (by omega) (by omega), Int.neg_neg]; congr 1; omega
theorem sinI_mirror (a : Int) (h0 : 0 ≤ a) (h1 : a < 360000) : sinI (180000 - a) = sinI a := by
  by_cases c : a ≤ 180000
  · by_cases c1 : a ≤ 90000
    · rw [sinI_q1 a h0 c1, sinI_q2 _ (by omega) (by omega)]; congr 1; omega
    · rw [sinI_q2 a (by omega) c, sinI_q1 _ (by omega) (by omega)]
  · rw [← sinI_nrm (180000 - a), show nrm (180000 - a) = 540000 - a by unfold nrm; omega]
    by_cases c3 : a ≤ 270000
    · rw [sinI_q3 a (by omega) c3, sinI_q4 _ (by omega) (by omega)]; congr 2; omega
    · rw [sinI_q4 a (by omega) h1, sinI_q3 _ (by omega) (by omega)]; congr 2; omega
theorem cosI_q34 (a : Int) (h0 : 180000 ≤ a) (h1 : a < 360000) : cosI a = if a < 270000 then -qs (270000 - a) else qs (a - 270000) := by
  unfold cosI
  rw [nrm_of a (by omega) h1]
  split
  · rw [sinI_q4 _ (by omega) (by omega)]; congr 2; omega
  · rw [← sinI_nrm (a + 90000), show nrm (a + 90000) = a - 270000 by unfold nrm; omega, sinI_q1 _ (by omega) (by omega)]
theorem cosI_even (a : Int) (h0 : 0 ≤ a) (h1 : a < 360000) : cosI (-a) = cosI a := by
  by_cases c0 : a = 0
  · subst c0; rfl
  · have e : cosI (-a) = cosI (360000 - a) := by unfold cosI; congr 2; unfold nrm; omega
    rw [e]
    by_cases c1 : a ≤ 90000
    · rw [cosI_1 a h0 c1, cosI_q34 _ (by omega) (by omega), if_neg (by omega)]; congr 1; omega
    · by_cases c2 : a ≤ 180000
      · rw [cosI_2 a (by omega) c2]
        by_cases c : a = 180000
        · subst c; rw [cosI_2 _ (by omega) (by omega)]; rfl
        · rw [cosI_q34 _ (by omega) (by omega), if_pos (by omega)]; congr 2; omega
      · rw [cosI_q34 a (by omega) h1]
        split
        · rw [cosI_2 _ (by omega) (by omega)]; congr 2; omega
        · rw [cosI_1 _ (by omega) (by omega)]; congr 1; omega

/-- Each step of the first 45 degrees is greater. -/
theorem tab_wide : ∀ k, k < 45 → tab k + 12000 ≤ tab (k + 1) := by decide +kernel
theorem qs_up (n : Int) (h0 : 0 ≤ n) (h1 : n < 45000) : qs n < qs (n + 1) := by
  have hw := tab_wide (n / 1000).toNat (by omega)
  by_cases c : n % 1000 = 999
  · have e : n + 1 = 1000 * (((n / 1000).toNat + 1 : Nat) : Int) := by omega
    rw [e, qs_whole _ (by omega)]
    unfold qs
    rw [c]
    omega
  · have e1 : (n + 1) / 1000 = n / 1000 := by omega
    have e2 : (n + 1) % 1000 = n % 1000 + 1 := by omega
    unfold qs
    rw [e1, e2, Int.mul_add]
    generalize (tab ((n / 1000).toNat + 1) - tab (n / 1000).toNat) * (n % 1000) = x
    omega
theorem qs_lt {n m : Int} (h0 : 0 ≤ n) (h : n < m) (h1 : m ≤ 45000) : qs n < qs m := by
  have a := qs_up n h0 (by omega)
  have b := qs_mono (n := n + 1) (m := m) (by omega) (by omega) (by omega)
  omega
theorem qs_pos (m : Int) (h : 0 < m) (h1 : m ≤ 90000) : 0 < qs m := by
  by_cases c : m ≤ 45000
  · have := qs_lt (n := 0) (m := m) (by omega) h c
    rw [qs_0] at this; exact this
  · have := qs_lt (n := 0) (m := 45000) (by omega) (by omega) (by omega)
    have := qs_mono (n := 45000) (m := m) (by omega) (by omega) h1
    rw [qs_0] at *; omega

theorem arc_self (m : Nat) (h : m ≤ 45000) : arcN (qs m) (qs (90000 - m)) = m := by
  have b1 := qs_bd m (by omega) (by omega)
  have b2 := qs_pos (90000 - m) (by omega) (by omega)
  have ai := arc_iff (qs m) (qs (90000 - m)) (by omega) (by omega)
  have al := arc_le (qs m) (qs (90000 - m))
  have up : arcN (qs m) (qs (90000 - m)) ≤ m := by
    by_cases c : m < 45000
    · refine (ai m c).1 ?_
      rw [cosI_1 _ (by omega) (by omega), sinI_q1 _ (by omega) (by omega), Int.mul_comm]
      exact Int.le_refl _
    · omega
  by_cases c : arcN (qs m) (qs (90000 - m)) < m
  · exfalso
    have h3 := (ai _ (by omega)).2 (Nat.le_refl _)
    generalize arcN (qs m) (qs (90000 - m)) = j at *
    rw [cosI_1 _ (by omega) (by omega), sinI_q1 _ (by omega) (by omega)] at h3
    have l1 := qs_lt (n := j) (m := m) (by omega) (by omega) (by omega)
    have l2 := qs_mono (n := 90000 - m) (m := 90000 - j) (by omega) (by omega) (by omega)
    have e1 : qs (j : Int) * qs (90000 - m) < qs (m : Int) * qs (90000 - m) := Int.mul_lt_mul_of_pos_right l1 b2
    have e2 : qs (m : Int) * qs (90000 - m) ≤ qs (m : Int) * qs (90000 - j) := Int.mul_le_mul_of_nonneg_left l2 b1.1
    rw [Int.mul_comm (qs (90000 - (j : Int)))] at h3
    omega
  · omega
theorem base_self (y x m : Int) (h0 : 0 ≤ m) (h1 : m ≤ 90000) (hy : ab y = qs m) (hx : ab x = qs (90000 - m)) : base y x = m := by
  unfold base
  rw [hy, hx]
  by_cases c : m ≤ 45000
  · have hm := qs_mono (n := m) (m := 90000 - m) h0 (by omega) (by omega)
    rw [if_neg (by omega)]
    have := arc_self m.toNat (by omega)
    rw [show ((m.toNat : Nat) : Int) = m by omega] at this
    omega
  · have l1 := qs_lt (n := 90000 - m) (m := 45000) (by omega) (by omega) (by omega)
    have l2 := qs_mono (n := 45000) (m := m) (by omega) (by omega) (by omega)
    rw [if_pos (by omega)]
    have := arc_self (90000 - m).toNat (by omega)
    rw [show (((90000 - m).toNat : Nat) : Int) = 90000 - m by omega, show 90000 - (90000 - m) = m by omega] at this
    omega
theorem ab_pos (x : Int) (h : 0 ≤ x) : ab x = x := by unfold ab; rw [if_neg (by omega)]
theorem ab_neg (x : Int) (h : x ≤ 0) : ab x = -x := by unfold ab; split <;> omega
theorem dir_self (a : Int) (h0 : 0 ≤ a) (h1 : a < 360000) : dirI (sinI a) (cosI a) = a := by
  by_cases c1 : a ≤ 90000
  · have b1 := qs_bd a h0 c1
    have b2 := qs_bd (90000 - a) (by omega) (by omega)
    rw [sinI_q1 a h0 c1, cosI_1 a h0 c1]
    have := base_self (qs a) (qs (90000 - a)) a h0 c1 (ab_pos _ b1.1) (ab_pos _ b2.1)
    unfold dirI
    rw [if_pos (by omega), this]
  · by_cases c2 : a ≤ 180000
    · have b1 := qs_bd (180000 - a) (by omega) (by omega)
      have b2 := qs_pos (a - 90000) (by omega) (by omega)
      rw [sinI_q2 a (by omega) c2, cosI_2 a (by omega) c2]
      have := base_self (qs (180000 - a)) (-qs (a - 90000)) (180000 - a) (by omega) (by omega) (ab_pos _ b1.1) (by rw [ab_neg _ (by omega), Int.neg_neg]; congr 1; omega)
      unfold dirI
      rw [if_neg (by omega), if_pos (by omega), this]; omega
    · have hc := cosI_q34 a (by omega) h1
      by_cases c3 : a < 270000
      · have b1 := qs_pos (a - 180000) (by omega) (by omega)
        have b2 := qs_pos (270000 - a) (by omega) (by omega)
        rw [if_pos c3] at hc
        rw [sinI_q3 a (by omega) (by omega), hc]
        have := base_self (-qs (a - 180000)) (-qs (270000 - a)) (a - 180000) (by omega) (by omega) (by rw [ab_neg _ (by omega), Int.neg_neg]) (by rw [ab_neg _ (by omega), Int.neg_neg]; congr 1; omega)
        unfold dirI
        rw [if_neg (by omega), if_neg (by omega), if_pos (by omega), this]; omega
      · have b1 := qs_pos (360000 - a) (by omega) (by omega)
        have b2 := qs_bd (a - 270000) (by omega) (by omega)
        rw [if_neg c3] at hc
        rw [sinI_q4 a (by omega) h1, hc]
        have := base_self (-qs (360000 - a)) (qs (a - 270000)) (360000 - a) (by omega) (by omega) (by rw [ab_neg _ (by omega), Int.neg_neg]) (by rw [ab_pos _ b2.1]; congr 1; omega)
        unfold dirI
        rw [if_neg (by omega), if_neg (by omega), if_neg (by omega), this]
        unfold nrm; omega

/-- What the table gives of the squares, degree by degree. -/
def sqA (k : Nat) : Int := tab k * tab k + tab (90 - k) * tab (90 - k) - 1000000000000
def sqG (k : Nat) : Int := (tab (k + 1) - tab k) * (tab (k + 1) - tab k) + (tab (90 - k) - tab (89 - k)) * (tab (90 - k) - tab (89 - k))
theorem sq_facts : ∀ k, k < 90 → (-2000000 ≤ sqA k ∧ sqA k ≤ 2000000) ∧ (-2000000 ≤ sqA (k + 1) ∧ sqA (k + 1) ≤ 2000000) ∧ (0 ≤ sqG k ∧ sqG k ≤ 320000000) := by decide +kernel
theorem near_sq (S s m : Int) (h0 : 0 ≤ S) (h1 : S ≤ m) (d0 : -500 ≤ 1000 * s - S) (d1 : 1000 * s - S ≤ 500) (hm : 1000 ≤ m) :
    S * S - 2001 * m ≤ 1000000 * (s * s) ∧ 1000000 * (s * s) ≤ S * S + 2001 * m := by
  obtain ⟨d, hd⟩ : ∃ d, d = 1000 * s - S := ⟨_, rfl⟩
  have e : 1000000 * (s * s) = S * S + (2 * (S * d) + d * d) := by
    have : 1000 * s = S + d := by omega
    have : (1000 * s) * (1000 * s) = (S + d) * (S + d) := by rw [this]
    grind
  have u1 : S * d ≤ S * 500 := Int.mul_le_mul_of_nonneg_left (by omega) h0
  have u2 : S * (-500) ≤ S * d := Int.mul_le_mul_of_nonneg_left (by omega) h0
  have u3 : 0 ≤ d * d := by
    by_cases c : 0 ≤ d
    · exact Int.mul_nonneg c c
    · have := Int.mul_nonneg (show 0 ≤ -d by omega) (show 0 ≤ -d by omega)
      rw [Int.neg_mul_neg] at this; exact this
  have u4 : d * d ≤ 500 * 500 := by
    by_cases c : 0 ≤ d
    · exact Int.mul_le_mul (by omega) (by omega) c (by omega)
    · have h5 : (-d) * (-d) ≤ 500 * 500 := Int.mul_le_mul (by omega) (by omega) (by omega) (by omega)
      rw [Int.neg_mul_neg] at h5; exact h5
  omega
theorem sq_line (k : Nat) (hk : k < 90) (r s c : Int) (h0 : 0 ≤ r) (h1 : r ≤ 1000)
    (s0 : -500 ≤ 1000 * s - (1000 * tab k + (tab (k + 1) - tab k) * r)) (s1 : 1000 * s - (1000 * tab k + (tab (k + 1) - tab k) * r) ≤ 500)
    (c0 : -500 ≤ 1000 * c - (1000 * tab (90 - k) - (tab (90 - k) - tab (89 - k)) * r)) (c1 : 1000 * c - (1000 * tab (90 - k) - (tab (90 - k) - tab (89 - k)) * r) ≤ 500) :
    -200000000 ≤ s * s + c * c - 1000000000000 ∧ s * s + c * c - 1000000000000 ≤ 200000000 := by
  obtain ⟨⟨a0, a1⟩, ⟨b0, b1⟩, g0, g1⟩ := sq_facts k hk
  have t0 := tab_bd k (by omega)
  have t1 := tab_bd (k + 1) (by omega)
  have t2 := tab_bd (90 - k) (by omega)
  have t3 := tab_bd (89 - k) (by omega)
  have st1 := tab_step k hk
  have st2 := tab_step (89 - k) (by omega)
  rw [show 89 - k + 1 = 90 - k by omega] at st2
  unfold sqA sqG at *
  rw [show 90 - (k + 1) = 89 - k by omega] at b0 b1
  generalize tab k = p at *
  generalize tab (k + 1) = p' at *
  generalize tab (90 - k) = q at *
  generalize tab (89 - k) = q' at *
  have r1 : (p' - p) * r ≤ (p' - p) * 1000 := Int.mul_le_mul_of_nonneg_left h1 (by omega)
  have r2 : 0 ≤ (p' - p) * r := Int.mul_nonneg (by omega) h0
  have r3 : (q - q') * r ≤ (q - q') * 1000 := Int.mul_le_mul_of_nonneg_left h1 (by omega)
  have r4 : 0 ≤ (q - q') * r := Int.mul_nonneg (by omega) h0
  obtain ⟨n1, n2⟩ := near_sq (1000 * p + (p' - p) * r) s 1000000000 (by omega) (by omega) s0 s1 (by omega)
  obtain ⟨n3, n4⟩ := near_sq (1000 * q - (q - q') * r) c 1000000000 (by omega) (by omega) c0 c1 (by omega)
  have z0 : 0 ≤ r * (1000 - r) := Int.mul_nonneg h0 (by omega)
  have z1 : r * (1000 - r) ≤ 250000 := by
    have : 0 ≤ (r - 500) * (r - 500) := by
      by_cases c : 500 ≤ r
      · exact Int.mul_nonneg (by omega) (by omega)
      · have := Int.mul_nonneg (show 0 ≤ 500 - r by omega) (show 0 ≤ 500 - r by omega)
        grind
    grind
  have key : (1000 * p + (p' - p) * r) * (1000 * p + (p' - p) * r) + (1000 * q - (q - q') * r) * (1000 * q - (q - q') * r)
      = 1000 * ((p * p + q * q) * (1000 - r)) + 1000 * ((p' * p' + q' * q') * r) - ((p' - p) * (p' - p) + (q - q') * (q - q')) * (r * (1000 - r)) := by grind
  have w1 : ((p' - p) * (p' - p) + (q - q') * (q - q')) * (r * (1000 - r)) ≤ 320000000 * 250000 := Int.mul_le_mul g1 z1 z0 (by omega)
  have w0 : 0 ≤ ((p' - p) * (p' - p) + (q - q') * (q - q')) * (r * (1000 - r)) := Int.mul_nonneg g0 z0
  have v1 : (p * p + q * q) * (1000 - r) ≤ 1000002000000 * (1000 - r) := Int.mul_le_mul_of_nonneg_right (by omega) (by omega)
  have v2 : 999998000000 * (1000 - r) ≤ (p * p + q * q) * (1000 - r) := Int.mul_le_mul_of_nonneg_right (by omega) (by omega)
  have v3 : (p' * p' + q' * q') * r ≤ 1000002000000 * r := Int.mul_le_mul_of_nonneg_right (by omega) h0
  have v4 : 999998000000 * r ≤ (p' * p' + q' * q') * r := Int.mul_le_mul_of_nonneg_right (by omega) h0
  omega
theorem qs_near (n : Int) : -500 ≤ 1000 * qs n - (1000 * tab (n / 1000).toNat + (tab ((n / 1000).toNat + 1) - tab (n / 1000).toNat) * (n % 1000)) ∧ 1000 * qs n - (1000 * tab (n / 1000).toNat + (tab ((n / 1000).toNat + 1) - tab (n / 1000).toNat) * (n % 1000)) ≤ 500 := by
  unfold qs
  generalize (tab ((n / 1000).toNat + 1) - tab (n / 1000).toNat) * (n % 1000) = x
  omega
theorem sq_q (n : Int) (h0 : 0 ≤ n) (h1 : n ≤ 90000) : -200000000 ≤ qs n * qs n + qs (90000 - n) * qs (90000 - n) - 1000000000000 ∧ qs n * qs n + qs (90000 - n) * qs (90000 - n) - 1000000000000 ≤ 200000000 := by
  by_cases c : n = 90000
  · subst c; decide +kernel
  · obtain ⟨a0, a1⟩ := qs_near n
    obtain ⟨b0, b1⟩ := qs_near (90000 - n)
    refine sq_line (n / 1000).toNat (by omega) (n % 1000) _ _ (by omega) (by omega) a0 a1 ?_ ?_
    all_goals
      by_cases d : n % 1000 = 0
      · have e : (90000 - n) = 1000 * ((90 - (n / 1000).toNat : Nat) : Int) := by omega
        rw [e, qs_whole _ (by omega), d, Int.mul_zero]; omega
      · rw [show ((90000 - n) / 1000).toNat = 89 - (n / 1000).toNat by omega, show 89 - (n / 1000).toNat + 1 = 90 - (n / 1000).toNat by omega, show (90000 - n) % 1000 = 1000 - n % 1000 by omega, Int.mul_sub] at b0 b1
        generalize (tab (90 - (n / 1000).toNat) - tab (89 - (n / 1000).toNat)) * (n % 1000) = x at *
        omega
theorem sq_all (a : Int) (h0 : 0 ≤ a) (h1 : a < 360000) : -200000000 ≤ sinI a * sinI a + cosI a * cosI a - 1000000000000 ∧ sinI a * sinI a + cosI a * cosI a - 1000000000000 ≤ 200000000 := by
  by_cases c1 : a ≤ 90000
  · rw [sinI_q1 a h0 c1, cosI_1 a h0 c1]; exact sq_q a h0 c1
  · by_cases c2 : a ≤ 180000
    · rw [sinI_q2 a (by omega) c2, cosI_2 a (by omega) c2, Int.neg_mul_neg]
      have := sq_q (180000 - a) (by omega) (by omega)
      rw [show 90000 - (180000 - a) = a - 90000 by omega] at this; exact this
    · have hc := cosI_q34 a (by omega) h1
      by_cases c3 : a < 270000
      · rw [if_pos c3] at hc
        rw [sinI_q3 a (by omega) (by omega), hc, Int.neg_mul_neg, Int.neg_mul_neg]
        have := sq_q (a - 180000) (by omega) (by omega)
        rw [show 90000 - (a - 180000) = 270000 - a by omega] at this; exact this
      · rw [if_neg c3] at hc
        rw [sinI_q4 a (by omega) h1, hc, Int.neg_mul_neg]
        have := sq_q (360000 - a) (by omega) (by omega)
        rw [show 90000 - (360000 - a) = a - 270000 by omega] at this; exact this
theorem asin_at (v : Int) (h1 : v ≤ 1000000) : v ≤ sinI (-90000 + (asinN v : Int)) := by
  have := asin_le v
  by_cases c : asinN v < 180000
  · exact (asin_iff v _ c).2 (Nat.le_refl _)
  · rw [show (asinN v : Int) = 180000 by omega, show (-90000 + 180000 : Int) = 90000 by omega, sinI_q1 _ (by omega) (by omega), qs_90]; exact h1
theorem asin_before (v : Int) (h : 1 ≤ asinN v) : sinI (-90000 + (asinN v : Int) - 1) < v := by
  have := asin_le v
  have := mt (asin_iff v (asinN v - 1) (by omega)).1 (by omega)
  rw [show -90000 + (asinN v : Int) - 1 = -90000 + ((asinN v - 1 : Nat) : Int) by omega]
  omega
theorem acos_at (v : Int) (h1 : -1000000 ≤ v) : cosI (acosN v : Int) ≤ v := by
  have := acos_le v
  by_cases c : acosN v < 180000
  · exact (acos_iff v _ c).2 (Nat.le_refl _)
  · rw [show (acosN v : Int) = 180000 by omega, cosI_2 _ (by omega) (by omega), show (180000 - 90000 : Int) = 90000 by omega, qs_90]; omega
theorem acos_before (v : Int) (h : 1 ≤ acosN v) : v < cosI ((acosN v : Int) - 1) := by
  have := acos_le v
  have := mt (acos_iff v (acosN v - 1) (by omega)).1 (by omega)
  rw [show (acosN v : Int) - 1 = ((acosN v - 1 : Nat) : Int) by omega]
  omega
end Go.Proofs.YtoellkbmhpekdaaDoor
