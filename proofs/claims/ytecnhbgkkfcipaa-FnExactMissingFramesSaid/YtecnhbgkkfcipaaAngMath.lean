/-
  Plain mathematics of angles: the normal angle, sines by a table and lines between its numbers, searches by halves.
-/
import Derived.Lib.Hide
namespace Go.Proofs.Ytecnhbgkkfcipaa

def sinT : List Int := [0, 17452, 34899, 52336, 69756, 87156, 104528, 121869, 139173, 156434,
  173648, 190809, 207912, 224951, 241922, 258819, 275637, 292372, 309017, 325568,
  342020, 358368, 374607, 390731, 406737, 422618, 438371, 453990, 469472, 484810,
  500000, 515038, 529919, 544639, 559193, 573576, 587785, 601815, 615661, 629320,
  642788, 656059, 669131, 681998, 694658, 707107, 719340, 731354, 743145, 754710,
  766044, 777146, 788011, 798636, 809017, 819152, 829038, 838671, 848048, 857167,
  866025, 874620, 882948, 891007, 898794, 906308, 913545, 920505, 927184, 933580,
  939693, 945519, 951057, 956305, 961262, 965926, 970296, 974370, 978148, 981627,
  984808, 987688, 990268, 992546, 994522, 996195, 997564, 998630, 999391, 999848,
  1000000]
def tab (k : Nat) : Int := sinT.getD k 0
theorem tab_step : ∀ k, k < 90 → tab k ≤ tab (k + 1) := by decide +kernel
theorem tab_mono {i j : Nat} (h : i ≤ j) (hj : j ≤ 90) : tab i ≤ tab j := by
  induction j with
  | zero => obtain rfl : i = 0 := by omega
            exact Int.le_refl _
  | succ j ih =>
    by_cases e : i = j + 1
    · subst e; exact Int.le_refl _
    · exact Int.le_trans (ih (by omega) (by omega)) (tab_step j (by omega))
theorem tab_0 : tab 0 = 0 := rfl
theorem tab_90 : tab 90 = 1000000 := rfl
theorem tab_91 : tab 91 = 0 := rfl
theorem tab_bd (k : Nat) (h : k ≤ 90) : 0 ≤ tab k ∧ tab k ≤ 1000000 := by
  have h1 := tab_mono (Nat.zero_le k) h
  have h2 := tab_mono h (Nat.le_refl 90)
  rw [tab_0] at h1
  rw [tab_90] at h2
  exact ⟨h1, h2⟩

/-- The normal angle. -/
def nrm (a : Int) : Int := a % 360000
theorem nrm_bd (a : Int) : 0 ≤ nrm a ∧ nrm a < 360000 := by unfold nrm; omega
theorem nrm_of (a : Int) (h : 0 ≤ a) (h' : a < 360000) : nrm a = a := by unfold nrm; omega
theorem nrm_nrm (a : Int) : nrm (nrm a) = nrm a := by unfold nrm; omega
/-- Go's rest of an int64, and the normal angle. -/
theorem tmod_pos (a : Int) (h : 0 ≤ a) : a.tmod 360000 = nrm a := by unfold nrm; rw [Int.tmod_eq_emod_of_nonneg h]
theorem tmod_neg (a : Int) (h : a < 0) : a.tmod 360000 = -((-a) % 360000) := by
  rw [show a = -(-a) by omega, Int.neg_tmod, Int.tmod_eq_emod_of_nonneg (by omega), Int.neg_neg]
theorem nrm_neg (a : Int) (_h : a < 0) : nrm a = if (-a) % 360000 = 0 then 0 else 360000 - (-a) % 360000 := by
  unfold nrm; split <;> omega

/-- The way forwards from a to b; the angle between; the signed one. -/
def fwd (a b : Int) : Int := nrm (nrm b - nrm a)
def mn2 (a b : Int) : Int := if b < a then b else a
def btw (a b : Int) : Int := mn2 (fwd a b) (fwd b a)
def sgn (a b : Int) : Int := if 180000 < fwd a b then fwd a b - 360000 else fwd a b
theorem fwd_bd (a b : Int) : 0 ≤ fwd a b ∧ fwd a b < 360000 := nrm_bd _
theorem fwd_back (a b : Int) : fwd b a = if fwd a b = 0 then 0 else 360000 - fwd a b := by
  have h1 := nrm_bd a
  have h2 := nrm_bd b
  unfold fwd
  generalize nrm a = x at *
  generalize nrm b = y at *
  unfold nrm
  split <;> omega
theorem btw_eq (a b : Int) : btw a b = mn2 (fwd a b) (360000 - fwd a b) := by
  have h := fwd_bd a b
  unfold btw
  rw [fwd_back a b]
  generalize fwd a b = d at *
  unfold mn2
  by_cases c : d = 0
  · rw [if_pos c]; subst c; rfl
  · rw [if_neg c]
theorem btw_bd (a b : Int) : 0 ≤ btw a b ∧ btw a b ≤ 180000 := by
  have h := fwd_bd a b
  rw [btw_eq]
  unfold mn2
  split <;> omega
theorem sgn_bd (a b : Int) : -180000 < sgn a b ∧ sgn a b ≤ 180000 := by
  have h := fwd_bd a b
  unfold sgn
  split <;> omega

/-- The sine of an angle of the first quarter. -/
def qs (n : Int) : Int := tab (n / 1000).toNat + (2 * ((tab ((n / 1000).toNat + 1) - tab (n / 1000).toNat) * (n % 1000)) + 1000) / 2000
theorem line_bd (D r : Int) (hD : 0 ≤ D) (h0 : 0 ≤ r) (h1 : r ≤ 1000) : 0 ≤ (2 * (D * r) + 1000) / 2000 ∧ (2 * (D * r) + 1000) / 2000 ≤ D := by
  have h2 : 0 ≤ D * r := Int.mul_nonneg hD h0
  have h3 : D * r ≤ D * 1000 := Int.mul_le_mul_of_nonneg_left h1 hD
  omega
theorem qs_in (n : Int) (h0 : 0 ≤ n) (h1 : n < 90000) : tab (n / 1000).toNat ≤ qs n ∧ qs n ≤ tab ((n / 1000).toNat + 1) := by
  have hs := tab_step (n / 1000).toNat (by omega)
  have hl := line_bd (tab ((n / 1000).toNat + 1) - tab (n / 1000).toNat) (n % 1000) (by omega) (by omega) (by omega)
  unfold qs
  omega
theorem qs_90 : qs 90000 = 1000000 := by decide +kernel
theorem qs_0 : qs 0 = 0 := by decide +kernel
theorem qs_bd (n : Int) (h0 : 0 ≤ n) (h1 : n ≤ 90000) : 0 ≤ qs n ∧ qs n ≤ 1000000 := by
  by_cases c : n = 90000
  · subst c; rw [qs_90]; omega
  · have h := qs_in n h0 (by omega)
    have b1 := tab_bd (n / 1000).toNat (by omega)
    have b2 := tab_bd ((n / 1000).toNat + 1) (by omega)
    omega
theorem qs_mono {n m : Int} (h0 : 0 ≤ n) (h : n ≤ m) (h1 : m ≤ 90000) : qs n ≤ qs m := by
  by_cases c : m = 90000
  · subst c; rw [qs_90]; exact (qs_bd n h0 h).2
  · by_cases e : n / 1000 = m / 1000
    · have hs := tab_step (m / 1000).toNat (by omega)
      unfold qs
      rw [e]
      have h2 : (tab ((m / 1000).toNat + 1) - tab (m / 1000).toNat) * (n % 1000) ≤ (tab ((m / 1000).toNat + 1) - tab (m / 1000).toNat) * (m % 1000) :=
        Int.mul_le_mul_of_nonneg_left (by omega) (by omega)
      omega
    · have a := (qs_in n h0 (by omega)).2
      have b := (qs_in m (by omega) (by omega)).1
      have d := tab_mono (i := (n / 1000).toNat + 1) (j := (m / 1000).toNat) (by omega) (by omega)
      omega
theorem qs_whole (k : Nat) (_h : k ≤ 90) : qs (1000 * (k : Int)) = tab k := by
  unfold qs
  rw [show (1000 * (k : Int)) / 1000 = k by omega, show (1000 * (k : Int)) % 1000 = 0 by omega, Int.toNat_natCast, Int.mul_zero]
  omega

/-- Sines and cosines of all angles. -/
def sinI (a : Int) : Int :=
  if nrm a ≤ 90000 then qs (nrm a) else if nrm a ≤ 180000 then qs (180000 - nrm a) else if nrm a ≤ 270000 then -qs (nrm a - 180000) else -qs (360000 - nrm a)
def cosI (a : Int) : Int := sinI (nrm a + 90000)
theorem sinI_bd (a : Int) : -1000000 ≤ sinI a ∧ sinI a ≤ 1000000 := by
  have h := nrm_bd a
  unfold sinI
  split
  · have := qs_bd (nrm a) (by omega) (by omega); omega
  · split
    · have := qs_bd (180000 - nrm a) (by omega) (by omega); omega
    · split
      · have := qs_bd (nrm a - 180000) (by omega) (by omega); omega
      · have := qs_bd (360000 - nrm a) (by omega) (by omega); omega
theorem cosI_bd (a : Int) : -1000000 ≤ cosI a ∧ cosI a ≤ 1000000 := sinI_bd _
theorem sinI_nrm (a : Int) : sinI (nrm a) = sinI a := by unfold sinI; rw [nrm_nrm]
theorem sinI_q1 (a : Int) (h0 : 0 ≤ a) (h1 : a ≤ 90000) : sinI a = qs a := by
  unfold sinI; rw [nrm_of a h0 (by omega), if_pos h1]
theorem sinI_q2 (a : Int) (h0 : 90000 ≤ a) (h1 : a ≤ 180000) : sinI a = qs (180000 - a) := by
  unfold sinI
  rw [nrm_of a (by omega) (by omega)]
  by_cases c : a ≤ 90000
  · obtain rfl : a = 90000 := by omega
    rw [if_pos (by omega)]; rfl
  · rw [if_neg c, if_pos h1]
theorem sinI_q3 (a : Int) (h0 : 180000 ≤ a) (h1 : a ≤ 270000) : sinI a = -qs (a - 180000) := by
  unfold sinI
  rw [nrm_of a (by omega) (by omega), if_neg (by omega)]
  by_cases c : a ≤ 180000
  · obtain rfl : a = 180000 := by omega
    rw [if_pos (by omega)]; decide +kernel
  · rw [if_neg c, if_pos h1]
theorem sinI_q4 (a : Int) (h0 : 270000 ≤ a) (h1 : a < 360000) : sinI a = -qs (360000 - a) := by
  unfold sinI
  rw [nrm_of a (by omega) (by omega), if_neg (by omega), if_neg (by omega)]
  by_cases c : a ≤ 270000
  · obtain rfl : a = 270000 := by omega
    rw [if_pos (by omega)]; rfl
  · rw [if_neg c]
theorem sinI_m (a : Int) (h0 : -90000 ≤ a) (h1 : a ≤ 0) : sinI a = -qs (-a) := by
  by_cases c : a = 0
  · subst c; decide +kernel
  · rw [← sinI_nrm, show nrm a = a + 360000 by unfold nrm; omega, sinI_q4 _ (by omega) (by omega)]
    congr 2; omega
theorem sinI_mono {a b : Int} (h0 : -90000 ≤ a) (h : a ≤ b) (h1 : b ≤ 90000) : sinI a ≤ sinI b := by
  by_cases c : b ≤ 0
  · rw [sinI_m a h0 (by omega), sinI_m b (by omega) c]
    have := qs_mono (n := -b) (m := -a) (by omega) (by omega) (by omega)
    omega
  · rw [sinI_q1 b (by omega) h1]
    by_cases d : a ≤ 0
    · rw [sinI_m a h0 d]
      have := qs_bd (-a) (by omega) (by omega)
      have := qs_bd b (by omega) (by omega)
      omega
    · rw [sinI_q1 a (by omega) (by omega)]
      exact qs_mono (by omega) h h1
theorem cosI_1 (a : Int) (h0 : 0 ≤ a) (h1 : a ≤ 90000) : cosI a = qs (90000 - a) := by
  unfold cosI
  rw [nrm_of a h0 (by omega), sinI_q2 _ (by omega) (by omega)]
  congr 1; omega
theorem cosI_2 (a : Int) (h0 : 90000 ≤ a) (h1 : a ≤ 180000) : cosI a = -qs (a - 90000) := by
  unfold cosI
  rw [nrm_of a (by omega) (by omega), sinI_q3 _ (by omega) (by omega)]
  congr 2; omega
theorem cosI_anti {a b : Int} (h0 : 0 ≤ a) (h : a ≤ b) (h1 : b ≤ 180000) : cosI b ≤ cosI a := by
  by_cases c : b ≤ 90000
  · rw [cosI_1 b (by omega) c, cosI_1 a h0 (by omega)]
    exact qs_mono (by omega) (by omega) (by omega)
  · rw [cosI_2 b (by omega) h1]
    by_cases d : a ≤ 90000
    · rw [cosI_1 a h0 d]
      have := qs_bd (b - 90000) (by omega) (by omega)
      have := qs_bd (90000 - a) (by omega) (by omega)
      omega
    · rw [cosI_2 a (by omega) (by omega)]
      have := qs_mono (n := a - 90000) (m := b - 90000) (by omega) (by omega) (by omega)
      omega

/-- How many places below n are still false. -/
def cnt (n : Nat) (p : Nat → Bool) : Nat := (List.range n).countP (fun i => !p i)
theorem cnt_le (n : Nat) (p : Nat → Bool) : cnt n p ≤ n := by
  unfold cnt
  have := List.countP_le_length (p := fun i => !p i) (l := List.range n)
  simpa using this
theorem cnt_succ (n : Nat) (p : Nat → Bool) : cnt (n + 1) p = cnt n p + if p n = true then 0 else 1 := by
  unfold cnt
  rw [List.range_succ, List.countP_append]
  congr 1
  cases h : p n <;> simp [h]
theorem cnt_all (n : Nat) (p : Nat → Bool) (h : ∀ i, i < n → p i = false) : cnt n p = n := by
  induction n with
  | zero => rfl
  | succ n ih => rw [cnt_succ, ih (fun i hi => h i (by omega)), h n (by omega)]; simp
theorem cnt_iff (n : Nat) (p : Nat → Bool) (hm : ∀ a b, a ≤ b → b < n → p a = true → p b = true) (m : Nat) (h : m < n) : p m = true ↔ cnt n p ≤ m := by
  induction n with
  | zero => omega
  | succ n ih =>
    rw [cnt_succ]
    cases hp : p n with
    | false =>
      have hall : ∀ i, i < n → p i = false := by
        intro i hi
        cases hi2 : p i with
        | false => rfl
        | true => have := hm i n (by omega) (by omega) hi2; rw [hp] at this; exact absurd this (by simp)
      rw [cnt_all n p hall]
      by_cases e : m = n
      · subst e; rw [hp]; simp
      · rw [hall m (by omega)]; simp; omega
    | true =>
      rw [if_pos rfl]
      by_cases e : m = n
      · subst e; rw [hp]; have := cnt_le m p; simp; exact this
      · have := ih (fun a b hab hb ha => hm a b hab (by omega) ha) (by omega)
        rw [this]; omega

/-- The least angle with a sine, and with a cosine. -/
def pSin (v : Int) (i : Nat) : Bool := decide (v ≤ sinI (-90000 + (i : Int)))
def asinN (v : Int) : Nat := cnt 180000 (pSin v)
theorem pSin_mono (v : Int) : ∀ a b, a ≤ b → b < 180000 → pSin v a = true → pSin v b = true := by
  intro a b h hb ha
  unfold pSin at *
  have := sinI_mono (a := -90000 + (a : Int)) (b := -90000 + (b : Int)) (by omega) (by omega) (by omega)
  simp at *; omega
theorem asin_le (v : Int) : asinN v ≤ 180000 := cnt_le _ _
theorem asin_iff (v : Int) (m : Nat) (h : m < 180000) : v ≤ sinI (-90000 + (m : Int)) ↔ asinN v ≤ m := by
  unfold asinN; rw [← cnt_iff 180000 (pSin v) (pSin_mono v) m h]; simp [pSin]
def pCos (v : Int) (i : Nat) : Bool := decide (cosI (0 + (i : Int)) ≤ v)
def acosN (v : Int) : Nat := cnt 180000 (pCos v)
theorem pCos_mono (v : Int) : ∀ a b, a ≤ b → b < 180000 → pCos v a = true → pCos v b = true := by
  intro a b h hb ha
  unfold pCos at *
  have := cosI_anti (a := 0 + (a : Int)) (b := 0 + (b : Int)) (by omega) (by omega) (by omega)
  simp only [decide_eq_true_eq] at *; omega
theorem acos_le (v : Int) : acosN v ≤ 180000 := cnt_le _ _
theorem acos_iff (v : Int) (m : Nat) (h : m < 180000) : cosI (m : Int) ≤ v ↔ acosN v ≤ m := by
  unfold acosN; rw [← cnt_iff 180000 (pCos v) (pCos_mono v) m h]; simp [pCos]

/-- The least angle of a direction with 0 ≤ u ≤ v. -/
def pArc (u v low : Int) (i : Nat) : Bool := decide (cosI (low + (i : Int)) * u ≤ sinI (low + (i : Int)) * v)
theorem pArc_mono (u v low : Int) (n : Nat) (hu : 0 ≤ u) (hv : 0 ≤ v) (h0 : 0 ≤ low) (h1 : low + n ≤ 90000) : ∀ a b, a ≤ b → b < n → pArc u v low a = true → pArc u v low b = true := by
  intro a b h hb ha
  unfold pArc at *
  have e1 := cosI_anti (a := low + (a : Int)) (b := low + (b : Int)) (by omega) (by omega) (by omega)
  have e2 := sinI_mono (a := low + (a : Int)) (b := low + (b : Int)) (by omega) (by omega) (by omega)
  have e3 := Int.mul_le_mul_of_nonneg_right e1 hu
  have e4 := Int.mul_le_mul_of_nonneg_right e2 hv
  simp only [decide_eq_true_eq] at *; omega
def arcN (u v : Int) : Nat := cnt 45000 (pArc u v 0)
theorem arc_le (u v : Int) : arcN u v ≤ 45000 := cnt_le _ _
theorem arc_iff (u v : Int) (hu : 0 ≤ u) (hv : 0 ≤ v) (m : Nat) (h : m < 45000) : cosI (m : Int) * u ≤ sinI (m : Int) * v ↔ arcN u v ≤ m := by
  unfold arcN; rw [← cnt_iff 45000 (pArc u v 0) (pArc_mono u v 0 45000 hu hv (by omega) (by omega)) m h]; simp [pArc]
/-- A search between two whole degrees finds the same angle. -/
theorem arc_part (u v : Int) (hu : 0 ≤ u) (hv : 0 ≤ v) (low n : Nat) (h1 : low + n ≤ 45000) (hl : low = 0 ∨ ¬ cosI (low : Int) * u ≤ sinI (low : Int) * v) (hh : low + n = 45000 ∨ cosI ((low + n : Nat) : Int) * u ≤ sinI ((low + n : Nat) : Int) * v) :
    low + cnt n (pArc u v low) = arcN u v := by
  have c0 := cnt_le n (pArc u v low)
  have ci := cnt_iff n (pArc u v low) (pArc_mono u v low n hu hv (by omega) (by omega))
  have al := arc_le u v
  have ai := arc_iff u v hu hv
  have key : ∀ i, i < n → (low + i < 45000) → (cnt n (pArc u v low) ≤ i ↔ arcN u v ≤ low + i) := by
    intro i hi h
    rw [← ci i hi, ← ai (low + i) h]
    unfold pArc
    simp only [decide_eq_true_eq]
    rw [show ((low + i : Nat) : Int) = (low : Int) + (i : Int) by omega]
  have b1 : low ≤ arcN u v := by
    rcases hl with h | h
    · omega
    · by_cases c : low < 45000
      · have := mt (ai low c).2 h; omega
      · have : low = 45000 := by omega
        by_cases c2 : arcN u v < 45000
        · exfalso
          have h3 := (ai (arcN u v) c2).2 (Nat.le_refl _)
          have e1 := cosI_anti (a := (arcN u v : Int)) (b := (low : Int)) (by omega) (by omega) (by omega)
          have e2 := sinI_mono (a := (arcN u v : Int)) (b := (low : Int)) (by omega) (by omega) (by omega)
          have e3 := Int.mul_le_mul_of_nonneg_right e1 hu
          have e4 := Int.mul_le_mul_of_nonneg_right e2 hv
          omega
        · omega
  have b2 : arcN u v ≤ low + n := by
    rcases hh with h | h
    · omega
    · by_cases c : low + n < 45000
      · exact (ai (low + n) c).1 h
      · omega
  by_cases c : cnt n (pArc u v low) < n
  · have k1 := (key _ c (by omega)).1 (Nat.le_refl _)
    by_cases d : arcN u v < low + cnt n (pArc u v low)
    · have := (key (arcN u v - low) (by omega) (by omega)).2 (by omega)
      omega
    · omega
  · by_cases d : arcN u v < low + n
    · have := (key (arcN u v - low) (by omega) (by omega)).2 (by omega)
      omega
    · omega
theorem sin_whole (k : Nat) (h : k ≤ 90) : sinI (1000 * (k : Int)) = tab k := by
  rw [sinI_q1 _ (by omega) (by omega), qs_whole k h]
theorem cos_whole (k : Nat) (h : k ≤ 90) : cosI (1000 * (k : Int)) = tab (90 - k) := by
  rw [cosI_1 _ (by omega) (by omega), show 90000 - 1000 * (k : Int) = 1000 * ((90 - k : Nat) : Int) by omega, qs_whole _ (by omega)]

/-- The angle of a direction. -/
def ab (x : Int) : Int := if x < 0 then -x else x
def mx2 (a b : Int) : Int := if a < b then b else a
def base (y x : Int) : Int := if ab x < ab y then 90000 - (arcN (ab x) (ab y) : Int) else (arcN (ab y) (ab x) : Int)
def dirI (y x : Int) : Int :=
  if 0 ≤ x ∧ 0 ≤ y then base y x else if 0 ≤ y then 180000 - base y x else if x < 0 then 180000 + base y x else nrm (-base y x)
theorem base_bd (y x : Int) : 0 ≤ base y x ∧ base y x ≤ 90000 := by
  have h1 := arc_le (ab x) (ab y)
  have h2 := arc_le (ab y) (ab x)
  unfold base
  split <;> omega
theorem dirI_bd (y x : Int) : 0 ≤ dirI y x ∧ dirI y x < 360000 := by
  have h := base_bd y x
  unfold dirI
  split
  · omega
  · split
    · omega
    · split
      · omega
      · exact nrm_bd _
end Go.Proofs.Ytecnhbgkkfcipaa
