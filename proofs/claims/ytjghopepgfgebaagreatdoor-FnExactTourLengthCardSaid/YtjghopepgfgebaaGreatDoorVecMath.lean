/-
  Plain mathematics of vectors: roots as a function, quotients that stay within bounds, lines between two numbers.
-/
import Derived.Test.YtjghopepgfgebaaGreatDoorRootMath
import Derived.Test.YtjghopepgfgebaaGreatDoorQ2
namespace Go.Proofs.YtjghopepgfgebaaGreatDoor

/-- The root of a number, rounded down. -/
def rootN : Nat → Nat
  | 0 => 0
  | n + 1 => if (rootN n + 1) * (rootN n + 1) ≤ n + 1 then rootN n + 1 else rootN n
theorem rootN_is (n : Nat) : rootN n * rootN n ≤ n ∧ n < (rootN n + 1) * (rootN n + 1) := by
  induction n with
  | zero => simp [rootN]
  | succ n ih =>
    unfold rootN
    by_cases h : (rootN n + 1) * (rootN n + 1) ≤ n + 1
    · rw [if_pos h]
      refine ⟨h, ?_⟩
      have : (rootN n + 1 + 1) * (rootN n + 1 + 1) = (rootN n + 1) * (rootN n + 1) + 2 * (rootN n + 1) + 1 := by
        rw [Nat.add_mul, Nat.mul_add]; omega
      omega
    · rw [if_neg h]
      omega
def rootI (n : Int) : Int := (rootN n.toNat : Nat)
theorem rootI_is (n : Int) : IsRoot n (rootI n) := by
  unfold rootI
  by_cases h : n < 0
  · refine .inl ⟨h, ?_⟩
    rw [show n.toNat = 0 by omega]; rfl
  · obtain ⟨h1, h2⟩ := rootN_is n.toNat
    refine .inr ⟨by omega, by omega, ?_, ?_⟩
    · have h3 : ((rootN n.toNat * rootN n.toNat : Nat) : Int) ≤ (n.toNat : Nat) := by exact_mod_cast h1
      rw [Int.natCast_mul] at h3
      omega
    · have h3 : ((n.toNat : Nat) : Int) < (((rootN n.toNat + 1) * (rootN n.toNat + 1) : Nat) : Int) := by exact_mod_cast h2
      rw [Int.natCast_mul, Int.natCast_add] at h3
      rw [show (((1 : Nat) : Int)) = 1 from rfl] at h3
      omega
theorem rootI_nonneg (n : Int) : 0 ≤ rootI n := by unfold rootI; omega
theorem rootI_le (n m : Int) (hm : 0 ≤ m) (h : n ≤ m * m) : rootI n ≤ m := by
  rcases rootI_is n with ⟨_, e⟩ | ⟨_, h1, h2, _⟩
  · omega
  · by_cases c : rootI n ≤ m
    · exact c
    · exfalso
      have := Int.mul_le_mul (show m + 1 ≤ rootI n by omega) (show m + 1 ≤ rootI n by omega) (by omega) (by omega)
      rw [Int.mul_add, Int.add_mul] at this
      omega
theorem rootI_ge (n x : Int) (hx : 0 ≤ x) (h : x * x ≤ n) : x ≤ rootI n := by
  have h0 := Int.mul_nonneg hx hx
  rcases rootI_is n with ⟨h1, _⟩ | ⟨_, h1, _, h2⟩
  · omega
  · by_cases c : x ≤ rootI n
    · exact c
    · exfalso
      have := Int.mul_le_mul (show rootI n + 1 ≤ x by omega) (show rootI n + 1 ≤ x by omega) (by omega) (by omega)
      omega
theorem rootI_0 : rootI 0 = 0 := rfl

theorem sq_bd (x m : Int) (h : -m ≤ x) (h' : x ≤ m) : 0 ≤ x * x ∧ x * x ≤ m * m := by
  by_cases c : 0 ≤ x
  · exact ⟨Int.mul_nonneg c c, Int.mul_le_mul h' h' c (by omega)⟩
  · have e : x * x = (-x) * (-x) := by rw [Int.neg_mul_neg]
    rw [e]
    exact ⟨Int.mul_nonneg (by omega) (by omega), Int.mul_le_mul (by omega) (by omega) (by omega) (by omega)⟩
theorem pr_bd (a b m n : Int) (ha : -m ≤ a) (ha' : a ≤ m) (hb : -n ≤ b) (hb' : b ≤ n) : -(m * n) ≤ a * b ∧ a * b ≤ m * n := by
  have hm : 0 ≤ m := by omega
  have hn : 0 ≤ n := by omega
  have k : ∀ p q : Int, 0 ≤ p → p ≤ m → 0 ≤ q → q ≤ n → 0 ≤ p * q ∧ p * q ≤ m * n := fun p q h0 h1 h2 h3 => ⟨Int.mul_nonneg h0 h2, Int.mul_le_mul h1 h3 h2 hm⟩
  by_cases c : 0 ≤ a <;> by_cases d : 0 ≤ b
  · have := k a b c ha' d hb'; omega
  · have := k a (-b) c ha' (by omega) (by omega); rw [Int.mul_neg] at this; omega
  · have := k (-a) b (by omega) (by omega) d hb'; rw [Int.neg_mul] at this; omega
  · have := k (-a) (-b) (by omega) (by omega) (by omega) (by omega); rw [Int.neg_mul_neg] at this; omega
theorem sq_pos (x : Int) (h : x ≠ 0) : 1 ≤ x * x := by
  by_cases c : 0 ≤ x
  · have := Int.mul_le_mul (show 1 ≤ x by omega) (show 1 ≤ x by omega) (by omega) (by omega); omega
  · have := Int.mul_le_mul (show 1 ≤ -x by omega) (show 1 ≤ -x by omega) (by omega) (by omega)
    rw [Int.neg_mul_neg] at this; omega

/-- The square of the length; the length. -/
def sq3 (x y z : Int) : Int := x * x + y * y + z * z
def len3 (x y z : Int) : Int := rootI (sq3 x y z)
theorem sq3_0 (x y z : Int) (h : sq3 x y z ≤ 0) : x = 0 ∧ y = 0 ∧ z = 0 := by
  unfold sq3 at h
  have a := sq_bd x (sz x) (by unfold sz; split <;> omega) (by unfold sz; split <;> omega)
  have b := sq_bd y (sz y) (by unfold sz; split <;> omega) (by unfold sz; split <;> omega)
  have c := sq_bd z (sz z) (by unfold sz; split <;> omega) (by unfold sz; split <;> omega)
  refine ⟨?_, ?_, ?_⟩
  · by_cases e : x = 0
    · exact e
    · have := sq_pos x e; omega
  · by_cases e : y = 0
    · exact e
    · have := sq_pos y e; omega
  · by_cases e : z = 0
    · exact e
    · have := sq_pos z e; omega
theorem len3_bd (x y z m : Int) (hm : 0 ≤ m) (hx : -m ≤ x) (hx' : x ≤ m) (hy : -m ≤ y) (hy' : y ≤ m) (hz : -m ≤ z) (hz' : z ≤ m) : 0 ≤ len3 x y z ∧ len3 x y z ≤ 2 * m := by
  have a := sq_bd x m hx hx'
  have b := sq_bd y m hy hy'
  have c := sq_bd z m hz hz'
  refine ⟨rootI_nonneg _, rootI_le _ _ (by omega) ?_⟩
  unfold sq3
  have : 2 * m * (2 * m) = 4 * (m * m) := by rw [Int.mul_assoc, Int.mul_left_comm m 2 m]; omega
  omega
theorem len3_0 (x y z : Int) : len3 x y z = 0 ↔ x = 0 ∧ y = 0 ∧ z = 0 := by
  constructor
  · intro h
    apply sq3_0
    by_cases c : sq3 x y z ≤ 0
    · exact c
    · have := rootI_ge (sq3 x y z) 1 (by omega) (by omega)
      unfold len3 at h; omega
  · rintro ⟨rfl, rfl, rfl⟩
    rfl
theorem len3_ge (x y z : Int) : (-(len3 x y z) ≤ x ∧ x ≤ len3 x y z) ∧ (-(len3 x y z) ≤ y ∧ y ≤ len3 x y z) ∧ (-(len3 x y z) ≤ z ∧ z ≤ len3 x y z) := by
  have a := sq_bd x (sz x) (by unfold sz; split <;> omega) (by unfold sz; split <;> omega)
  have b := sq_bd y (sz y) (by unfold sz; split <;> omega) (by unfold sz; split <;> omega)
  have c := sq_bd z (sz z) (by unfold sz; split <;> omega) (by unfold sz; split <;> omega)
  have k : ∀ t : Int, t * t ≤ sq3 x y z → -(len3 x y z) ≤ t ∧ t ≤ len3 x y z := by
    intro t ht
    by_cases h : 0 ≤ t
    · have := rootI_ge _ t h ht
      unfold len3; omega
    · have := rootI_ge _ (-t) (by omega) (by rw [Int.neg_mul_neg]; exact ht)
      unfold len3; omega
  refine ⟨k x ?_, k y ?_, k z ?_⟩ <;> unfold sq3 <;> omega

/-- A quotient of a number that is not greater than the divisor, times m. -/
theorem nearQ_le (x L m : Int) (hm : 0 ≤ m) (hL : 0 < L) (h : -L ≤ x) (h' : x ≤ L) : -m ≤ nearQ (x * m) L ∧ nearQ (x * m) L ≤ m := by
  have k : ∀ t : Int, 0 ≤ t → t ≤ L → 0 ≤ (2 * (t * m) + L) / (2 * L) ∧ (2 * (t * m) + L) / (2 * L) ≤ m := by
    intro t h0 h1
    have p := Int.mul_nonneg h0 hm
    have q : t * m ≤ L * m := Int.mul_le_mul_of_nonneg_right h1 hm
    refine ⟨Int.ediv_nonneg (by omega) (by omega), ?_⟩
    have : (2 * (t * m) + L) / (2 * L) < m + 1 := by
      apply Int.ediv_lt_of_lt_mul (by omega)
      have : (m + 1) * (2 * L) = 2 * (L * m) + 2 * L := by rw [Int.add_mul, Int.one_mul, Int.mul_left_comm, Int.mul_comm m L]
      omega
    omega
  by_cases c : x * m < 0
  · rw [nearQ_np _ _ c hL]
    have e : L - 2 * (x * m) = 2 * ((-x) * m) + L := by rw [Int.neg_mul]; omega
    rw [e]
    by_cases d : x ≤ 0
    · have := k (-x) (by omega) (by omega); omega
    · exfalso
      have := Int.mul_nonneg (show 0 ≤ x by omega) hm; omega
  · rw [nearQ_pp _ _ (by omega) hL]
    by_cases d : 0 ≤ x
    · have := k x d h'; omega
    · have h3 := Int.mul_nonneg (show 0 ≤ -x by omega) hm
      rw [Int.neg_mul] at h3
      rw [show x * m = 0 by omega]
      have : (2 * 0 + L) / (2 * L) = 0 := Int.ediv_eq_zero_of_lt (by omega) (by omega)
      omega
theorem nearQ_0 (L : Int) : nearQ 0 L = 0 := by
  unfold nearQ nqUp
  by_cases c : L = 0
  · rw [if_pos c]
  · rw [if_neg c]
    have e : sz 0 = 0 := rfl
    have p := sz_pos L c
    have q : (2 * 0 + sz L) / (2 * sz L) = 0 := Int.ediv_eq_zero_of_lt (by omega) (by omega)
    rw [e, q]
    split <;> rfl
theorem nearQ_whole (x L : Int) (hL : 0 < L) : nearQ (x * L) L = x := by
  by_cases c : x * L < 0
  · rw [nearQ_np _ _ c hL]
    have : (L - 2 * (x * L)) / (2 * L) = -x := by
      rw [show L - 2 * (x * L) = L + (2 * L) * (-x) by rw [Int.mul_neg, Int.mul_assoc, Int.mul_comm L x]; omega, Int.add_mul_ediv_left _ _ (by omega), Int.ediv_eq_zero_of_lt (by omega) (by omega)]
      omega
    omega
  · rw [nearQ_pp _ _ (by omega) hL]
    rw [show 2 * (x * L) + L = L + (2 * L) * x by rw [Int.mul_assoc, Int.mul_comm L x]; omega, Int.add_mul_ediv_left _ _ (by omega), Int.ediv_eq_zero_of_lt (by omega) (by omega)]
    omega

/-- The number between a and b by s thousandths. -/
def shr (a b s : Int) : Int := a + nearQ ((b - a) * s) 1000
theorem shr_line (a b s : Int) (h0 : 0 ≤ s) (h1 : s ≤ 1000) : lineI 0 a 1000 b s = shr a b s := by
  unfold lineI shr
  by_cases c : s ≤ 0
  · rw [if_pos (by omega), show s = 0 by omega, Int.mul_zero, nearQ_0]; omega
  · rw [if_neg (by omega)]
    by_cases d : 1000 ≤ s
    · rw [if_pos (by omega), show s = 1000 by omega, nearQ_whole _ _ (by omega)]; omega
    · rw [if_neg (by omega), Int.sub_zero, Int.sub_zero]
theorem shr_bd (a b s m : Int) (ha : -m ≤ a) (ha' : a ≤ m) (hb : -m ≤ b) (hb' : b ≤ m) (h0 : 0 ≤ s) (h1 : s ≤ 1000) : -m ≤ shr a b s ∧ shr a b s ≤ m := by
  unfold shr
  by_cases c : a ≤ b
  · have p := Int.mul_nonneg (show 0 ≤ b - a by omega) h0
    have q : (b - a) * s ≤ (b - a) * 1000 := Int.mul_le_mul_of_nonneg_left h1 (by omega)
    rw [nearQ_pp _ _ p (by omega)]
    generalize (b - a) * s = t at *
    omega
  · have p := Int.mul_nonneg (show 0 ≤ a - b by omega) h0
    have q : (a - b) * s ≤ (a - b) * 1000 := Int.mul_le_mul_of_nonneg_left h1 (by omega)
    have e : (b - a) * s = -((a - b) * s) := by rw [← Int.neg_mul]; congr 1; omega
    rw [e]
    generalize (a - b) * s = t at *
    by_cases d : -t < 0
    · rw [nearQ_np _ _ d (by omega)]
      omega
    · rw [nearQ_pp _ _ (by omega) (by omega)]
      omega
end Go.Proofs.YtjghopepgfgebaaGreatDoor
