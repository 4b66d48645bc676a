/-
  Plain mathematics of decimal digits: no program is named here.
-/
import Derived.Lib.ItoaNum
import Derived.Laws.BytesArg
namespace Go.Proofs.YtjghopepgfgebaaDoor

/-- The digits of a number, the last one first; none for 0. -/
def rd (u : Nat) : List Int := if u = 0 then [] else (Lib.decDigits u).reverse.map fun c => (c.toNat : Int)

theorem ofNat_digit (d : Nat) (h : d < 10) : ((UInt8.ofNat (48 + d)).toNat : Int) = 48 + (d : Int) := by
  have : (UInt8.ofNat (48 + d)).toNat = 48 + d := by
    rw [UInt8.toNat_ofNat']
    exact Nat.mod_eq_of_lt (by omega)
  omega
theorem rd_step (u : Nat) (h : u ≠ 0) : rd u = (48 + ((u % 10 : Nat) : Int)) :: rd (u / 10) := by
  unfold rd
  rw [if_neg h, Lib.decDigits]
  by_cases c : u < 10
  · rw [dif_pos c, if_pos (by omega)]
    simp only [List.reverse_cons, List.reverse_nil, List.nil_append, List.map_cons, List.map_nil]
    rw [ofNat_digit u c, Nat.mod_eq_of_lt c]
  · rw [dif_neg c, if_neg (by omega)]
    simp only [List.reverse_append, List.reverse_cons, List.reverse_nil, List.nil_append, List.map_cons, List.cons_append]
    rw [ofNat_digit (u % 10) (by omega)]
theorem rd_zero : rd 0 = [] := rfl
theorem rd_len : ∀ (k u : Nat), u < 10 ^ k → (rd u).length ≤ k
  | 0, u, h => by
    have : u = 0 := by simpa using h
    rw [this]; simp [rd_zero]
  | k + 1, u, h => by
    by_cases c : u = 0
    · rw [c]; simp [rd_zero]
    · rw [rd_step u c, List.length_cons]
      have := rd_len k (u / 10) (by rw [Nat.pow_succ] at h; omega)
      omega
theorem rd_back (u : Nat) (h : u ≠ 0) : (rd u).reverse = (Lib.decDigits u).map fun c => (c.toNat : Int) := by
  unfold rd
  rw [if_neg h, ← List.map_reverse, List.reverse_reverse]
theorem str_of_digits (l : List UInt8) : strOfNums (l.map fun c => (c.toNat : Int)) = ⟨l.toArray⟩ := by
  unfold strOfNums
  rw [List.map_map]
  have : ((fun n : Int => UInt8.ofNat n.toNat) ∘ fun c : UInt8 => (c.toNat : Int)) = id := by
    funext c
    simp
  rw [this, List.map_id]

/-- What the digits are, with the sign behind them. -/
def signed (n : Int) : List Int := if n < 0 then rd n.natAbs ++ [45] else rd n.natAbs
theorem signed_back (n : Int) (h : n ≠ 0) : (signed n).reverse = (Lib.itoa n).map fun c => (c.toNat : Int) := by
  unfold signed Lib.itoa
  by_cases c : n < 0
  · rw [if_pos c, if_pos c]
    simp only [List.reverse_append, List.reverse_cons, List.reverse_nil, List.nil_append, List.cons_append, List.map_cons]
    rw [rd_back n.natAbs (by omega)]
    rfl
  · rw [if_neg c, if_neg c, rd_back n.natAbs (by omega), show n.natAbs = n.toNat by omega]

/-- What holds at the head of the loop that divides. -/
structure DecInv (n : Int) (xs : List Int) (m : Int) : Prop where
  list : xs ++ rd m.natAbs = rd n.natAbs
  low : -9223372036854775808 ≤ m
  high : m ≤ 9223372036854775807
  len : xs.length ≤ 19
theorem DecInv.start (n : Int) (h0 : -9223372036854775808 ≤ n) (h1 : n ≤ 9223372036854775807) : DecInv n [] n := ⟨rfl, h0, h1, by simp⟩
theorem len_of (n m : Int) (xs : List Int) (h0 : -9223372036854775808 ≤ n) (h1 : n ≤ 9223372036854775807) (h : xs ++ rd m.natAbs = rd n.natAbs) : xs.length ≤ 19 := by
  have h2 := congrArg List.length h
  rw [List.length_append] at h2
  have := rd_len 19 n.natAbs (by omega)
  omega
theorem DecInv.pos {n m : Int} {xs : List Int} (g0 : -9223372036854775808 ≤ n) (g1 : n ≤ 9223372036854775807) (h : DecInv n xs m) (hm : 0 < m) : DecInv n (xs ++ [48 + m % 10]) (m / 10) := by
  have hl := h.list
  rw [rd_step m.natAbs (by omega)] at hl
  have e1 : ((m.natAbs % 10 : Nat) : Int) = m % 10 := by omega
  have e2 : m.natAbs / 10 = (m / 10).natAbs := by omega
  rw [e1, e2] at hl
  have hl' : xs ++ [48 + m % 10] ++ rd (m / 10).natAbs = rd n.natAbs := by
    rw [List.append_assoc]; exact hl
  have := h.low
  have := h.high
  exact ⟨hl', by omega, by omega, len_of n _ _ g0 g1 hl'⟩
theorem DecInv.neg {n m : Int} {xs : List Int} (g0 : -9223372036854775808 ≤ n) (g1 : n ≤ 9223372036854775807) (h : DecInv n xs m) (hm : m < 0) : DecInv n (xs ++ [48 + (-m) % 10]) (-(-m / 10)) := by
  have hl := h.list
  rw [rd_step m.natAbs (by omega)] at hl
  have e1 : ((m.natAbs % 10 : Nat) : Int) = (-m) % 10 := by omega
  have e2 : m.natAbs / 10 = (-(-m / 10)).natAbs := by omega
  rw [e1, e2] at hl
  have hl' : xs ++ [48 + (-m) % 10] ++ rd (-(-m / 10)).natAbs = rd n.natAbs := by
    rw [List.append_assoc]; exact hl
  have := h.low
  have := h.high
  exact ⟨hl', by omega, by omega, len_of n _ _ g0 g1 hl'⟩
theorem DecInv.done {n : Int} {xs : List Int} (h : DecInv n xs 0) : xs = rd n.natAbs := by
  have := h.list
  rw [Int.natAbs_zero, rd_zero, List.append_nil] at this
  exact this
theorem signed_len (n : Int) (h0 : -9223372036854775808 ≤ n) (h1 : n ≤ 9223372036854775807) : (signed n).length ≤ 20 := by
  unfold signed
  have := rd_len 19 n.natAbs (by omega)
  split
  · rw [List.length_append]; simp; omega
  · omega
theorem signed_pos (n : Int) (h : n ≠ 0) : 0 < (signed n).length := by
  have : rd n.natAbs ≠ [] := by rw [rd_step n.natAbs (by omega)]; simp
  have := List.length_pos_iff.2 this
  unfold signed
  split
  · rw [List.length_append]; omega
  · omega
theorem drop_rev (ys : List Int) (k : Nat) (h : k < ys.length) : (ys.drop k).reverse = (ys.drop (k + 1)).reverse ++ [ys[k]] := by
  rw [List.drop_eq_getElem_cons h, List.reverse_cons]
end Go.Proofs.YtjghopepgfgebaaDoor
