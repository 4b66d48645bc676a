/-
  Plain mathematics of the law of the basics: quotients are nearest, lines stay between their ends, texts are read back. No program is walked here.
-/
import Derived.Test.YtjghopepgfgebaaDoorQuo
import Derived.Test.YtjghopepgfgebaaDoorRootMath
import Derived.Test.YtjghopepgfgebaaDoorText
namespace Go.Proofs.YtjghopepgfgebaaDoor

theorem near_pos (a b : Int) (hb : 1 ≤ b) (ha : 0 ≤ a) : 2 * (a - nearQ a b * b) ≤ b ∧ -b ≤ 2 * (a - nearQ a b * b) ∧ 0 ≤ nearQ a b := by
  rw [nearQ_pp a b ha (by omega)]
  have e := Int.mul_ediv_add_emod (2 * a + b) (2 * b)
  have m0 := Int.emod_nonneg (2 * a + b) (show 2 * b ≠ 0 by omega)
  have m1 := Int.emod_lt_of_pos (2 * a + b) (show 0 < 2 * b by omega)
  have q0 : 0 ≤ (2 * a + b) / (2 * b) := Int.ediv_nonneg (by omega) (by omega)
  generalize (2 * a + b) / (2 * b) = q at *
  generalize (2 * a + b) % (2 * b) = r at *
  have e2 : 2 * b * q = 2 * (q * b) := by rw [Int.mul_assoc, Int.mul_comm b q]
  rw [e2] at e
  generalize q * b = t at *
  omega
theorem near_neg (a b : Int) (hb : 1 ≤ b) : nearQ (-a) b = -nearQ a b := by
  by_cases h : a = 0
  · subst h
    have e : nearQ 0 b = 0 := by
      rw [nearQ_pp 0 b (by omega) (by omega)]
      exact Int.ediv_eq_zero_of_lt (by omega) (by omega)
    rw [Int.neg_zero, e]; rfl
  · by_cases h2 : 0 < a
    · rw [nearQ_np (-a) b (by omega) (by omega), nearQ_pp a b (by omega) (by omega), show b - 2 * -a = 2 * a + b by omega]
    · rw [nearQ_pp (-a) b (by omega) (by omega), nearQ_np a b (by omega) (by omega), Int.neg_neg, show 2 * -a + b = b - 2 * a by omega]
theorem near_any (a b : Int) (hb : 1 ≤ b) : 2 * (a - nearQ a b * b) ≤ b ∧ -b ≤ 2 * (a - nearQ a b * b) := by
  by_cases h : 0 ≤ a
  · exact ⟨(near_pos a b hb h).1, (near_pos a b hb h).2.1⟩
  · obtain ⟨h1, h2, _⟩ := near_pos (-a) b hb (by omega)
    rw [near_neg a b hb, Int.neg_mul] at h1 h2
    generalize nearQ a b * b = t at *
    omega
theorem divR_in (a b : Int) (ha : -1000000000000 ≤ a) (ha' : a ≤ 1000000000000) (hb : -1000000000000 ≤ b) (hb' : b ≤ 1000000000000) : divR a b = nearQ a b := by
  unfold divR
  rw [if_pos]
  rw [inR_2, Bool.and_eq_true, inR_1, inR_1]
  exact ⟨⟨ha, ha'⟩, hb, hb'⟩

/-- A number on the line lies between its ends. -/
theorem near_between (d x : Int) (hx : 0 ≤ x) (hx' : x ≤ 1000) (hd : 0 ≤ d) : 0 ≤ nearQ (d * x) 1000 ∧ nearQ (d * x) 1000 ≤ d := by
  have hp : 0 ≤ d * x := Int.mul_nonneg hd hx
  have hq : d * x ≤ d * 1000 := Int.mul_le_mul_of_nonneg_left hx' hd
  obtain ⟨h1, h2, h3⟩ := near_pos (d * x) 1000 (by omega) hp
  generalize d * x = t at *
  exact ⟨h3, by omega⟩
theorem blend_mid (y z x : Int) (hy : -2500 ≤ y) (hy' : y ≤ 2500) (hz : -2500 ≤ z) (hz' : z ≤ 2500) (hx : 0 ≤ x) (hx' : x ≤ 1000) :
    (y ≤ z → y ≤ blendI 0 y 1000 z x ∧ blendI 0 y 1000 z x ≤ z) ∧ (z ≤ y → z ≤ blendI 0 y 1000 z x ∧ blendI 0 y 1000 z x ≤ y) := by
  have hin : inR (-1000000) 1000000 [0, y, 1000, z] = true := (inR_4 _ _ _ _ _ _).2 ⟨by omega, by omega, by omega, by omega⟩
  unfold blendI
  rw [if_pos hin]
  unfold lineI
  by_cases c1 : x ≤ 0 ∨ (1000 : Int) ≤ 0
  · rw [if_pos c1]; omega
  · rw [if_neg c1]
    by_cases c2 : 1000 ≤ x
    · rw [if_pos c2]; omega
    · rw [if_neg c2, Int.sub_zero, Int.sub_zero]
      constructor
      · intro h
        obtain ⟨g1, g2⟩ := near_between (z - y) x hx hx' (by omega)
        omega
      · intro h
        obtain ⟨g1, g2⟩ := near_between (y - z) x hx hx' (by omega)
        have e : (z - y) * x = -((y - z) * x) := by rw [← Int.neg_mul]; congr 1; omega
        rw [e, near_neg _ 1000 (by omega)]
        omega
theorem blend_ends (y z : Int) (hy : -2500 ≤ y) (hy' : y ≤ 2500) (hz : -2500 ≤ z) (hz' : z ≤ 2500) : blendI 0 y 1000 z 0 = y ∧ blendI 0 y 1000 z 1000 = z := by
  have hin : inR (-1000000) 1000000 [0, y, 1000, z] = true := (inR_4 _ _ _ _ _ _).2 ⟨by omega, by omega, by omega, by omega⟩
  unfold blendI
  rw [if_pos hin, if_pos hin]
  unfold lineI
  rw [if_pos (by omega), if_neg (by omega), if_pos (by omega)]
  exact ⟨rfl, rfl⟩

/-- No comma stands in a numeral. -/
theorem no_comma (n : Int) : (44 : UInt8) ∉ Lib.itoa n := by
  have hd : ∀ u : Nat, (44 : UInt8) ∉ Lib.decDigits u := by
    intro u h
    have ha := dd_all u
    rw [List.all_eq_true] at ha
    have h1 := (digB_iff _).1 (ha 44 h)
    have : (44 : UInt8).toNat = 44 := rfl
    omega
  by_cases h : n < 0
  · rw [itoa_neg n h]
    intro hm
    rcases List.mem_cons.1 hm with e | e
    · cases e
    · exact hd _ e
  · rw [itoa_pos n (by omega)]
    exact hd _
theorem spl_join : ∀ (xs : List (List UInt8)), xs ≠ [] → (∀ x ∈ xs, (44 : UInt8) ∉ x) → spl 44 (Lib.join xs [44]) = xs
  | [], h, _ => absurd rfl h
  | [x], _, h => by rw [Lib.join_one]; exact spl_none 44 x (h x (by simp))
  | x :: y :: r, _, h => by
    have ih := spl_join (y :: r) (by simp) (fun z hz => h z (List.mem_cons_of_mem _ hz))
    have e : Lib.join (x :: y :: r) [44] = x ++ 44 :: Lib.join (y :: r) [44] := by
      rw [Lib.join_cons, Lib.join_cons]
      simp [Lib.joinTail]
    rw [e, spl_hit 44 _ x (h x (by simp)), ih]
theorem itoa_small (n : Int) (h0 : -1000000000000 ≤ n) (h1 : n ≤ 1000000000000) : (bodyN (Lib.itoa n)).length ≤ 18 := by
  rw [body_itoa]
  by_cases hz : n = 0
  · subst hz
    rw [show (0 : Int).natAbs = 0 from rfl, dd_zero]; simp
  · have e := congrArg List.length (rd_back n.natAbs (by omega))
    rw [List.length_reverse, List.length_map] at e
    have := rd_len 18 n.natAbs (by omega)
    omega
theorem num_back (n : Int) (h0 : -1000000000000 ≤ n) (h1 : n ≤ 1000000000000) : numOk (Lib.itoa n) = true ∧ numV (Lib.itoa n) = n := by
  have h := numI_of n (itoa_small n h0 h1)
  obtain ⟨a, b⟩ := some_v h
  exact ⟨b, a⟩
theorem row_back : ∀ zs : List Int, inR (-1000000000000) 1000000000000 zs = true → rowI (zs.map Lib.itoa) = some zs
  | [], _ => rfl
  | z :: r, h => by
    have hz : inR (-1000000000000) 1000000000000 [z] = true ∧ inR (-1000000000000) 1000000000000 r = true := by
      simp only [inR, List.all_cons, Bool.and_eq_true, List.all_nil, Bool.and_true] at h ⊢
      exact h
    obtain ⟨b0, b1⟩ := (inR_1 _ _ _).1 hz.1
    obtain ⟨n1, n2⟩ := num_back z b0 b1
    rw [List.map_cons, rowI, n1, n2, if_pos ⟨rfl, hz.1⟩, row_back r hz.2]
    rfl
theorem list_back (z : Int) (r : List Int) (hf : fitsB (z :: r) = true) : listR (listT (z :: r)) = some (z :: r) := by
  obtain ⟨h1, h2⟩ := (fits_iff _).1 hf
  have ht : listT (z :: r) = Lib.join ((z :: r).map Lib.itoa) [44] := by
    unfold listT
    rw [if_pos hf, if_neg (by simp)]
    rfl
  have hs : spl 44 (listT (z :: r)) = (z :: r).map Lib.itoa := by
    rw [ht]
    exact spl_join _ (by simp) (fun x hx => by
      obtain ⟨n, _, rfl⟩ := List.mem_map.1 hx
      exact no_comma n)
  have hne : ¬ listT (z :: r) = [45] := by
    intro e
    rw [e, spl_none 44 [45] (by decide)] at hs
    have h3 := congrArg List.head? hs
    rw [List.map_cons] at h3
    have h4 : ([45] : List UInt8) = Lib.itoa z := by simpa using h3
    obtain ⟨b0, b1⟩ := inR_at _ _ _ h1 0 (by simp)
    obtain ⟨n1, _⟩ := num_back z b0 b1
    rw [← h4] at n1
    cases n1
  unfold listR
  rw [if_neg hne, hs, if_neg (by rw [List.length_map]; omega), row_back _ h1]
end Go.Proofs.YtjghopepgfgebaaDoor
