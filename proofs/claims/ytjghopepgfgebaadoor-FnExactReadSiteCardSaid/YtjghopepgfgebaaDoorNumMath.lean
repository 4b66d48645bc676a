/-
  Plain mathematics of decimal numerals: which bytes spell a number, and that the numeral of a number is the only one. No program is named here.
-/
import Derived.Lib.ItoaNum
import Derived.Lib.ParseIntB
namespace Go.Proofs.YtjghopepgfgebaaDoor

def digB (c : UInt8) : Bool := decide (48 ≤ c.toNat) && decide (c.toNat ≤ 57)
def valN (l : List UInt8) : Nat := l.foldl (fun n c => 10 * n + (c.toNat - 48)) 0
/-- The bytes behind a sign. -/
def bodyN (l : List UInt8) : List UInt8 := if l.head? = some 45 then l.tail else l
/-- The number that bytes spell, as l01Number reads them. -/
def numI (l : List UInt8) : Option Int :=
  if (bodyN l).length = 0 ∨ 18 < (bodyN l).length ∨ ((bodyN l).head? = some 48 ∧ 1 < l.length) then none
  else if (bodyN l).all digB = true then some (if l.head? = some 45 then -(valN (bodyN l) : Int) else (valN (bodyN l) : Int))
  else none

theorem head_app (d e : List UInt8) (h : d ≠ []) : (d ++ e).head? = d.head? := by
  cases d with
  | nil => exact absurd rfl h
  | cons a r => rfl
theorem valN_snoc (l : List UInt8) (c : UInt8) : valN (l ++ [c]) = 10 * valN l + (c.toNat - 48) := by simp [valN]
theorem digB_iff (c : UInt8) : digB c = true ↔ 48 ≤ c.toNat ∧ c.toNat ≤ 57 := by simp [digB]
theorem ofNat48 (d : Nat) (h : d < 10) : (UInt8.ofNat (48 + d)).toNat = 48 + d := by
  rw [UInt8.toNat_ofNat']
  exact Nat.mod_eq_of_lt (by omega)
theorem digB_of (d : Nat) (h : d < 10) : digB (UInt8.ofNat (48 + d)) = true := by
  rw [digB_iff, ofNat48 d h]
  omega
theorem byte_of (c : UInt8) (h : digB c = true) : UInt8.ofNat (48 + (c.toNat - 48)) = c := by
  rw [digB_iff] at h
  rw [show 48 + (c.toNat - 48) = c.toNat by omega]
  simp

theorem dd_small (u : Nat) (h : u < 10) : Lib.decDigits u = [UInt8.ofNat (48 + u)] := by rw [Lib.decDigits, dif_pos h]
theorem dd_big (u : Nat) (h : ¬ u < 10) : Lib.decDigits u = Lib.decDigits (u / 10) ++ [UInt8.ofNat (48 + u % 10)] := by rw [Lib.decDigits, dif_neg h]

theorem dd_facts : ∀ (f u : Nat), u < f → valN (Lib.decDigits u) = u ∧ (Lib.decDigits u).all digB = true ∧ Lib.decDigits u ≠ [] ∧ (u ≠ 0 → (Lib.decDigits u).head? ≠ some 48)
  | 0, u, h => by omega
  | f + 1, u, h => by
    by_cases c : u < 10
    · rw [dd_small u c]
      refine ⟨?_, ?_, by simp, ?_⟩
      · show 10 * 0 + ((UInt8.ofNat (48 + u)).toNat - 48) = u
        rw [ofNat48 u c]; omega
      · rw [List.all_cons, digB_of u c]; rfl
      · intro hu h2
        have h3 : UInt8.ofNat (48 + u) = 48 := by simpa using h2
        have h4 := congrArg UInt8.toNat h3
        rw [ofNat48 u c] at h4
        have : (48 : UInt8).toNat = 48 := rfl
        omega
    · obtain ⟨i1, i2, i3, i4⟩ := dd_facts f (u / 10) (by omega)
      rw [dd_big u c]
      refine ⟨?_, ?_, by simp, fun _ => ?_⟩
      · rw [valN_snoc, i1, ofNat48 (u % 10) (by omega)]; omega
      · rw [List.all_append, i2, List.all_cons, digB_of (u % 10) (by omega)]; rfl
      · rw [head_app _ _ i3]
        exact i4 (by omega)
theorem dd_val (u : Nat) : valN (Lib.decDigits u) = u := (dd_facts (u + 1) u (by omega)).1
theorem dd_all (u : Nat) : (Lib.decDigits u).all digB = true := (dd_facts (u + 1) u (by omega)).2.1
theorem dd_ne (u : Nat) : Lib.decDigits u ≠ [] := (dd_facts (u + 1) u (by omega)).2.2.1
theorem dd_head (u : Nat) (h : u ≠ 0) : (Lib.decDigits u).head? ≠ some 48 := (dd_facts (u + 1) u (by omega)).2.2.2 h
theorem dd_zero : Lib.decDigits 0 = [48] := by rw [dd_small 0 (by omega)]; rfl

/-- Digits without a leading zero are the numeral of what they spell. -/
theorem dd_back (k : Nat) : ∀ l : List UInt8, l.length = k → l.all digB = true → l ≠ [] → (l.length = 1 ∨ l.head? ≠ some 48) → Lib.decDigits (valN l) = l := by
  induction k with
  | zero => intro l hl _ hne; exact absurd (List.length_eq_zero_iff.1 hl) hne
  | succ k ih =>
    intro l hl hall hne hh
    obtain ⟨d, c, rfl⟩ : ∃ d c, l = d ++ [c] := ⟨l.dropLast, l.getLast hne, (List.dropLast_concat_getLast hne).symm⟩
    rw [List.all_append, Bool.and_eq_true] at hall
    have hc : digB c = true := by simpa using hall.2
    have hc' := (digB_iff c).1 hc
    rw [valN_snoc]
    by_cases hd : d = []
    · subst hd
      have : 10 * valN [] + (c.toNat - 48) = c.toNat - 48 := by simp [valN]
      rw [this, dd_small _ (by omega), byte_of c hc]
      rfl
    · have hlen : 0 < d.length := List.length_pos_iff.2 hd
      rw [List.length_append] at hl hh
      simp at hl
      have hhd : d.head? ≠ some 48 := by
        rcases hh with h | h
        · rw [List.length_singleton] at h; omega
        · rw [head_app _ _ hd] at h; exact h
      have e := ih d hl hall.1 hd (.inr hhd)
      have hv : valN d ≠ 0 := by
        intro h0
        rw [h0, dd_zero] at e
        rw [← e] at hhd
        simp at hhd
      rw [dd_big _ (by omega), show (10 * valN d + (c.toNat - 48)) / 10 = valN d by omega, show (10 * valN d + (c.toNat - 48)) % 10 = c.toNat - 48 by omega, e, byte_of c hc]

theorem itoa_neg (n : Int) (h : n < 0) : Lib.itoa n = 45 :: Lib.decDigits n.natAbs := by unfold Lib.itoa; rw [if_pos h]
theorem itoa_pos (n : Int) (h : 0 ≤ n) : Lib.itoa n = Lib.decDigits n.toNat := by unfold Lib.itoa; rw [if_neg (by omega)]
theorem dd_sign (u : Nat) : (Lib.decDigits u).head? ≠ some 45 := by
  intro h
  have ha := dd_all u
  cases hl : Lib.decDigits u with
  | nil => rw [hl] at h; simp at h
  | cons c r =>
    rw [hl] at h ha
    simp at h
    subst h
    rw [List.all_cons, Bool.and_eq_true, digB_iff] at ha
    have : (45 : UInt8).toNat = 45 := rfl
    omega

/-- What spells a number is that number's numeral. -/
theorem numI_itoa (l : List UInt8) (n : Int) (h : numI l = some n) : l = Lib.itoa n := by
  unfold numI at h
  split at h
  · cases h
  · rename_i h1
    split at h
    · rename_i h2
      have hne : bodyN l ≠ [] := fun e => h1 (.inl (by rw [e]; rfl))
      by_cases hs : l.head? = some 45
      · rw [if_pos hs] at h
        have hb : bodyN l = l.tail := by unfold bodyN; rw [if_pos hs]
        obtain ⟨r, rfl⟩ : ∃ r, l = 45 :: r := by
          cases l with
          | nil => simp at hs
          | cons a r => simp at hs; exact ⟨r, by rw [hs]⟩
        have hb' : bodyN (45 :: r) = r := hb
        rw [hb'] at h h1 h2 hne
        have hhd : r.head? ≠ some 48 := fun e => h1 (.inr (.inr ⟨e, by rw [List.length_cons]; have := List.length_pos_iff.2 hne; omega⟩))
        have e := dd_back r.length r rfl h2 hne (.inr hhd)
        have hv : valN r ≠ 0 := by
          intro h0
          rw [h0, dd_zero] at e
          rw [← e] at hhd
          simp at hhd
        obtain rfl : n = -(valN r : Int) := (Option.some.inj h).symm
        rw [itoa_neg _ (by omega), show (-(valN r : Int)).natAbs = valN r by omega, e]
      · rw [if_neg hs] at h
        have hb : bodyN l = l := by unfold bodyN; rw [if_neg hs]
        rw [hb] at h h1 h2 hne
        obtain rfl : n = (valN l : Int) := (Option.some.inj h).symm
        rw [itoa_pos _ (by omega), Int.toNat_natCast]
        refine (dd_back l.length l rfl h2 hne ?_).symm
        by_cases hl : l.length = 1
        · exact .inl hl
        · refine .inr fun e => h1 (.inr (.inr ⟨e, ?_⟩))
          have := List.length_pos_iff.2 hne
          omega
    · cases h

theorem body_itoa (n : Int) : bodyN (Lib.itoa n) = Lib.decDigits n.natAbs := by
  by_cases h : n < 0
  · rw [itoa_neg n h]; rfl
  · rw [itoa_pos n (by omega), show n.toNat = n.natAbs by omega]
    unfold bodyN
    rw [if_neg (dd_sign _)]

/-- A numeral of at most 18 digits spells its number. -/
theorem numI_of (n : Int) (h : (bodyN (Lib.itoa n)).length ≤ 18) : numI (Lib.itoa n) = some n := by
  have hb := body_itoa n
  have hne := dd_ne n.natAbs
  have hpos := List.length_pos_iff.2 hne
  unfold numI
  rw [hb] at h ⊢
  rw [if_neg, if_pos (dd_all _), dd_val]
  · by_cases hn : n < 0
    · rw [if_pos (by rw [itoa_neg n hn]; rfl)]
      congr 1; omega
    · rw [if_neg (by rw [itoa_pos n (by omega)]; exact dd_sign _)]
      congr 1; omega
  · rintro (h1 | h1 | ⟨h1, h2⟩)
    · omega
    · omega
    · by_cases hz : n = 0
      · subst hz
        rw [itoa_pos 0 (by omega), show (0 : Int).toNat = 0 from rfl, dd_zero] at h2
        simp at h2
      · exact dd_head n.natAbs (by omega) h1

/-- Ten to the eighteenth bounds what 18 digits spell. -/
theorem valN_lt : ∀ (k : Nat) (l : List UInt8), l.length ≤ k → l.all digB = true → valN l < 10 ^ k := by
  intro k
  induction k with
  | zero =>
    intro l hl _
    have : l = [] := List.length_eq_zero_iff.1 (by omega)
    subst this
    decide
  | succ k ih =>
    intro l hl hall
    by_cases hne : l = []
    · subst hne
      have : (0 : Nat) < 10 ^ (k + 1) := Nat.pow_pos (by omega)
      simpa [valN] using this
    · obtain ⟨d, c, rfl⟩ : ∃ d c, l = d ++ [c] := ⟨l.dropLast, l.getLast hne, (List.dropLast_concat_getLast hne).symm⟩
      rw [List.all_append, Bool.and_eq_true] at hall
      have hc : digB c = true := by simpa using hall.2
      have hc' := (digB_iff c).1 hc
      rw [List.length_append] at hl
      simp at hl
      have := ih d (by omega) hall.1
      rw [valN_snoc, Nat.pow_succ]
      omega

theorem parse_run : ∀ (l : List UInt8) (acc k : Nat), l.all digB = true → l.length + k ≤ 18 → acc < 10 ^ k → Lib.parseUintM (2 ^ 64 - 1) acc l = .ok (l.foldl (fun n c => 10 * n + (c.toNat - 48)) acc)
  | [], acc, k, _, _, _ => rfl
  | c :: r, acc, k, hall, hl, hacc => by
    rw [List.all_cons, Bool.and_eq_true] at hall
    have hc := (digB_iff c).1 hall.1
    rw [List.length_cons] at hl
    have hp : (10 : Nat) ^ (k + 1) ≤ 10 ^ 18 := Nat.pow_le_pow_right (by omega) (by omega)
    have hp' : (10 : Nat) ^ k * 10 = 10 ^ (k + 1) := (Nat.pow_succ ..).symm
    rw [Lib.parseUintM, if_pos hc, if_neg (by omega), if_neg (by omega), List.foldl_cons, show 10 * acc + (c.toNat - 48) = acc * 10 + (c.toNat - 48) by omega]
    exact parse_run r _ (k + 1) hall.2 (by omega) (by omega)

/-- What spells a number is read as that number by ParseInt. -/
theorem parse_num (l : List UInt8) (n : Int) (h : numI l = some n) : Lib.parseIntB 64 l = .ok n := by
  unfold numI at h
  split at h
  · cases h
  · rename_i h1
    split at h
    · rename_i h2
      have hne : bodyN l ≠ [] := fun e => h1 (.inl (by rw [e]; rfl))
      have hlen : (bodyN l).length ≤ 18 := by
        by_cases c : (bodyN l).length ≤ 18
        · exact c
        · exact absurd (.inr (.inl (by omega))) h1
      have hrun : Lib.parseUintM (2 ^ 64 - 1) 0 (bodyN l) = .ok (valN (bodyN l)) := parse_run (bodyN l) 0 0 h2 (by omega) (by decide)
      have hval := valN_lt 18 (bodyN l) hlen h2
      have hu : Lib.parseUintB 64 (bodyN l) = .ok (valN (bodyN l)) := by unfold Lib.parseUintB; rw [if_neg hne]; exact hrun
      cases l with
      | nil => simp [bodyN] at hne
      | cons c r =>
        by_cases hs : c = 45
        · subst hs
          have hb : bodyN (45 :: r) = r := rfl
          rw [hb] at hu hval h
          rw [if_pos (show (45 :: r).head? = some 45 from rfl)] at h
          obtain rfl : n = -(valN r : Int) := (Option.some.inj h).symm
          have e45 : (45 : UInt8).toNat = 45 := rfl
          simp only [Lib.parseIntB, e45, or_true, if_true, hu]
          rw [if_neg (by simp), if_neg (by omega)]
        · have hb : bodyN (c :: r) = c :: r := by unfold bodyN; rw [if_neg (by simpa using hs)]
          rw [hb] at hu hval h h2
          rw [if_neg (by simpa using hs)] at h
          obtain rfl : n = (valN (c :: r) : Int) := (Option.some.inj h).symm
          have hc := (digB_iff c).1 (by rw [List.all_cons, Bool.and_eq_true] at h2; exact h2.1)
          simp only [Lib.parseIntB]
          rw [if_neg (by omega), hu]
          simp only
          rw [if_neg (by omega), if_neg (by omega), if_neg (by omega)]
    · cases h
end Go.Proofs.YtjghopepgfgebaaDoor
