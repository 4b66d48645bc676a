/-
  Plain mathematics of dividing bytes at a byte: no program is named here.
-/
import Derived.Lib.Split
import Derived.Lib.SplitLaws
namespace Go.Proofs.YtjghopepgfgebaaDoor

/-- The parts of bytes between the bytes c. -/
def spl (c : UInt8) : List UInt8 → List (List UInt8)
  | [] => [[]]
  | a :: r => if a = c then [] :: spl c r else match spl c r with
    | [] => [[a]]
    | h :: t => (a :: h) :: t
theorem spl_ne (c : UInt8) (l : List UInt8) : spl c l ≠ [] := by
  cases l with
  | nil => simp [spl]
  | cons a r =>
    unfold spl
    split
    · simp
    · split <;> simp
theorem spl_eq (c : UInt8) (r : List UInt8) : spl c (c :: r) = [] :: spl c r := by rw [spl, if_pos rfl]
theorem spl_other (c a : UInt8) (r : List UInt8) (h : a ≠ c) {x : List UInt8} {t : List (List UInt8)} (e : spl c r = x :: t) : spl c (a :: r) = (a :: x) :: t := by
  rw [spl, if_neg h, e]
theorem spl_none (c : UInt8) : ∀ p : List UInt8, c ∉ p → spl c p = [p]
  | [], _ => rfl
  | a :: r, h => by
    have h1 : a ≠ c := fun e => h (by rw [e]; simp)
    exact spl_other c a r h1 (spl_none c r (fun e => h (List.mem_cons_of_mem _ e)))
theorem spl_hit (c : UInt8) (r : List UInt8) : ∀ p : List UInt8, c ∉ p → spl c (p ++ c :: r) = p :: spl c r
  | [], _ => spl_eq c r
  | a :: q, h => by
    have h1 : a ≠ c := fun e => h (by rw [e]; simp)
    exact spl_other c a (q ++ c :: r) h1 (spl_hit c r q (fun e => h (List.mem_cons_of_mem _ e)))
theorem spl_len (c : UInt8) : ∀ l : List UInt8, (spl c l).length ≤ l.length + 1
  | [] => by simp [spl]
  | a :: r => by
    have ih := spl_len c r
    by_cases h : a = c
    · subst h; rw [spl_eq]; simp; omega
    · cases e : spl c r with
      | nil => exact absurd e (spl_ne c r)
      | cons x t => rw [spl_other c a r h e]; rw [e] at ih; simp at ih ⊢; omega
theorem spl_part (c : UInt8) : ∀ (l x : List UInt8), x ∈ spl c l → x.length ≤ l.length
  | [], x, h => by simp [spl] at h; subst h; simp
  | a :: r, x, h => by
    by_cases hc : a = c
    · subst hc
      rw [spl_eq] at h
      rcases List.mem_cons.1 h with rfl | h
      · simp
      · have := spl_part a r x h; simp; omega
    · cases e : spl c r with
      | nil => exact absurd e (spl_ne c r)
      | cons y t =>
        rw [spl_other c a r hc e] at h
        rcases List.mem_cons.1 h with rfl | h
        · have := spl_part c r y (by rw [e]; simp); simp; omega
        · have := spl_part c r x (by rw [e]; simp [h]); simp; omega

theorem split_spl (c : UInt8) : ∀ s : List UInt8, Lib.split s [c] = spl c s
  | [] => by
    unfold Lib.split
    rw [Lib.count_miss (by simp [Lib.index])]
    rfl
  | a :: r => by
    have ih := split_spl c r
    unfold Lib.split at ih ⊢
    by_cases h : a = c
    · subst h
      have hix : Lib.index (a :: r) [a] = 0 := by rw [Lib.index]; simp [List.isPrefixOf]
      rw [Lib.count_cons_eq, Nat.add_comm, Lib.splitK, hix, spl_eq, ← ih]
      rfl
    · have hp : ([c] : List UInt8).isPrefixOf (a :: r) = false := by simp [List.isPrefixOf, Ne.symm h]
      have hix : Lib.index (a :: r) [c] = if Lib.index r [c] == -1 then -1 else Lib.index r [c] + 1 := by rw [Lib.index, hp]; simp
      rw [Lib.count_cons_ne a c r h]
      cases hk : Lib.count r [c] with
      | zero =>
        rw [hk] at ih
        rw [Lib.splitK] at ih ⊢
        exact (spl_other c a r h ih.symm).symm
      | succ k =>
        rw [hk] at ih
        have hne : ¬ Lib.index r [c] = -1 := fun e => by rw [Lib.count_miss e] at hk; omega
        have hb : (Lib.index r [c] == -1) = false := beq_eq_false_iff_ne.2 hne
        rw [Lib.splitK, hb] at ih
        simp only [Bool.false_eq_true, if_false] at ih
        rw [hb] at hix
        simp only [Bool.false_eq_true, if_false] at hix
        have hge : -1 ≤ Lib.index r [c] := by rw [Lib.index_one]; exact Lib.indexByte_ge r c
        obtain ⟨i, hi⟩ := Int.eq_ofNat_of_zero_le (show 0 ≤ Lib.index r [c] by omega)
        rw [hi] at ih hix
        have hb2 : ((i : Int) + 1 == -1) = false := beq_eq_false_iff_ne.2 (by omega)
        rw [Lib.splitK, hix, hb2]
        simp only [Bool.false_eq_true, if_false]
        rw [spl_other c a r h ih.symm, show ((i : Int) + 1).toNat = i + 1 by omega, Int.toNat_natCast]
        rfl

/-- Bytes as strings. -/
def bs (xs : List (List UInt8)) : List ByteArray := xs.map fun x => ⟨x.toArray⟩
theorem bs_of (ps : List ByteArray) (xs : List (List UInt8)) (h : ps.map (·.data.toList) = xs) : ps = bs xs := by
  subst h
  unfold bs
  rw [List.map_map]
  exact (List.map_id' ps).symm
theorem bs_data (xs : List (List UInt8)) : (bs xs).map (·.data.toList) = xs := by
  unfold bs
  rw [List.map_map]
  exact List.map_id' xs
theorem bs_len (xs : List (List UInt8)) : (bs xs).length = xs.length := by simp [bs]
theorem splitB_spl (s : ByteArray) (c : UInt8) : Lib.splitB ⟨#[c]⟩ 0 (Lib.countB s ⟨#[c]⟩) s = bs (spl c s.data.toList) := by
  apply bs_of
  rw [Lib.splitB_data]
  exact split_spl c s.data.toList

/-- What holds at the head of the loop that divides: the parts done, where the open part begins, the place. -/
structure SplInv (c : UInt8) (l : List UInt8) (xs : List (List UInt8)) (f i : Nat) : Prop where
  list : xs ++ spl c (l.drop f) = spl c l
  le : f ≤ i
  len : i ≤ l.length
  many : xs.length ≤ f
  clean : c ∉ (l.drop f).take (i - f)
theorem SplInv.start (c : UInt8) (l : List UInt8) : SplInv c l [] 0 0 := ⟨rfl, Nat.le_refl _, Nat.zero_le _, Nat.le_refl _, by simp⟩
theorem take_next (l : List UInt8) (f i : Nat) (h : f ≤ i) (hi : i < l.length) : (l.drop f).take (i + 1 - f) = (l.drop f).take (i - f) ++ [l[i]] := by
  rw [show i + 1 - f = (i - f) + 1 by omega, List.take_succ_eq_append_getElem (by rw [List.length_drop]; omega)]
  congr 2
  rw [List.getElem_drop]
  congr 1
  omega
theorem SplInv.pass {c : UInt8} {l : List UInt8} {xs : List (List UInt8)} {f i : Nat} (h : SplInv c l xs f i) (hi : i < l.length) (hc : l[i] ≠ c) : SplInv c l xs f (i + 1) := by
  refine ⟨h.list, Nat.le_succ_of_le h.le, hi, h.many, ?_⟩
  rw [take_next l f i h.le hi, List.mem_append]
  rintro (k | k)
  · exact h.clean k
  · simp at k; exact hc k.symm
theorem drop_split (l : List UInt8) (f i : Nat) (h : f ≤ i) (hi : i < l.length) : l.drop f = (l.drop f).take (i - f) ++ l[i] :: l.drop (i + 1) := by
  have e : l.drop f = (l.drop f).take (i - f) ++ (l.drop f).drop (i - f) := (List.take_append_drop _ _).symm
  rw [List.drop_drop, show f + (i - f) = i by omega, List.drop_eq_getElem_cons hi] at e
  exact e
theorem SplInv.cut {c : UInt8} {l : List UInt8} {xs : List (List UInt8)} {f i : Nat} (h : SplInv c l xs f i) (hi : i < l.length) (hc : l[i] = c) : SplInv c l (xs ++ [(l.drop f).take (i - f)]) (i + 1) (i + 1) := by
  have hl := h.list
  rw [drop_split l f i h.le hi, hc, spl_hit c _ _ h.clean] at hl
  refine ⟨?_, Nat.le_refl _, hi, ?_, by simp⟩
  · rw [List.append_assoc]; exact hl
  · have := h.many
    have := h.le
    rw [List.length_append]; simp; omega
theorem SplInv.done {c : UInt8} {l : List UInt8} {xs : List (List UInt8)} {f : Nat} (h : SplInv c l xs f l.length) : xs ++ [l.drop f] = spl c l := by
  have hc := h.clean
  rw [List.take_of_length_le (by rw [List.length_drop]; omega)] at hc
  have hl := h.list
  rw [spl_none c _ hc] at hl
  exact hl
theorem ext_data (s : ByteArray) (f i : Nat) : s.extract f i = ⟨((s.data.toList.drop f).take (i - f)).toArray⟩ := by
  have e : (s.extract f i).data.toList = (s.data.toList.drop f).take (i - f) := by
    rw [Lib.extract_data]
  rw [← e]
end Go.Proofs.YtjghopepgfgebaaDoor
