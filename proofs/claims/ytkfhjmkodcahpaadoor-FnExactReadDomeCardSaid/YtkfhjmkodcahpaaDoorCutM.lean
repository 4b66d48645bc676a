/-
  Plain mathematics of bytes cut at a blank: no program is named here.
-/
import Derived.Test.YtkfhjmkodcahpaaDoorListE
import Derived.Lib.IndexMore
import Derived.Lib.IndexLaws
import Derived.Lib.IndexBytes
namespace Go.Proofs.YtkfhjmkodcahpaaDoor

theorem cut_miss (l : List UInt8) (h : (32 : UInt8) ∉ l) : Lib.cut l [32] = (l, [], false) := by
  unfold Lib.cut
  rw [Lib.index_one]
  rw [if_neg]
  intro h0
  obtain ⟨o, ho⟩ : ∃ o : Nat, Lib.indexByte l 32 = o := ⟨(Lib.indexByte l 32).toNat, by omega⟩
  have := (Lib.indexByte_some ho).1
  exact h (List.mem_of_getElem? this)
theorem cut_hit (n t : List UInt8) (h : (32 : UInt8) ∉ n) : Lib.cut (n ++ 32 :: t) [32] = (n, t, true) := by
  have hat : (n ++ 32 :: t)[n.length]? = some 32 := by simp
  have h1 := Lib.indexByte_ge (n ++ 32 :: t) 32
  have h2 : Lib.indexByte (n ++ 32 :: t) 32 ≠ -1 := fun e => Lib.indexByte_none e n.length hat
  obtain ⟨o, ho⟩ : ∃ o : Nat, Lib.indexByte (n ++ 32 :: t) 32 = o := ⟨(Lib.indexByte (n ++ 32 :: t) 32).toNat, by omega⟩
  obtain ⟨h3, h4⟩ := Lib.indexByte_some ho
  have ho2 : o = n.length := by
    rcases Nat.lt_trichotomy o n.length with c | c | c
    · rw [List.getElem?_append_left c] at h3
      exact absurd (List.mem_of_getElem? h3) h
    · exact c
    · exact absurd hat (h4 _ c)
  unfold Lib.cut
  rw [Lib.index_one, ho, if_pos (by omega), ho2]
  have e1 : (n ++ 32 :: t).take n.length = n := by simp
  have e2 : (n ++ 32 :: t).drop (n.length + 1) = t := by simp [List.drop_append]
  simp only [Int.toNat_natCast, List.length_cons, List.length_nil, Nat.zero_add]
  rw [e1, e2]
theorem spl_mem (c d : UInt8) (hcd : d ≠ c) : ∀ l : List UInt8, d ∈ l → ∃ x, x ∈ spl c l ∧ d ∈ x
  | [], h => by simp at h
  | a :: r, h => by
    by_cases hc : a = c
    · subst hc
      rcases List.mem_cons.1 h with e | h
      · exact absurd e hcd
      · obtain ⟨x, h1, h2⟩ := spl_mem a d hcd r h
        exact ⟨x, by rw [spl_eq]; exact List.mem_cons_of_mem _ h1, h2⟩
    · cases e : spl c r with
      | nil => exact absurd e (spl_ne c r)
      | cons y t =>
        rw [spl_other c a r hc e]
        rcases List.mem_cons.1 h with e1 | h
        · exact ⟨a :: y, by simp, by rw [e1]; simp⟩
        · obtain ⟨x, h1, h2⟩ := spl_mem c d hcd r h
          rw [e] at h1
          rcases List.mem_cons.1 h1 with rfl | h1
          · exact ⟨a :: x, by simp, List.mem_cons_of_mem _ h2⟩
          · exact ⟨x, List.mem_cons_of_mem _ h1, h2⟩
theorem numOk_blank (x : List UInt8) (h : (32 : UInt8) ∈ x) : numOk x = false := by
  have hb : (32 : UInt8) ∈ bodyN x := by
    unfold bodyN
    split
    · rename_i h45
      cases x with
      | nil => simp at h
      | cons a r =>
        simp only [List.head?_cons, Option.some.injEq] at h45
        subst h45
        rcases List.mem_cons.1 h with e | h
        · exact absurd e (by decide)
        · exact h
    · exact h
  have ha : (bodyN x).all digB = false := by
    cases hx : (bodyN x).all digB with
    | false => rfl
    | true =>
      have := List.all_eq_true.1 hx 32 hb
      exact absurd this (by decide)
  exact (none_v (no_digit x ha)).2
theorem rowI_bad : ∀ (xs : List (List UInt8)) (x : List UInt8), x ∈ xs → numOk x = false → rowI xs = none
  | [], x, h, _ => by simp at h
  | y :: r, x, h, k => by
    unfold rowI
    rcases List.mem_cons.1 h with rfl | h
    · rw [if_neg (by rw [k]; simp)]
    · split
      · rw [rowI_bad r x h k]; rfl
      · rfl
theorem listR_blank (t : List UInt8) (h : (32 : UInt8) ∈ t) : listR t = none := by
  unfold listR
  rw [if_neg (fun e => by rw [e] at h; exact absurd h (by decide))]
  split
  · rfl
  · obtain ⟨x, h1, h2⟩ := spl_mem 44 32 (by decide) t h
    exact rowI_bad _ x h1 (numOk_blank x h2)
theorem listR_nil : listR [] = none := rfl
theorem spl_two (t : List UInt8) (h : (32 : UInt8) ∈ t) : 2 ≤ (spl 32 t).length := by
  obtain ⟨n, r, rfl, hn⟩ := List.eq_append_cons_of_mem h
  rw [spl_hit 32 r n hn]
  have := List.length_pos_iff.2 (spl_ne 32 r)
  simp only [List.length_cons]
  omega
/-- Cutting at the first blank and dividing at all of them say the same of a name and a list. -/
theorem spl_cut (l : List UInt8) : (∃ n t, spl 32 l = [n, t] ∧ Lib.cut l [32] = (n, t, true)) ∨ ((spl 32 l).length ≠ 2 ∧ listR (Lib.cut l [32]).2.1 = none) := by
  by_cases h : (32 : UInt8) ∈ l
  · obtain ⟨n, t, rfl, hn⟩ := List.eq_append_cons_of_mem h
    rw [cut_hit n t hn, spl_hit 32 t n hn]
    by_cases ht : (32 : UInt8) ∈ t
    · refine Or.inr ⟨?_, listR_blank t ht⟩
      have := spl_two t ht
      simp only [List.length_cons]
      omega
    · exact Or.inl ⟨n, t, by rw [spl_none 32 t ht], rfl⟩
  · rw [cut_miss l h, spl_none 32 l h]
    exact Or.inr ⟨by simp, listR_nil⟩
theorem cut_len (l : List UInt8) : (Lib.cut l [32]).1.length ≤ l.length ∧ (Lib.cut l [32]).2.1.length ≤ l.length := by
  unfold Lib.cut
  split
  · refine ⟨?_, ?_⟩
    · show ((l.take _).length) ≤ _
      rw [List.length_take]
      exact Nat.min_le_right _ _
    · show ((l.drop _).length) ≤ _
      rw [List.length_drop]
      exact Nat.sub_le _ _
  · simp
/-- The list with a text, if it has k numbers. -/
def listN (k : Nat) (l : List UInt8) : Option (List Int) := match listR l with
  | some zs => if zs.length = k then some zs else none
  | none => none
end Go.Proofs.YtkfhjmkodcahpaaDoor
