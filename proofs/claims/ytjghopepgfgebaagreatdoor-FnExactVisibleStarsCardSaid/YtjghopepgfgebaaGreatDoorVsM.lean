/-
  Places by their altitude, and by their index: the order, and what is sorted.
-/
import Derived.Test.YtjghopepgfgebaaGreatDoorVisA
namespace Go.Proofs.YtjghopepgfgebaaGreatDoor
set_option linter.unusedVariables false

/-- A star goes ahead of another one: it is higher, or as high and of a lesser index. -/
def gtA (f : Nat → Int) (x y : Nat) : Bool := if f x = f y then decide (x < y) else decide (f y < f x)
theorem gtA_irr (f : Nat → Int) (x : Nat) : gtA f x x = false := by simp [gtA]
theorem gtA_iff (f : Nat → Int) (x y : Nat) : gtA f x y = true ↔ f y < f x ∨ (f x = f y ∧ x < y) := by
  unfold gtA
  by_cases c : f x = f y
  · rw [if_pos c]
    simp only [decide_eq_true_eq]
    omega
  · rw [if_neg c]
    simp only [decide_eq_true_eq]
    omega
theorem gtA_iff' (f : Nat → Int) (x y : Nat) : gtA f x y = false ↔ ¬ (f y < f x ∨ (f x = f y ∧ x < y)) := by
  rw [← gtA_iff]
  cases gtA f x y <;> simp
theorem gtA_trans (f : Nat → Int) (x y z : Nat) (h1 : gtA f x y = true) (h2 : gtA f y z = true) : gtA f x z = true := by
  rw [gtA_iff] at *
  omega
theorem gtA_ntrans (f : Nat → Int) (x y z : Nat) (h1 : gtA f x y = false) (h2 : gtA f y z = false) : gtA f x z = false := by
  rw [gtA_iff'] at *
  omega
theorem gtA_anti (f : Nat → Int) (x y : Nat) (h1 : gtA f x y = false) (h2 : gtA f y x = false) : x = y := by
  rw [gtA_iff'] at *
  omega
def SortV (f : Nat → Int) (L : List Nat) : Prop := L.Pairwise (fun x y => gtA f y x = false)
theorem uniqV {f : Nat → Int} {L1 L2 : List Nat} (h1 : SortV f L1) (h2 : SortV f L2) (hp : L1.Perm L2) : L1 = L2 :=
  List.Perm.eq_of_pairwise (le := fun x y => gtA f y x = false) (fun a b _ _ h1 h2 => gtA_anti f a b h2 h1) h1 h2 hp
/-- The places below n whose altitude is not too small. -/
def upL (f : Nat → Int) (least : Int) (n : Nat) : List Nat := (List.range n).filter (fun k => decide (least ≤ f k))
theorem upL_next (f : Nat → Int) (least : Int) (n : Nat) : upL f least (n + 1) = if least ≤ f n then upL f least n ++ [n] else upL f least n := by
  unfold upL
  rw [List.range_succ, List.filter_append]
  by_cases c : least ≤ f n
  · rw [if_pos c]
    simp [c]
  · rw [if_neg c]
    simp [c]
theorem upL_lt {f : Nat → Int} {least : Int} {n x : Nat} (h : x ∈ upL f least n) : x < n := by
  unfold upL at h
  rw [List.mem_filter, List.mem_range] at h
  exact h.1
theorem upL_len (f : Nat → Int) (least : Int) (n : Nat) : (upL f least n).length ≤ n := by
  have h := List.length_filter_le (fun k => decide (least ≤ f k)) (List.range n)
  rw [List.length_range] at h
  exact h
/-- What is seen, in order. -/
def visV (f : Nat → Int) (least : Int) (n : Nat) : List Nat := (upL f least n).mergeSort (fun x y => !gtA f y x)
theorem visV_sort (f : Nat → Int) (least : Int) (n : Nat) : SortV f (visV f least n) := by
  have h := List.pairwise_mergeSort (le := fun x y => !gtA f y x) (by
    intro a b c h1 h2
    simp only [Bool.not_eq_true'] at h1 h2 ⊢
    exact gtA_ntrans f c b a h2 h1) (by
    intro a b
    rw [Bool.or_eq_true]
    simp only [Bool.not_eq_true']
    by_cases c : gtA f b a = true
    · refine Or.inr ?_
      rw [gtA_iff'] at *
      rw [gtA_iff] at c
      omega
    · exact Or.inl (by simpa using c)) (upL f least n)
  exact h.imp (fun h => by simpa using h)
theorem visV_of {f : Nat → Int} {least : Int} {n : Nat} {L : List Nat} (h : SortV f L) (hp : L.Perm (upL f least n)) : L = visV f least n :=
  uniqV h (visV_sort f least n) (hp.trans (List.mergeSort_perm _ _).symm)
theorem visV_len (f : Nat → Int) (least : Int) (n : Nat) : (visV f least n).length ≤ n := by
  have h := upL_len f least n
  unfold visV
  rw [List.length_mergeSort]
  exact h
/-- A place comes to where it belongs: all behind are lower, all ahead are not. -/
theorem sortV_put {f : Nat → Int} {L : List Nat} (h : SortV f L) (i a : Nat) (ha : a ≤ L.length) (hlt : ∀ x, x ∈ L → x < i) (h1 : ∀ k, (hk : k < L.length) → a ≤ k → f L[k] < f i) (h2 : a = 0 ∨ ∃ (hk : a - 1 < L.length), f i ≤ f L[a - 1]) :
    SortV f (L.take a ++ [i] ++ L.drop a) := by
  have hd : ∀ x, x ∈ L.drop a → f x < f i := by
    intro x hx
    obtain ⟨k, hk, rfl⟩ := List.getElem_of_mem hx
    rw [List.getElem_drop]
    exact h1 _ (by rw [List.length_drop] at hk; omega) (by omega)
  have ht : ∀ x, x ∈ L.take a → f i ≤ f x := by
    intro x hx
    obtain ⟨k, hk, rfl⟩ := List.getElem_of_mem hx
    rw [List.length_take] at hk
    rcases h2 with h2 | ⟨hk2, h2⟩
    · omega
    · rw [List.getElem_take]
      by_cases c : k = a - 1
      · subst c; exact h2
      · have hp := List.pairwise_iff_getElem.1 h k (a - 1) (by omega) hk2 (by omega)
        rw [gtA_iff'] at hp
        omega
  unfold SortV
  rw [List.append_assoc, List.pairwise_append]
  refine ⟨h.sublist (List.take_sublist _ _), ?_, ?_⟩
  · rw [List.singleton_append, List.pairwise_cons]
    refine ⟨fun x hx => ?_, h.sublist (List.drop_sublist _ _)⟩
    rw [gtA_iff']
    have := hd x hx
    omega
  · intro x hx y hy
    rw [gtA_iff']
    have e1 := ht x hx
    have e2 := hlt x ((List.take_sublist _ _).subset hx)
    rw [List.singleton_append, List.mem_cons] at hy
    rcases hy with rfl | hy
    · omega
    · have := hd y hy
      omega
theorem perm_put (L : List Nat) (i a : Nat) : (L.take a ++ [i] ++ L.drop a).Perm (L ++ [i]) := by
  have h : (L.take a ++ [i] ++ L.drop a).Perm ((L.take a ++ L.drop a) ++ [i]) := by
    rw [List.append_assoc, List.append_assoc]
    exact List.Perm.append_left _ List.perm_append_comm
  rwa [List.take_append_drop] at h
end Go.Proofs.YtjghopepgfgebaaGreatDoor
