/-
  Cues: when one is valid, which one stands before another, and when a list is valid.
-/
import Derived.Test.YtfloppjkfcbgiaaCueR
import Derived.Test.YtfloppjkfcbgiaaNam
import Derived.Test.YtfloppjkfcbgiaaSMap
namespace Go.Proofs.Ytfloppjkfcbgiaa.Cue
open Go.RowKit
open Sm (memS)
set_option linter.unusedVariables false

/-- What an action asks of a time, a length and a level. -/
def actB (t l a v : Int) : Bool := if a = 1 then decide (l = 0) else if a = 2 then inR 1 (7200000 - t) [l] else if a = 3 then decide (l = 0) && decide (v = 0) else false
def cueB (x0 : ByteArray) (x1 x2 : Int) (x3 : ByteArray) (x4 x5 : Int) : Bool := nameB x0.data.toList && (nameB x3.data.toList && (inR 0 7200000 [x1] && (inR 0 1000 [x5] && actB x1 x2 x4 x5)))
def V.good (x : V) : Bool := cueB x.f0 x.f1 x.f2 x.f3 x.f4 x.f5
/-- The texts are no longer than texts can be. -/
def V.txt (x : V) : Prop := x.f0.size ≤ maxLen ∧ x.f3.size ≤ maxLen
theorem V.ok.txt {x : V} (h : x.ok) : x.txt := ⟨h.1, h.2.2.2.1⟩
theorem good_bd {x : V} (h : x.good = true) : (0 ≤ x.f1 ∧ x.f1 ≤ 7200000) ∧ (0 ≤ x.f2 ∧ x.f1 + x.f2 ≤ 7200000) ∧ (0 ≤ x.f5 ∧ x.f5 ≤ 1000) ∧ (x.f4 = 1 ∧ x.f2 = 0 ∨ x.f4 = 2 ∧ 1 ≤ x.f2 ∨ x.f4 = 3 ∧ x.f2 = 0 ∧ x.f5 = 0) := by
  unfold V.good cueB actB at h
  simp only [Bool.and_eq_true, inR_1] at h
  obtain ⟨_, _, h1, h5, ha⟩ := h
  by_cases c1 : x.f4 = 1
  · rw [if_pos c1] at ha
    simp only [decide_eq_true_eq] at ha
    omega
  · rw [if_neg c1] at ha
    by_cases c2 : x.f4 = 2
    · rw [if_pos c2, inR_1] at ha
      omega
    · rw [if_neg c2] at ha
      by_cases c3 : x.f4 = 3
      · rw [if_pos c3] at ha
        simp only [Bool.and_eq_true, decide_eq_true_eq] at ha
        omega
      · rw [if_neg c3] at ha
        cases ha
def ltS (s t : ByteArray) : Bool := Op.bytesLess s.toList t.toList
/-- One stands before another. -/
def befC (x y : V) : Bool := decide (x.f1 < y.f1) || (decide (x.f1 = y.f1) && ltS x.f0 y.f0)
theorem ne_text {x y : ByteArray} (h : x ≠ y) : (x.toList == y.toList) = false := by
  rw [ByteArray.toList_eq, ByteArray.toList_eq]
  exact beq_eq_false_iff_ne.2 (fun e => h (ByteArray.ext (Array.toList_inj.mp e)))
/-- What cmp.Compare answers. -/
def cmpS (x y : ByteArray) : Int := if Op.bytesLess x.toList y.toList = true then -1 else if (x.toList == y.toList) = true then 0 else 1
def cmpI (a b : Int) : Int := if a < b then -1 else if b < a then 1 else 0
def cmpC (x y : V) : Int := if cmpI x.f1 y.f1 = 0 then cmpS x.f0 y.f0 else cmpI x.f1 y.f1
theorem cmpS_lt (x y : ByteArray) : (cmpS x y < 0) ↔ Op.bytesLess x.toList y.toList = true := by
  unfold cmpS
  cases Op.bytesLess x.toList y.toList with
  | true => simp
  | false => cases (x.toList == y.toList) <;> simp
theorem cmpC_lt (x y : V) : (cmpC x y < 0) ↔ befC x y = true := by
  unfold cmpC befC ltS
  rw [Bool.or_eq_true, Bool.and_eq_true, decide_eq_true_eq, decide_eq_true_eq, ← cmpS_lt]
  unfold cmpI
  by_cases c1 : x.f1 < y.f1
  · simp [c1]
  · by_cases c2 : y.f1 < x.f1
    · rw [if_neg c1, if_pos c2, if_neg (by omega)]
      constructor
      · intro h; omega
      · intro h; omega
    · rw [if_neg c1, if_neg c2, if_pos rfl]
      constructor
      · intro h; exact Or.inr ⟨by omega, h⟩
      · rintro (h | ⟨_, h⟩)
        · exact absurd h c1
        · exact h

def stepB (zs : List V) (j : Nat) : Bool := (zs.getD j zero).good && (j == 0 || befC (zs.getD (j - 1) zero) (zs.getD j zero))
def okZ (zs : List V) (j : Nat) : Bool := (List.range j).all (stepB zs)
/-- All valid, each behind the one before, no more than 32. -/
def incB (zs : List V) : Bool := okZ zs zs.length && decide (zs.length ≤ 32)
theorem okZ_next (zs : List V) (j : Nat) : okZ zs (j + 1) = (okZ zs j && stepB zs j) := by
  unfold okZ
  rw [List.range_succ, List.all_append]
  simp
theorem okZ_stop (zs : List V) (j : Nat) (h : j < zs.length) (hs : stepB zs j = false) : incB zs = false := by
  unfold incB okZ
  have : (List.range zs.length).all (stepB zs) = false := by
    rw [List.all_eq_false]
    exact ⟨j, List.mem_range.2 h, by rw [hs]; simp⟩
  rw [this, Bool.false_and]
theorem stepB_zero (zs : List V) : stepB zs 0 = (zs.getD 0 zero).good := by simp [stepB]
theorem stepB_succ (zs : List V) (k : Nat) : stepB zs (k + 1) = ((zs.getD (k + 1) zero).good && befC (zs.getD k zero) (zs.getD (k + 1) zero)) := by simp [stepB]
theorem stepB_pos (zs : List V) (j k : Nat) (h : j = k + 1) : stepB zs j = ((zs.getD j zero).good && befC (zs.getD k zero) (zs.getD j zero)) := by subst h; exact stepB_succ zs k

/-- The names that were met, each once. -/
def keysN (zs : List V) : Nat → List ByteArray
  | 0 => []
  | j + 1 => if (zs.getD j zero).f0 ∈ keysN zs j then keysN zs j else keysN zs j ++ [(zs.getD j zero).f0]
/-- Where a name was met last. -/
def valN (zs : List V) : Nat → ByteArray → Nat
  | 0, _ => 0
  | j + 1, y => if y = (zs.getD j zero).f0 then j else valN zs j y
theorem keysN_nodup (zs : List V) : ∀ j, (keysN zs j).Nodup
  | 0 => List.nodup_nil
  | j + 1 => by
    unfold keysN
    split
    · exact keysN_nodup zs j
    · rename_i h
      rw [List.nodup_append]
      refine ⟨keysN_nodup zs j, by simp, ?_⟩
      intro a ha b hb e
      simp only [List.mem_cons, List.not_mem_nil, or_false] at hb
      subst hb
      exact h (e ▸ ha)
theorem keysN_len (zs : List V) : ∀ j, (keysN zs j).length ≤ j
  | 0 => Nat.le_refl _
  | j + 1 => by
    unfold keysN
    have := keysN_len zs j
    split
    · omega
    · rw [List.length_append, List.length_cons, List.length_nil]; omega
theorem keysN_mem (zs : List V) (y : ByteArray) : ∀ j, y ∈ keysN zs j ↔ ∃ i, i < j ∧ (zs.getD i zero).f0 = y
  | 0 => ⟨fun h => (by cases h), fun ⟨i, h, _⟩ => absurd h (Nat.not_lt_zero _)⟩
  | j + 1 => by
    have ih := keysN_mem zs y j
    have step : y ∈ keysN zs (j + 1) ↔ y ∈ keysN zs j ∨ (zs.getD j zero).f0 = y := by
      show y ∈ (if (zs.getD j zero).f0 ∈ keysN zs j then keysN zs j else keysN zs j ++ [(zs.getD j zero).f0]) ↔ _
      split
      · rename_i h
        exact ⟨Or.inl, fun h2 => h2.elim id (fun e => e ▸ h)⟩
      · rw [List.mem_append, List.mem_cons]
        simp only [List.not_mem_nil, or_false]
        exact ⟨fun h => h.imp id Eq.symm, fun h => h.imp id Eq.symm⟩
    rw [step, ih]
    constructor
    · rintro (⟨i, h1, h2⟩ | h)
      · exact ⟨i, by omega, h2⟩
      · exact ⟨j, by omega, h⟩
    · rintro ⟨i, h1, h2⟩
      by_cases c : i = j
      · subst c; exact Or.inr h2
      · exact Or.inl ⟨i, by omega, h2⟩
/-- A name that none before it has. -/
def newB (zs : List V) (i : Nat) : Bool := !decide ((zs.getD i zero).f0 ∈ keysN zs i)
def dstZ (zs : List V) (j : Nat) : Bool := (List.range j).all (newB zs)
theorem dstZ_next (zs : List V) (j : Nat) : dstZ zs (j + 1) = (dstZ zs j && newB zs j) := by
  unfold dstZ
  rw [List.range_succ, List.all_append]
  simp
theorem keysN_all (zs : List V) : ∀ j, decide ((keysN zs j).length = j) = dstZ zs j
  | 0 => rfl
  | j + 1 => by
    have ih := keysN_all zs j
    have hl := keysN_len zs j
    rw [dstZ_next, ← ih]
    unfold newB
    show decide ((if (zs.getD j zero).f0 ∈ keysN zs j then keysN zs j else keysN zs j ++ [(zs.getD j zero).f0]).length = j + 1) = _
    split
    · rename_i h
      rw [decide_eq_false (by omega), decide_eq_true h, Bool.not_true, Bool.and_false]
    · rename_i h
      rw [List.length_append, List.length_cons, List.length_nil, decide_eq_false h, Bool.not_false, Bool.and_true, decide_eq_decide]
      omega
theorem keysN_len_eq (zs : List V) : ((((keysN zs zs.length).length : Nat) : Int) == ((zs.length : Nat) : Int)) = dstZ zs zs.length := by
  rw [← keysN_all, Bool.eq_iff_iff, beq_iff_eq, decide_eq_true_eq]
  omega
/-- A valid list. -/
def cuesB (zs : List V) : Bool := incB zs && dstZ zs zs.length
/-- The specification's rounds. -/
def stepS (zs : List V) (j : Nat) : Bool := (zs.getD j zero).good && (newB zs j && (j == 0 || befC (zs.getD (j - 1) zero) (zs.getD j zero)))
def okS (zs : List V) (j : Nat) : Bool := (List.range j).all (stepS zs)
theorem okS_next (zs : List V) (j : Nat) : okS zs (j + 1) = (okS zs j && stepS zs j) := by
  unfold okS
  rw [List.range_succ, List.all_append]
  simp
theorem okS_eq (zs : List V) : ∀ j, okS zs j = (okZ zs j && dstZ zs j)
  | 0 => rfl
  | j + 1 => by
    rw [okS_next, okZ_next, dstZ_next, okS_eq zs j]
    unfold stepS stepB
    cases okZ zs j <;> cases dstZ zs j <;> cases (zs.getD j zero).good <;> cases newB zs j <;> simp
theorem cuesB_S (zs : List V) : cuesB zs = (okS zs zs.length && decide (zs.length ≤ 32)) := by
  rw [okS_eq]
  unfold cuesB incB
  cases okZ zs zs.length <;> cases dstZ zs zs.length <;> cases decide (zs.length ≤ 32) <;> rfl
theorem okS_stop (zs : List V) (j : Nat) (h : j < zs.length) (hs : stepS zs j = false) : cuesB zs = false := by
  rw [cuesB_S]
  unfold okS
  have : (List.range zs.length).all (stepS zs) = false := by
    rw [List.all_eq_false]
    exact ⟨j, List.mem_range.2 h, by rw [hs]; simp⟩
  rw [this, Bool.false_and]
theorem cuesB_len {zs : List V} (h : cuesB zs = true) : zs.length ≤ 32 := by
  unfold cuesB incB at h
  simp only [Bool.and_eq_true, decide_eq_true_eq] at h
  exact h.1.2
theorem cuesB_good {zs : List V} (h : cuesB zs = true) (j : Nat) (hj : j < zs.length) : (zs.getD j zero).good = true := by
  unfold cuesB incB okZ at h
  simp only [Bool.and_eq_true, decide_eq_true_eq, List.all_eq_true, List.mem_range] at h
  have := h.1.1 j hj
  unfold stepB at this
  simp only [Bool.and_eq_true] at this
  exact this.1
theorem cuesB_new {zs : List V} (h : cuesB zs = true) (j : Nat) (hj : j < zs.length) : (zs.getD j zero).f0 ∉ keysN zs j := by
  unfold cuesB dstZ at h
  simp only [Bool.and_eq_true, List.all_eq_true, List.mem_range] at h
  have := h.2 j hj
  unfold newB at this
  simpa using this
theorem cuesB_ids {zs : List V} (h : cuesB zs = true) (i j : Nat) (hij : i < j) (hj : j < zs.length) : (zs.getD i zero).f0 ≠ (zs.getD j zero).f0 := fun e =>
  cuesB_new h j hj ((keysN_mem zs _ j).2 ⟨i, hij, e⟩)
theorem cuesB_bef {zs : List V} (h : cuesB zs = true) (j : Nat) (hj : j + 1 < zs.length) : befC (zs.getD j zero) (zs.getD (j + 1) zero) = true := by
  unfold cuesB incB okZ at h
  simp only [Bool.and_eq_true, decide_eq_true_eq, List.all_eq_true, List.mem_range] at h
  have := h.1.1 (j + 1) hj
  rw [stepB_succ] at this
  simp only [Bool.and_eq_true] at this
  exact this.2
theorem befC_time {x y : V} (h : befC x y = true) : x.f1 ≤ y.f1 := by
  unfold befC at h
  simp only [Bool.or_eq_true, Bool.and_eq_true, decide_eq_true_eq] at h
  omega
theorem cuesB_time {zs : List V} (h : cuesB zs = true) (i j : Nat) (hij : i ≤ j) (hj : j < zs.length) : (zs.getD i zero).f1 ≤ (zs.getD j zero).f1 := by
  obtain ⟨d, rfl⟩ : ∃ d, j = i + d := ⟨j - i, by omega⟩
  induction d with
  | zero => exact Int.le_refl _
  | succ d ih =>
    have h1 := ih (by omega) (by omega)
    have h2 := befC_time (cuesB_bef h (i + d) (by omega))
    exact Int.le_trans h1 h2
/-- The place of a name in a list; its length if there is none. -/
def fndS (zs : List V) (s : ByteArray) : Nat := zs.findIdx (fun x => decide (x.f0 = s))
theorem fndS_at {zs : List V} {s : ByteArray} (j : Nat) (hj : j < zs.length) (h : zs[j].f0 = s) (hb : ∀ i, (hi : i < zs.length) → i < j → zs[i].f0 ≠ s) : fndS zs s = j :=
  (List.findIdx_eq hj).2 ⟨decide_eq_true h, fun i hi => decide_eq_false (hb i (by omega) hi)⟩
theorem fndS_no {zs : List V} {s : ByteArray} (hb : ∀ i, (hi : i < zs.length) → zs[i].f0 ≠ s) : fndS zs s = zs.length :=
  List.findIdx_eq_length.2 fun x hx => by
    obtain ⟨i, hi, rfl⟩ := List.mem_iff_getElem.1 hx
    exact decide_eq_false (hb i hi)
theorem fndS_le (zs : List V) (s : ByteArray) : fndS zs s ≤ zs.length := List.findIdx_le_length
theorem fndS_is {zs : List V} {s : ByteArray} (h : fndS zs s < zs.length) : zs[fndS zs s].f0 = s := of_decide_eq_true (List.findIdx_getElem (w := h))
theorem fndS_not {zs : List V} {s : ByteArray} (h : ¬ fndS zs s < zs.length) (i : Nat) (hi : i < zs.length) : zs[i].f0 ≠ s := by
  intro e
  exact h (List.findIdx_lt_length_of_exists ⟨zs[i], List.getElem_mem hi, decide_eq_true e⟩)
theorem fndS_first {zs : List V} {s : ByteArray} (i : Nat) (hi : i < zs.length) (h : i < fndS zs s) : zs[i].f0 ≠ s := of_decide_eq_false (by
  have := List.not_of_lt_findIdx h
  simpa using this)
def fndI (zs : List V) (s : ByteArray) : Int := if fndS zs s < zs.length then (fndS zs s : Int) else -1
theorem fndI_at {zs : List V} {s : ByteArray} (j : Nat) (hj : j < zs.length) (h : zs[j].f0 = s) (hb : ∀ i, (hi : i < zs.length) → i < j → zs[i].f0 ≠ s) : fndI zs s = (j : Int) := by
  unfold fndI
  rw [fndS_at j hj h hb, if_pos hj]
theorem fndI_no {zs : List V} {s : ByteArray} (hb : ∀ i, (hi : i < zs.length) → zs[i].f0 ≠ s) : fndI zs s = -1 := by
  unfold fndI
  rw [fndS_no hb, if_neg (Nat.lt_irrefl _)]
/-- Whether a name was met is whether its first place is lower. -/
theorem newB_fnd (zs : List V) (j : Nat) (hj : j < zs.length) : newB zs j = !decide (fndI zs (zs.getD j zero).f0 < (j : Int)) := by
  unfold newB
  have hf : fndS zs (zs.getD j zero).f0 < zs.length := List.findIdx_lt_length_of_exists ⟨zs[j], List.getElem_mem hj, by rw [getD_at zs j hj]; simp⟩
  congr 1
  rw [decide_eq_decide, keysN_mem]
  unfold fndI
  rw [if_pos hf]
  constructor
  · rintro ⟨i, h1, h2⟩
    have : ¬ i < fndS zs (zs.getD j zero).f0 := fun h => fndS_first i (by omega) h (by rw [← getD_at zs i (by omega)]; exact h2)
    omega
  · intro h
    exact ⟨fndS zs (zs.getD j zero).f0, by omega, by rw [getD_at zs _ hf]; exact fndS_is hf⟩
theorem valN_last (zs : List V) (y : ByteArray) (k : Nat) (hk : (zs.getD k zero).f0 = y) : ∀ j, k < j → (∀ i, k < i → i < j → (zs.getD i zero).f0 ≠ y) → valN zs j y = k
  | 0, h, _ => absurd h (Nat.not_lt_zero _)
  | j + 1, h, hd => by
    show (if y = (zs.getD j zero).f0 then j else valN zs j y) = k
    by_cases c : j = k
    · subst c; rw [if_pos hk.symm]
    · rw [if_neg (fun e => hd j (by omega) (by omega) e.symm)]
      exact valN_last zs y k hk j (by omega) (fun i h1 h2 => hd i h1 (by omega))
theorem valN_fnd {zs : List V} (h : cuesB zs = true) (y : ByteArray) (hf : fndS zs y < zs.length) : valN zs zs.length y = fndS zs y := by
  have hk : (zs.getD (fndS zs y) zero).f0 = y := by rw [getD_at zs _ hf]; exact fndS_is hf
  exact valN_last zs y _ hk zs.length hf (fun i h1 h2 e => cuesB_ids h _ i h1 h2 (by rw [hk, e]))
theorem keysN_fnd (zs : List V) (y : ByteArray) : y ∈ keysN zs zs.length ↔ fndS zs y < zs.length := by
  rw [keysN_mem]
  constructor
  · rintro ⟨i, h1, h2⟩
    exact List.findIdx_lt_length_of_exists ⟨zs[i], List.getElem_mem h1, decide_eq_true (by rw [← getD_at zs i h1]; exact h2)⟩
  · intro h
    exact ⟨_, h, by rw [getD_at zs _ h]; exact fndS_is h⟩
end Go.Proofs.Ytfloppjkfcbgiaa.Cue
