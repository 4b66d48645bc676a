/-
  The parts of a figure: labels of stars, joined line by line; the mathematics.
-/
import Derived.Test.YtfjhlapcopjfiaaPart0
import Derived.Test.YtfjhlapcopjfiaaFigV
namespace Go.Proofs.Ytfjhlapcopjfiaa
open Go.RowKit
set_option linter.unusedVariables false

/-- The label of a star behind the first j lines. -/
def lab (ls : List (List Int)) : Nat → Int → Int
  | 0, x => x
  | j + 1, x => if lab ls j x = lab ls j ((ls.getD j []).getD 1 0) then lab ls j ((ls.getD j []).getD 0 0) else lab ls j x
theorem lab_next (ls : List (List Int)) (j : Nat) (hj : j < ls.length) (a c : Int) (h : ls[j] = [a, c]) (x : Int) : lab ls (j + 1) x = if lab ls j x = lab ls j c then lab ls j a else lab ls j x := by
  show (if lab ls j x = lab ls j ((ls.getD j []).getD 1 0) then lab ls j ((ls.getD j []).getD 0 0) else lab ls j x) = _
  rw [getL_at ls j hj, h]
  rfl
theorem endsL_spec (ls : List (List Int)) : (endsL ls).Pairwise (· < ·) ∧ ∀ z, z ∈ endsL ls ↔ z ∈ ls.flatten := by
  have h := fold_sorted ls.flatten [] List.Pairwise.nil
  exact ⟨h.1, fun z => (h.2 z).trans (by simp)⟩
theorem nodup_lt {l : List Int} (h : l.Pairwise (· < ·)) : l.Nodup := h.imp (fun h => by omega)
theorem endsL_line (ls : List (List Int)) (j : Nat) (hj : j < ls.length) (a c : Int) (h : ls[j] = [a, c]) : a ∈ endsL ls ∧ c ∈ endsL ls := by
  have hm : ls[j] ∈ ls := List.getElem_mem hj
  rw [h] at hm
  exact ⟨((endsL_spec ls).2 a).2 (List.mem_flatten.2 ⟨_, hm, by simp⟩), ((endsL_spec ls).2 c).2 (List.mem_flatten.2 ⟨_, hm, by simp⟩)⟩

/-- Two lists without doubles and with the same members are of one length. -/
theorem len_same : ∀ (K L : List Int), K.Nodup → L.Nodup → (∀ x, x ∈ K ↔ x ∈ L) → K.length = L.length
  | [], L, _, _, h => by
    cases L with
    | nil => rfl
    | cons y L => exact absurd ((h y).2 (List.mem_cons_self ..)) (by simp)
  | k :: K, L, hk, hl, h => by
    have hm : k ∈ L := (h k).1 (List.mem_cons_self ..)
    have hn := (List.nodup_cons.1 hk).1
    have ih := len_same K (L.erase k) (List.nodup_cons.1 hk).2 (hl.erase k) (fun x => by
      rw [hl.mem_erase_iff, ← h x, List.mem_cons]
      constructor
      · intro hx
        exact ⟨fun e => hn (by rw [← e]; exact hx), Or.inr hx⟩
      · rintro ⟨hx, h1 | h1⟩
        · exact absurd h1 hx
        · exact h1)
    rw [List.length_cons, ih, List.length_erase_of_mem hm]
    have := List.length_pos_of_mem hm
    omega

/-- The parts so far: their names, and the stars of each. -/
structure PInv (E : List Int) (lb : Int → Int) (K : List Int) (C : Int → List Int) (N : Nat) : Prop where
  nodup : K.Nodup
  keys : ∀ k, k ∈ K ↔ ∃ x, x ∈ E ∧ lb x = k
  rows : ∀ k, k ∈ K → ∀ x, x ∈ C k ↔ x ∈ E ∧ lb x = k
  len : ∀ k, k ∈ K → (C k).length ≤ N
theorem PInv.start {E : List Int} (h : E.Nodup) : PInv E (fun x => x) E (fun k => [k]) 1 :=
  ⟨h, fun k => ⟨fun hk => ⟨k, hk, rfl⟩, fun ⟨x, hx, e⟩ => by rw [← e]; exact hx⟩, fun k hk x => ⟨fun hx => by rw [List.mem_singleton] at hx; rw [hx]; exact ⟨hk, rfl⟩, fun h => by rw [List.mem_singleton]; exact h.2⟩, fun k _ => Nat.le_refl _⟩
theorem PInv.join {E : List Int} {lb : Int → Int} {K : List Int} {C : Int → List Int} {N : Nat} (h : PInv E lb K C N) {a b : Int} (ha : a ∈ K) (hb : b ∈ K) (hne : a ≠ b) :
    PInv E (fun x => if lb x = b then a else lb x) (K.filter (fun y => decide (y ≠ b))) (fun k => if k = a then C a ++ C b else C k) (2 * N) := by
  refine ⟨h.nodup.filter _, fun k => ?_, fun k hk x => ?_, fun k hk => ?_⟩
  · rw [List.mem_filter, h.keys k]
    simp only [decide_eq_true_eq]
    constructor
    · rintro ⟨⟨x, hx, e⟩, hk⟩
      exact ⟨x, hx, by rw [if_neg (by rw [e]; exact hk)]; exact e⟩
    · rintro ⟨x, hx, e⟩
      by_cases c : lb x = b
      · rw [if_pos c] at e
        subst e
        exact ⟨(h.keys _).1 ha, hne⟩
      · rw [if_neg c] at e
        exact ⟨⟨x, hx, e⟩, by rw [← e]; exact c⟩
  · rw [List.mem_filter] at hk
    simp only [decide_eq_true_eq] at hk
    by_cases c : k = a
    · subst c
      rw [if_pos rfl, List.mem_append, h.rows k ha x, h.rows b hb x]
      by_cases d : lb x = b
      · rw [if_pos d]
        constructor
        · rintro (⟨h1, _⟩ | ⟨h1, _⟩) <;> exact ⟨h1, rfl⟩
        · rintro ⟨h1, _⟩; exact Or.inr ⟨h1, d⟩
      · rw [if_neg d]
        constructor
        · rintro (h1 | ⟨_, h2⟩)
          · exact h1
          · exact absurd h2 d
        · exact Or.inl
    · rw [if_neg c, h.rows k hk.1 x]
      by_cases d : lb x = b
      · rw [if_pos d]
        constructor
        · rintro ⟨_, h2⟩; exact absurd (h2.symm.trans d) hk.2
        · rintro ⟨_, h2⟩; exact absurd h2.symm c
      · rw [if_neg d]
  · rw [List.mem_filter] at hk
    have h1 := h.len a ha
    have h2 := h.len b hb
    by_cases c : k = a
    · rw [if_pos c, List.length_append]
      omega
    · rw [if_neg c]
      have := h.len k hk.1
      omega
theorem PInv.more {E : List Int} {lb : Int → Int} {K : List Int} {C : Int → List Int} {N M : Nat} (h : PInv E lb K C N) (hm : N ≤ M) : PInv E lb K C M := ⟨h.nodup, h.keys, h.rows, fun k hk => Nat.le_trans (h.len k hk) hm⟩
/-- How many parts a figure has. -/
def partN (ls : List (List Int)) : Nat := (((endsL ls).map (lab ls ls.length)).foldl putL []).length
theorem partN_eq {ls : List (List Int)} {K : List Int} {C : Int → List Int} {N : Nat} (h : PInv (endsL ls) (lab ls ls.length) K C N) : K.length = partN ls := by
  have hf := fold_sorted ((endsL ls).map (lab ls ls.length)) [] List.Pairwise.nil
  refine len_same _ _ h.nodup (nodup_lt hf.1) (fun x => ?_)
  rw [hf.2 x, h.keys x, List.mem_map]
  simp
def partV (zs : List StarV) (s : ByteArray) (ls : List (List Int)) : Int × Int := if figV zs s ls = true then ((partN ls : Int), 0) else (0, 1)
theorem figV_okP {zs : List StarV} {s : ByteArray} {ls : List (List Int)} (h : figV zs s ls = true) : okL zs = true ∧ ls.length ≤ 16 ∧ ∀ j, (hj : j < ls.length) → ∃ a c : Nat, ls[j] = [(a : Int), (c : Int)] ∧ a < zs.length ∧ c < zs.length ∧ a < c := by
  unfold figV figB linesB at h
  simp only [Bool.and_eq_true, decide_eq_true_eq] at h
  obtain ⟨h1, _, h2, h3⟩ := h
  refine ⟨h1, h3, fun j hj => ?_⟩
  have hl := okF_line _ ls _ j h2 hj
  rw [getL_at ls j hj] at hl
  obtain ⟨a, c, hac⟩ := lineB_two hl
  rw [hac] at hl ⊢
  have e : lineB (zs.length : Int) [a, c] = (inR 0 ((zs.length : Int) - 1) [a, c] && decide (a < c)) := rfl
  rw [e, inR_2] at hl
  simp only [Bool.and_eq_true, inR_1, decide_eq_true_eq] at hl
  exact ⟨a.toNat, c.toNat, by rw [Int.toNat_of_nonneg (by omega), Int.toNat_of_nonneg (by omega)], by omega, by omega, by omega⟩

/-- The two maps of FigureParts, and the rows of the second one. -/
structure PW (w0 wr : World) (B b1 b2 : Nat) (E : List Int) (lb : Int → Int) (K : List Int) (C : Int → List Int) (G cap : Int → Nat) : Prop where
  bel : Below B w0 wr
  size : B ≤ wr.heap.size
  ne : b1 ≠ b2
  lo : B ≤ b1 ∧ B ≤ b2
  p1 : IM wr b1 E (fun x => .int .i64 (lb x))
  p2 : IM wr b2 K (fun k => .slice (some ⟨G k, 0, none⟩) (C k).length (cap k))
  own : ∀ k, k ∈ K → wr.ownsRow B 2 1 (.slice (some ⟨G k, 0, none⟩) (C k).length (cap k)) (C k).length ((C k).map (Value.int .i64))
  dis : ∀ k k', k ∈ K → k' ∈ K → G k = G k' → k = k'
theorem own_gb {w w' : World} {B g n cap x : Nat} {e : TypeId} {xs : List Value} (h : w.ownsRow B e 1 (.slice (some ⟨g, 0, none⟩) n cap) n xs) (hg : w.grownBy w' (some x)) (hne : g ≠ x) : w'.ownsRow B e 1 (.slice (some ⟨g, 0, none⟩) n cap) n xs :=
  h.kept hg (Or.inr (fun e => hne (by simpa [Value.ownBlock] using e)))
theorem IM.gb {w w' : World} {b x : Nat} {K : List Int} {V : Int → Value} (h : IM w b K V) (hg : w.grownBy w' (some x)) (hne : b ≠ x) : IM w' b K V :=
  h.of_block (hg.block b h.lt (by simpa using hne))
theorem PW.drewN {w0 wr : World} {B b1 b2 : Nat} {E K : List Int} {lb : Int → Int} {C : Int → List Int} {G cap : Int → Nat} (h : PW w0 wr B b1 b2 E lb K C G cap) (n : Nat) : PW w0 (wr.drewN n) B b1 b2 E lb K C G cap :=
  ⟨⟨h.bel.os, h.bel.tape, h.bel.output, h.bel.size, h.bel.block⟩, h.size, h.ne, h.lo, h.p1, h.p2, h.own, h.dis⟩
/-- Below, kept over a world that makes or draws only. -/
theorem PW.below {w0 wr w' : World} {B b1 b2 : Nat} {E K : List Int} {lb : Int → Int} {C : Int → List Int} {G cap : Int → Nat} (h : PW w0 wr B b1 b2 E lb K C G cap) (hb : Below wr.heap.size wr w') : PW w0 w' B b1 b2 E lb K C G cap :=
  ⟨h.bel.trans (hb.mono h.size), Nat.le_trans h.size hb.size, h.ne, h.lo, h.p1.below hb, h.p2.below hb, fun k hk => (h.own k hk).kept (⟨hb.os, hb.tape, hb.output, hb.size, fun k hk _ => hb.block k hk⟩ : wr.grownBy w' none) (Or.inr (by simp [Value.ownBlock])), h.dis⟩
theorem PW.congr {w0 wr : World} {B b1 b2 : Nat} {E K : List Int} {lb lb' : Int → Int} {C C' : Int → List Int} {G cap : Int → Nat} (h : PW w0 wr B b1 b2 E lb K C G cap) (e1 : ∀ x, x ∈ E → lb x = lb' x) (e2 : ∀ k, k ∈ K → C k = C' k) : PW w0 wr B b1 b2 E lb' K C' G cap :=
  ⟨h.bel, h.size, h.ne, h.lo, h.p1.congr (fun x hx => by rw [e1 x hx]), h.p2.congr (fun k hk => by rw [e2 k hk]), fun k hk => by rw [← e2 k hk]; exact h.own k hk, h.dis⟩
end Go.Proofs.Ytfjhlapcopjfiaa
