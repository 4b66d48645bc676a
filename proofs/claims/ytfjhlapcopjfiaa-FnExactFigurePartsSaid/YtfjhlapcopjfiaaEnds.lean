/-
  The stars of a figure: lists without repetitions in increasing order; the contracts of l00Put, l08Stars (package spec).
-/
import Derived.Test.YtfjhlapcopjfiaaFigI
import Derived.Test.YtfjhlapcopjfiaaKeep
import Derived.Deep.OwnRows
import Derived.Lib.SlicesCompact
import Derived.Deep.LoopGhost
namespace Go.Proofs.Ytfjhlapcopjfiaa
open Go.RowKit Go.Lib
set_option linter.unusedVariables false

def putL : List Int → Int → List Int
  | [], x => [x]
  | y :: ys, x => if y < x then y :: putL ys x else if y = x then y :: ys else x :: y :: ys
theorem putL_mem (xs : List Int) (x z : Int) : z ∈ putL xs x ↔ z ∈ xs ∨ z = x := by
  induction xs with
  | nil => simp [putL]
  | cons y ys ih =>
    unfold putL
    split
    · rw [List.mem_cons, ih, List.mem_cons, or_assoc]
    · split
      · rename_i h
        subst h
        simp only [List.mem_cons]
        constructor
        · intro h; exact Or.inl h
        · rintro (h | h)
          · exact h
          · exact Or.inl h
      · simp only [List.mem_cons]
        constructor
        · rintro (h | h | h)
          · exact Or.inr h
          · exact Or.inl (Or.inl h)
          · exact Or.inl (Or.inr h)
        · rintro ((h | h) | h)
          · exact Or.inr (Or.inl h)
          · exact Or.inr (Or.inr h)
          · exact Or.inl h
theorem putL_sorted (xs : List Int) (x : Int) (h : xs.Pairwise (· < ·)) : (putL xs x).Pairwise (· < ·) := by
  induction xs with
  | nil => simp [putL]
  | cons y ys ih =>
    rw [List.pairwise_cons] at h
    unfold putL
    split
    · rename_i hy
      rw [List.pairwise_cons]
      refine ⟨fun z hz => ?_, ih h.2⟩
      rcases (putL_mem ys x z).1 hz with h1 | h1
      · exact h.1 z h1
      · rw [h1]; exact hy
    · split
      · rw [List.pairwise_cons]; exact h
      · rename_i h1 h2
        rw [List.pairwise_cons, List.pairwise_cons]
        refine ⟨fun z hz => ?_, h⟩
        rcases List.mem_cons.1 hz with h3 | h3
        · rw [h3]; omega
        · have := h.1 z h3; omega
theorem uniqS (l1 l2 : List Int) (h1 : l1.Pairwise (· < ·)) (h2 : l2.Pairwise (· < ·)) (h : ∀ z, z ∈ l1 ↔ z ∈ l2) : l1 = l2 := by
  induction l1 generalizing l2 with
  | nil =>
    cases l2 with
    | nil => rfl
    | cons y ys => exact absurd ((h y).2 List.mem_cons_self) (by simp)
  | cons x xs ih =>
    cases l2 with
    | nil => exact absurd ((h x).1 List.mem_cons_self) (by simp)
    | cons y ys =>
      rw [List.pairwise_cons] at h1 h2
      have hxy : x = y := by
        rcases List.mem_cons.1 ((h x).1 List.mem_cons_self) with e | e
        · exact e
        · rcases List.mem_cons.1 ((h y).2 List.mem_cons_self) with e' | e'
          · exact e'.symm
          · have a := h2.1 x e
            have b := h1.1 y e'
            omega
      subst hxy
      congr 1
      refine ih ys h1.2 h2.2 (fun z => ⟨fun hz => ?_, fun hz => ?_⟩)
      · rcases List.mem_cons.1 ((h z).1 (List.mem_cons_of_mem _ hz)) with e | e
        · have := h1.1 z hz; omega
        · exact e
      · rcases List.mem_cons.1 ((h z).2 (List.mem_cons_of_mem _ hz)) with e | e
        · have := h2.1 z hz; omega
        · exact e
theorem fold_sorted (zs : List Int) : ∀ (xs : List Int), xs.Pairwise (· < ·) → (zs.foldl putL xs).Pairwise (· < ·) ∧ ∀ z, z ∈ zs.foldl putL xs ↔ z ∈ xs ∨ z ∈ zs := by
  induction zs with
  | nil => intro xs h; exact ⟨h, fun z => by simp⟩
  | cons y ys ih =>
    intro xs h
    obtain ⟨a, b⟩ := ih (putL xs y) (putL_sorted xs y h)
    refine ⟨a, fun z => ?_⟩
    rw [List.foldl_cons, b, putL_mem, List.mem_cons, or_assoc]
theorem compact_ok (d : Array Int) (hs : ∀ i j, i ≤ j → j < d.size → d[i]! ≤ d[j]!) (m : Nat) (hm : m ≤ d.size) :
    (compactUpTo d m).Pairwise (· < ·) ∧ ∀ z, z ∈ compactUpTo d m ↔ ∃ j, j < m ∧ d[j]! = z := by
  induction m with
  | zero => exact ⟨by simp [compactUpTo], fun z => by simp [compactUpTo]⟩
  | succ m ih =>
    obtain ⟨a, b⟩ := ih (by omega)
    rw [compactUpTo_succ]
    by_cases h0 : m = 0
    · subst h0
      have e : compactUpTo d 0 = [] := by simp [compactUpTo]
      have k : keeps d 0 = true := keeps_lt_one d 0 (by omega)
      rw [e, k]
      refine ⟨by simp, fun z => ?_⟩
      simp only [if_true, List.nil_append, List.mem_singleton]
      constructor
      · intro h; exact ⟨0, by omega, h.symm⟩
      · rintro ⟨j, hj, h⟩
        obtain rfl : j = 0 := by omega
        exact h.symm
    · by_cases hk : d[m]! = d[m - 1]!
      · rw [keeps_neg (by omega) hk]
        simp only [Bool.false_eq_true, if_false, List.append_nil]
        refine ⟨a, fun z => ?_⟩
        rw [b]
        constructor
        · rintro ⟨j, hj, h⟩; exact ⟨j, by omega, h⟩
        · rintro ⟨j, hj, h⟩
          by_cases c : j = m
          · subst c; exact ⟨j - 1, by omega, by rw [← hk]; exact h⟩
          · exact ⟨j, by omega, h⟩
      · rw [keeps_pos hk]
        simp only [if_true]
        refine ⟨?_, fun z => ?_⟩
        · rw [List.pairwise_append]
          refine ⟨a, by simp, fun x hx y hy => ?_⟩
          obtain ⟨j, hj, h⟩ := (b x).1 hx
          rw [List.mem_singleton] at hy
          have h1 := hs j (m - 1) (by omega) (by omega)
          have h2 := hs (m - 1) m (by omega) (by omega)
          rw [hy, ← h]
          omega
        · rw [List.mem_append, b, List.mem_singleton]
          constructor
          · rintro (⟨j, hj, h⟩ | h)
            · exact ⟨j, by omega, h⟩
            · exact ⟨m, by omega, h.symm⟩
          · rintro ⟨j, hj, h⟩
            by_cases c : j = m
            · subst c; exact Or.inr h.symm
            · exact Or.inl ⟨j, by omega, h⟩
theorem ends_eq (zs : List Int) : compact (zs.mergeSort fun x y => decide (x ≤ y)) = zs.foldl putL [] := by
  have hsort : (zs.mergeSort fun x y => decide (x ≤ y)).Pairwise (· ≤ ·) := by
    have h := List.pairwise_mergeSort (le := fun x y : Int => decide (x ≤ y)) (fun a b c h1 h2 => by simp at *; omega) (fun a b => by simp; omega) zs
    exact h.imp (fun h => by simpa using h)
  have hmem : ∀ z, z ∈ (zs.mergeSort fun x y => decide (x ≤ y)) ↔ z ∈ zs := fun z => (List.mergeSort_perm zs _).mem_iff
  generalize (zs.mergeSort fun x y => decide (x ≤ y)) = ys at *
  have hget : ∀ j (h : j < ys.length), ys.toArray[j]! = ys[j] := fun j h => by simp [h]
  obtain ⟨a, b⟩ := compact_ok ys.toArray (fun i j hij hj => by
    have hj' : j < ys.length := by simpa using hj
    rw [hget i (by omega), hget j hj']
    rcases Nat.lt_or_ge i j with c | c
    · exact List.pairwise_iff_getElem.1 hsort i j (by omega) hj' c
    · obtain rfl : i = j := by omega
      exact Int.le_refl _) ys.length (by simp)
  obtain ⟨c, d⟩ := fold_sorted zs [] List.Pairwise.nil
  refine uniqS _ _ a c (fun z => ?_)
  show z ∈ compactUpTo ys.toArray ys.length ↔ _
  rw [b, d, ← hmem z]
  simp only [List.not_mem_nil, false_or]
  constructor
  · rintro ⟨j, hj, h⟩
    rw [hget j hj] at h
    rw [← h]
    exact List.getElem_mem hj
  · intro h
    obtain ⟨j, hj, h⟩ := List.mem_iff_getElem.1 h
    exact ⟨j, hj, by rw [hget j hj]; exact h⟩

theorem own_belowE {B : Nat} {w0 w w1 : World} {e : TypeId} {v : Value} {n : Nat} {xs : List Value} {o : Obj} (hown : w.ownsRow B e 1 v n xs) (hb : Below B w0 w) (hB : B ≤ w.heap.size)
    (hg : (w.alloc o).grownBy w1 v.ownBlock) : Below B w0 w1 ∧ B ≤ w1.heap.size := by
  refine ⟨(hb.alloc hB o).grown hg (by simp; omega) (fun k hk => (hown.lt k hk).1), ?_⟩
  have := hg.size
  simp at this
  omega
theorem one_cellE (w : World) (T : TypeId) (c : Int) : ∀ (j : Nat) u, [Value.int .i64 c][j]? = some u → (w.alloc (.cells #[.int .i64 c] T)).cell? ((⟨w.heap.size, 0, none⟩ : Addr).add j) = some u := by
  intro j u hj
  match j, hj with
  | 0, hj => simp at hj; subst hj; simp [Addr.add]
theorem one_plainE (c : Int) : ∀ u ∈ [Value.int .i64 c], u.oneCell' = true := by
  intro u hu
  simp at hu
  subst hu
  rfl
theorem ownsRow_belowE {B : Nat} {w w' : World} {e : TypeId} {v : Value} {n : Nat} {xs : List Value} (h : w.ownsRow B e 1 v n xs) (hb : Below w.heap.size w w') : w'.ownsRow B e 1 v n xs :=
  h.kept (⟨hb.os, hb.tape, hb.output, hb.size, fun k hk _ => hb.block k hk⟩ : w.grownBy w' none) (by cases hv : v.ownBlock <;> simp)

/-- One step of putting a number into a list. -/
def stepP (x : Int) (s : List Int × Bool) (y : Int) : List Int × Bool := if s.2 = false ∧ x ≤ y then ((if x < y then s.1 ++ [x] else s.1) ++ [y], true) else (s.1 ++ [y], s.2)
theorem stepP_true (x : Int) (ys : List Int) : ∀ o, ys.foldl (stepP x) (o, true) = (o ++ ys, true) := by
  induction ys with
  | nil => intro o; simp
  | cons y ys ih =>
    intro o
    rw [List.foldl_cons]
    have e : stepP x (o, true) y = (o ++ [y], true) := by unfold stepP; simp
    rw [e, ih, List.append_assoc]
    rfl
theorem stepP_false (x : Int) (ys : List Int) : ∀ o, (ys.foldl (stepP x) (o, false)).2 = true ∧ (ys.foldl (stepP x) (o, false)).1 = o ++ putL ys x ∨ (ys.foldl (stepP x) (o, false)).2 = false ∧ (ys.foldl (stepP x) (o, false)).1 ++ [x] = o ++ putL ys x := by
  induction ys with
  | nil => intro o; right; simp [putL]
  | cons y ys ih =>
    intro o
    rw [List.foldl_cons]
    by_cases h : x ≤ y
    · left
      have e : stepP x (o, false) y = ((if x < y then o ++ [x] else o) ++ [y], true) := by unfold stepP; simp [h]
      rw [e, stepP_true]
      refine ⟨rfl, ?_⟩
      have ep : putL (y :: ys) x = if y = x then y :: ys else x :: y :: ys := by rw [putL, if_neg (by omega)]
      show (if x < y then o ++ [x] else o) ++ [y] ++ ys = _
      rw [ep]
      by_cases c : x < y
      · rw [if_pos c, if_neg (by omega)]
        simp
      · rw [if_neg c, if_pos (by omega)]
        simp
    · have e : stepP x (o, false) y = (o ++ [y], false) := by unfold stepP; simp [h]
      rw [e]
      have ep : putL (y :: ys) x = y :: putL ys x := by rw [putL, if_pos (by omega)]
      rcases ih (o ++ [y]) with ⟨a, b⟩ | ⟨a, b⟩
      · left; exact ⟨a, by rw [b, ep]; simp⟩
      · right; exact ⟨a, by rw [b, ep]; simp⟩
def putS (xs : List Int) (x : Int) (j : Nat) : List Int × Bool := (xs.take j).foldl (stepP x) ([], false)
theorem putS_next (xs : List Int) (x : Int) (j : Nat) (h : j < xs.length) : putS xs x (j + 1) = stepP x (putS xs x j) xs[j] := by
  unfold putS
  rw [List.take_succ_eq_append_getElem h, List.foldl_append]
  rfl
theorem putS_end (xs : List Int) (x : Int) : putL xs x = if (putS xs x xs.length).2 = true then (putS xs x xs.length).1 else (putS xs x xs.length).1 ++ [x] := by
  unfold putS
  rw [List.take_length]
  rcases stepP_false x xs [] with ⟨a, b⟩ | ⟨a, b⟩
  · rw [a, if_pos rfl, b]; rfl
  · rw [a, if_neg (by simp), b]; rfl
theorem putL_len (xs : List Int) (x : Int) : (putL xs x).length ≤ xs.length + 1 := by
  induction xs with
  | nil => simp [putL]
  | cons y ys ih =>
    unfold putL
    split
    · simp only [List.length_cons]; omega
    · split <;> simp
theorem stepP_len (x : Int) (ys : List Int) : ∀ s, (ys.foldl (stepP x) s).1.length ≤ s.1.length + 2 * ys.length := by
  induction ys with
  | nil => intro s; simp
  | cons y ys ih =>
    intro s
    rw [List.foldl_cons]
    have h := ih (stepP x s y)
    have h2 : (stepP x s y).1.length ≤ s.1.length + 2 := by
      unfold stepP
      split
      · simp only [List.length_append, List.length_cons, List.length_nil]
        split <;> simp
      · simp
    simp only [List.length_cons]
    omega
theorem putS_len (xs : List Int) (x : Int) (j : Nat) (h : xs.length ≤ 1000) : (putS xs x j).1.length ≤ 2000 := by
  have h1 := stepP_len x (xs.take j) ([], false)
  have h2 : (xs.take j).length ≤ 1000 := by rw [List.length_take]; omega
  unfold putS
  simp only [List.length_nil] at h1
  omega

/-- The call returned a slice of its own with these numbers. -/
def OwnPost (zs : List Int) (w : World) (e : Ending) (w' : World) : Prop :=
  ∃ v, e = .returned v ∧ w'.ownsRow w.heap.size 2 1 v zs.length (zs.map (Value.int .i64)) ∧ Below w.heap.size w w'

set_option maxRecDepth 100000 in
set_option maxHeartbeats 4000000 in
theorem l00Put_any (a : Option Addr) (cap : Nat) (xs : List Int) (x : Int) (w : World) (hl : xs.length ≤ 1000) (hg : xs.length = 0 ∨ ∃ g, a = some ⟨g, 0, none⟩ ∧ g < w.heap.size ∧ ∀ j, (h : j < xs.length) → w.cell? ⟨g, j, none⟩ = some (.int .i64 xs[j])) :
    Calls Try.prog 85 #[.slice a xs.length cap, .int .i64 x] w (OwnPost (putL xs x) w) := by
  have HG := Lib.hid hg
  have PN := Lib.hid (putS_next xs x)
  have PE := Lib.hid (putS_end xs x)
  have PL := Lib.hid (fun j => putS_len xs x j hl)
  have P0 : Hid (putS xs x 0 = ([], false)) := Lib.hid rfl
  generalize putL xs x = r at *
  generalize putS xs x = S at *
  clear hg
  obtain ⟨i0, hi, hzz⟩ := Option.map_eq_some_iff.1 info_n64
  simp only [Prod.mk.injEq] at hzz
  obtain ⟨hz0, hz1, hz2⟩ := hzz
  have HI := Lib.hid hi
  have HZ0 := Lib.hid hz0
  have HZ1 := Lib.hid hz1
  have HZ2 := Lib.hid hz2
  clear hi hz0 hz1 hz2
  go_enter Try.func85, Try.ntmps85
  go_wp2_with fail
  go_loopg [5, 6, 7] (xs.length + 1) (fun kx s5 s6 s7 wr => ∃ j : Nat, s6 = .bool (S j).2 ∧ s7 = .int .i64 (j : Int) ∧ j ≤ xs.length ∧ kx = xs.length + 1 - j ∧ Hid (wr.ownsRow w.heap.size 2 1 s5 (S j).1.length ((S j).1.map (Value.int .i64))) ∧ Hid (Below w.heap.size w wr))
  case atStart =>
    exact ⟨0, by rw [P0.out], rfl, Nat.zero_le _, rfl, Lib.hid (by rw [P0.out]; exact World.ownsRow_lit w #[] 0 (Nat.le_refl _) (by decide) rfl), Lib.hid ((Below.refl _ w).alloc (Nat.le_refl _) _)⟩
  case round =>
    obtain ⟨j, rfl, rfl, hj, rfl, HO, HB⟩ := hrel
    have hpl := PL.out j
    by_cases hlt : j < xs.length
    · obtain ⟨g, rfl, hgl, hgc⟩ : ∃ g, a = some ⟨g, 0, none⟩ ∧ g < w.heap.size ∧ ∀ j, (h : j < xs.length) → w.cell? ⟨g, j, none⟩ = some (.int .i64 xs[j]) := by
        rcases HG.out with h | h
        · omega
        · exact h
      have CW := Lib.hid (hgc j hlt)
      have c0 := (HB.out.cell (p := ⟨g, j, none⟩) hgl).trans CW.out
      have SN := Lib.hid (PN.out j hlt)
      have j0 : (0 : Int) ≤ (j : Int) := by omega
      have j1 : (j : Int) < (xs.length : Int) := by omega
      clear hgc PN PE PL P0 HG
      generalize xs[j] = y at *
      obtain ⟨S1, hS1⟩ : ∃ S1, S1 = S (j + 1) := ⟨_, rfl⟩
      rw [← hS1] at SN
      have HS1 := Lib.hid hS1
      clear hS1
      generalize S j = P at *
      obtain ⟨L, d⟩ := P
      simp only at HO hpl ⊢
      have hown := HO.out
      clear HO
      cases d with
      | true =>
        have e : stepP x (L, true) y = (L ++ [y], true) := by unfold stepP; simp
        rw [e] at SN
        clear e
        have hi := HI.out
        have hz0 := HZ0.out
        have hz1 := HZ1.out
        have hz2 := HZ2.out
        go_wp2_with (at_builtin; refine wpList_append_own _ rfl _ _ 59 rfl w.heap.size 2 i0 (.int .i64 0) 1 8 Try.underlying59 hi hz0 hz1 hz2 rfl (by decide) _ _ _ rfl (hown.alloc _) ⟨wr.heap.size, 0, none⟩ 1 1 [.int .i64 y] rfl rfl ?c1x1 ?c2x1 ?c3x1 ?c4x1 ?c5x1 ?_)
        (first | (case c1x1 => exact one_cellE _ _ _) | skip)
        (first | (case c2x1 => first | exact one_plainE _ | rfl) | skip)
        case c3x1 => (first | (unfold maxLen; omega) | (unfold maxLen; simp only [List.length_append, List.length_cons, List.length_nil]; omega))
        case c4x1 => (first | omega | (simp only [List.length_append, List.length_cons, List.length_nil]; omega))
        case c5x1 => have hs4 := HB.out.size; simp; omega
        intro v5 w5 hown' hgrow _
        obtain ⟨hb2, hs2⟩ := own_belowE hown HB.out HB.out.size hgrow
        have ho : w5.ownsRow w.heap.size 2 1 v5 (L ++ [y]).length ((L ++ [y]).map (Value.int .i64)) := by simpa using hown'
        have HO_w5 := Lib.hid ho
        have HB_w5 := Lib.hid hb2
        clear hown' hgrow ho hb2 hs2 hi hz0 hz1 hz2
        clear c0
        go_wp2_with fail
        go_roundg (xs.length + 1 - (j + 1))
        case measure => omega
        case rel => exact ⟨j + 1, by rw [← HS1.out, SN.out], by go_num, by omega, by omega, by rw [← HS1.out, SN.out]; exact HO_w5, HB_w5⟩
      | false =>
        by_cases hxy : x ≤ y
        · have d1 : decide (x ≤ y) = true := by simpa using hxy
          by_cases hx2 : x < y
          · have d3 : decide (x < y) = true := by simpa using hx2
            have e : stepP x (L, false) y = ((L ++ [x]) ++ [y], true) := by unfold stepP; simp [hxy, hx2]
            rw [e] at SN
            clear e
            have hi := HI.out
            have hz0 := HZ0.out
            have hz1 := HZ1.out
            have hz2 := HZ2.out
            go_wp2_with (at_builtin; refine wpList_append_own _ rfl _ _ 59 rfl w.heap.size 2 i0 (.int .i64 0) 1 8 Try.underlying59 hi hz0 hz1 hz2 rfl (by decide) _ _ _ rfl (hown.alloc _) ⟨wr.heap.size, 0, none⟩ 1 1 [.int .i64 x] rfl rfl ?c1x2 ?c2x2 ?c3x2 ?c4x2 ?c5x2 ?_)
            (first | (case c1x2 => exact one_cellE _ _ _) | skip)
            (first | (case c2x2 => first | exact one_plainE _ | rfl) | skip)
            case c3x2 => (first | (unfold maxLen; omega) | (unfold maxLen; simp only [List.length_append, List.length_cons, List.length_nil]; omega))
            case c4x2 => (first | omega | (simp only [List.length_append, List.length_cons, List.length_nil]; omega))
            case c5x2 => have hs4 := HB.out.size; simp; omega
            intro v4 w4 hown' hgrow _
            obtain ⟨hb2, hs2⟩ := own_belowE hown HB.out HB.out.size hgrow
            have ho : w4.ownsRow w.heap.size 2 1 v4 (L ++ [x]).length ((L ++ [x]).map (Value.int .i64)) := by simpa using hown'
            have HO_w4 := Lib.hid ho
            have HB_w4 := Lib.hid hb2
            clear hown' hgrow ho hb2 hs2 hi hz0 hz1 hz2
            have c1 := (HB_w4.out.cell (p := ⟨g, j, none⟩) hgl).trans CW.out
            have hown4 := HO_w4.out
            clear c0
            have hi := HI.out
            have hz0 := HZ0.out
            have hz1 := HZ1.out
            have hz2 := HZ2.out
            go_wp2_with (at_builtin; refine wpList_append_own _ rfl _ _ 59 rfl w.heap.size 2 i0 (.int .i64 0) 1 8 Try.underlying59 hi hz0 hz1 hz2 rfl (by decide) _ _ _ rfl (hown4.alloc _) ⟨w4.heap.size, 0, none⟩ 1 1 [.int .i64 y] rfl rfl ?c1x3 ?c2x3 ?c3x3 ?c4x3 ?c5x3 ?_)
            (first | (case c1x3 => exact one_cellE _ _ _) | skip)
            (first | (case c2x3 => first | exact one_plainE _ | rfl) | skip)
            case c3x3 => (first | (unfold maxLen; omega) | (unfold maxLen; simp only [List.length_append, List.length_cons, List.length_nil]; omega))
            case c4x3 => (first | omega | (simp only [List.length_append, List.length_cons, List.length_nil]; omega))
            case c5x3 => have hs4 := HB_w4.out.size; simp; omega
            intro v5 w5 hown' hgrow _
            obtain ⟨hb2, hs2⟩ := own_belowE hown4 HB_w4.out HB_w4.out.size hgrow
            have ho : w5.ownsRow w.heap.size 2 1 v5 (L ++ [x] ++ [y]).length ((L ++ [x] ++ [y]).map (Value.int .i64)) := by simpa using hown'
            have HO_w5 := Lib.hid ho
            have HB_w5 := Lib.hid hb2
            clear hown' hgrow ho hb2 hs2 hi hz0 hz1 hz2
            clear c1
            go_wp2_with fail
            go_roundg (xs.length + 1 - (j + 1))
            case measure => omega
            case rel => exact ⟨j + 1, by rw [← HS1.out, SN.out], by go_num, by omega, by omega, by rw [← HS1.out, SN.out]; exact HO_w5, HB_w5⟩
          · have d3 : decide (x < y) = false := by simpa using hx2
            have e : stepP x (L, false) y = (L ++ [y], true) := by unfold stepP; simp [hxy, hx2]
            rw [e] at SN
            clear e
            have hi := HI.out
            have hz0 := HZ0.out
            have hz1 := HZ1.out
            have hz2 := HZ2.out
            go_wp2_with (at_builtin; refine wpList_append_own _ rfl _ _ 59 rfl w.heap.size 2 i0 (.int .i64 0) 1 8 Try.underlying59 hi hz0 hz1 hz2 rfl (by decide) _ _ _ rfl (hown.alloc _) ⟨wr.heap.size, 0, none⟩ 1 1 [.int .i64 y] rfl rfl ?c1x4 ?c2x4 ?c3x4 ?c4x4 ?c5x4 ?_)
            (first | (case c1x4 => exact one_cellE _ _ _) | skip)
            (first | (case c2x4 => first | exact one_plainE _ | rfl) | skip)
            case c3x4 => (first | (unfold maxLen; omega) | (unfold maxLen; simp only [List.length_append, List.length_cons, List.length_nil]; omega))
            case c4x4 => (first | omega | (simp only [List.length_append, List.length_cons, List.length_nil]; omega))
            case c5x4 => have hs4 := HB.out.size; simp; omega
            intro v5 w5 hown' hgrow _
            obtain ⟨hb2, hs2⟩ := own_belowE hown HB.out HB.out.size hgrow
            have ho : w5.ownsRow w.heap.size 2 1 v5 (L ++ [y]).length ((L ++ [y]).map (Value.int .i64)) := by simpa using hown'
            have HO_w5 := Lib.hid ho
            have HB_w5 := Lib.hid hb2
            clear hown' hgrow ho hb2 hs2 hi hz0 hz1 hz2
            clear c0
            go_wp2_with fail
            go_roundg (xs.length + 1 - (j + 1))
            case measure => omega
            case rel => exact ⟨j + 1, by rw [← HS1.out, SN.out], by go_num, by omega, by omega, by rw [← HS1.out, SN.out]; exact HO_w5, HB_w5⟩
        · have d1 : decide (x ≤ y) = false := by simpa using hxy
          have hx2 : ¬ x < y := by omega
          have hyx : y < x := by omega
          have d2 : decide (y < x) = true := by simpa using hyx
          have d3 : decide (x < y) = false := by simpa using hx2
          have e : stepP x (L, false) y = (L ++ [y], false) := by unfold stepP; simp [hxy]
          rw [e] at SN
          clear e
          have hi := HI.out
          have hz0 := HZ0.out
          have hz1 := HZ1.out
          have hz2 := HZ2.out
          go_wp2_with (at_builtin; refine wpList_append_own _ rfl _ _ 59 rfl w.heap.size 2 i0 (.int .i64 0) 1 8 Try.underlying59 hi hz0 hz1 hz2 rfl (by decide) _ _ _ rfl (hown.alloc _) ⟨wr.heap.size, 0, none⟩ 1 1 [.int .i64 y] rfl rfl ?c1x5 ?c2x5 ?c3x5 ?c4x5 ?c5x5 ?_)
          (first | (case c1x5 => exact one_cellE _ _ _) | skip)
          (first | (case c2x5 => first | exact one_plainE _ | rfl) | skip)
          case c3x5 => (first | (unfold maxLen; omega) | (unfold maxLen; simp only [List.length_append, List.length_cons, List.length_nil]; omega))
          case c4x5 => (first | omega | (simp only [List.length_append, List.length_cons, List.length_nil]; omega))
          case c5x5 => have hs4 := HB.out.size; simp; omega
          intro v5 w5 hown' hgrow _
          obtain ⟨hb2, hs2⟩ := own_belowE hown HB.out HB.out.size hgrow
          have ho : w5.ownsRow w.heap.size 2 1 v5 (L ++ [y]).length ((L ++ [y]).map (Value.int .i64)) := by simpa using hown'
          have HO_w5 := Lib.hid ho
          have HB_w5 := Lib.hid hb2
          clear hown' hgrow ho hb2 hs2 hi hz0 hz1 hz2
          clear c0
          go_wp2_with fail
          go_roundg (xs.length + 1 - (j + 1))
          case measure => omega
          case rel => exact ⟨j + 1, by rw [← HS1.out, SN.out], by go_num, by omega, by omega, by rw [← HS1.out, SN.out]; exact HO_w5, HB_w5⟩
    · obtain rfl : j = xs.length := by omega
      have PE' := PE.out
      clear PN PE PL P0 HG
      generalize S xs.length = P at *
      obtain ⟨L, d⟩ := P
      simp only at HO hpl PE' ⊢
      have hown := HO.out
      cases d with
      | true =>
        rw [if_pos rfl] at PE'
        subst PE'
        go_wp2_with fail
        go_ret
        exact ⟨_, rfl, hown, HB.out⟩
      | false =>
        rw [if_neg (by simp)] at PE'
        subst PE'
        clear HO
        have hi := HI.out
        have hz0 := HZ0.out
        have hz1 := HZ1.out
        have hz2 := HZ2.out
        go_wp2_with (at_builtin; refine wpList_append_own _ rfl _ _ 59 rfl w.heap.size 2 i0 (.int .i64 0) 1 8 Try.underlying59 hi hz0 hz1 hz2 rfl (by decide) _ _ _ rfl (hown.alloc _) ⟨wr.heap.size, 0, none⟩ 1 1 [.int .i64 x] rfl rfl ?c1x6 ?c2x6 ?c3x6 ?c4x6 ?c5x6 ?_)
        (first | (case c1x6 => exact one_cellE _ _ _) | skip)
        (first | (case c2x6 => first | exact one_plainE _ | rfl) | skip)
        case c3x6 => (first | (unfold maxLen; omega) | (unfold maxLen; simp only [List.length_append, List.length_cons, List.length_nil]; omega))
        case c4x6 => (first | omega | (simp only [List.length_append, List.length_cons, List.length_nil]; omega))
        case c5x6 => have hs4 := HB.out.size; simp; omega
        intro v5 w5 hown' hgrow _
        obtain ⟨hb2, hs2⟩ := own_belowE hown HB.out HB.out.size hgrow
        have ho : w5.ownsRow w.heap.size 2 1 v5 (L ++ [x]).length ((L ++ [x]).map (Value.int .i64)) := by simpa using hown'
        have HO_w5 := Lib.hid ho
        have HB_w5 := Lib.hid hb2
        clear hown' hgrow ho hb2 hs2 hi hz0 hz1 hz2
        go_wp2_with fail
        go_ret
        exact ⟨_, rfl, HO_w5.out, HB_w5.out⟩

/-- The numbers of the first j lines, each once, in order. -/
def endsL (ls : List (List Int)) : List Int := ls.flatten.foldl putL []
def endsUp (ls : List (List Int)) (j : Nat) : List Int := (ls.take j).flatten.foldl putL []
theorem endsUp_next (ls : List (List Int)) (j : Nat) (h : j < ls.length) (a c : Int) (hac : ls[j] = [a, c]) : endsUp ls (j + 1) = putL (putL (endsUp ls j) a) c := by
  unfold endsUp
  rw [List.take_succ_eq_append_getElem h, hac, List.flatten_append, List.foldl_append]
  rfl
theorem endsUp_len (ls : List (List Int)) (hl : ∀ j, (h : j < ls.length) → ∃ a c : Int, ls[j] = [a, c]) (j : Nat) (hj : j ≤ ls.length) : (endsUp ls j).length ≤ 2 * j := by
  induction j with
  | zero => simp [endsUp]
  | succ j ih =>
    obtain ⟨a, c, hac⟩ := hl j (by omega)
    rw [endsUp_next ls j (by omega) a c hac]
    have h1 := putL_len (endsUp ls j) a
    have h2 := putL_len (putL (endsUp ls j) a) c
    have h3 := ih (by omega)
    omega
theorem own_slice {B : Nat} {w : World} {v : Value} {xs : List Int} (h : w.ownsRow B 2 1 v xs.length (xs.map (Value.int .i64))) : ∃ (a : Option Addr) (cap : Nat), v = .slice a xs.length cap ∧ (xs.length = 0 ∨ ∃ g, a = some ⟨g, 0, none⟩ ∧ g < w.heap.size ∧ ∀ j, (hj : j < xs.length) → w.cell? ⟨g, j, none⟩ = some (.int .i64 xs[j])) := by
  rcases h.2 with ⟨hv, h0⟩ | ⟨g, cap, cur, hv, _, hh, _, _, _, _⟩
  · exact ⟨none, 0, by rw [hv, h0], Or.inl h0⟩
  · refine ⟨some ⟨g, 0, none⟩, cap, hv, Or.inr ⟨g, rfl, (Array.getElem?_eq_some_iff.1 hh).1, fun j hj => ?_⟩⟩
    subst hv
    rw [h.cellAt j (by omega), List.getElem?_map, List.getElem?_eq_getElem hj]
    rfl

set_option maxRecDepth 100000 in
set_option maxHeartbeats 4000000 in
theorem l08Stars_any (p g cap : Nat) (ls : List (List Int)) (bs : Nat → Nat) (w : World) (hl16 : ls.length ≤ 16) (hln : ∀ j, (h : j < ls.length) → ∃ a c : Int, ls[j] = [a, c]) (hp1 : w.cell? ⟨p, 1, none⟩ = some (.slice (some ⟨g, 0, none⟩) ls.length cap)) (hr : LRow w g ls bs) :
    Calls Try.prog 82 #[.pointer (some ⟨p, 0, none⟩)] w (OwnPost (endsL ls) w) := by
  have hpl := World.block_lt_of_cell? w ⟨p, 1, none⟩ hp1
  have HP1 := Lib.hid hp1
  have HL := Lib.hid hr
  have LN := Lib.hid hln
  have EN := Lib.hid (endsUp_next ls)
  have EL := Lib.hid (endsUp_len ls hln)
  have E0 : Hid (endsUp ls 0 = []) := Lib.hid rfl
  have EE : Hid (endsUp ls ls.length = endsL ls) := Lib.hid (by unfold endsUp endsL; rw [List.take_length])
  generalize endsL ls = r at *
  generalize endsUp ls = S at *
  clear hp1 hr hln
  go_enter Try.func82, Try.ntmps82
  go_wp2_with fail
  go_loopg [3, 4] (ls.length + 1) (fun kx s3 s4 wr => ∃ j : Nat, s4 = .int .i64 (j : Int) ∧ j ≤ ls.length ∧ kx = ls.length + 1 - j ∧ Hid (wr.ownsRow w.heap.size 2 1 s3 (S j).length ((S j).map (Value.int .i64))) ∧ Hid (Below w.heap.size w wr))
  case atStart =>
    exact ⟨0, rfl, Nat.zero_le _, rfl, Lib.hid (by rw [E0.out]; exact World.ownsRow_lit w #[] 0 (Nat.le_refl _) (by decide) rfl), Lib.hid ((Below.refl _ w).alloc (Nat.le_refl _) _)⟩
  case round =>
    obtain ⟨j, rfl, hj, rfl, HO, HB⟩ := hrel
    have q1 := (HB.out.cell (p := ⟨p, 1, none⟩) hpl).trans HP1.out
    have el := EL.out j hj
    by_cases hlt : j < ls.length
    · obtain ⟨a, c, hac⟩ := LN.out j hlt
      obtain ⟨c0, hx⟩ := (HL.out.below HB.out).at j hlt
      have SN := Lib.hid (EN.out j hlt a c hac)
      rw [hac] at c0 hx
      have x0 := hx.at 0 (by simp)
      have x1 := hx.at 1 (by simp)
      simp only [List.length_cons, List.length_nil, List.getElem_cons_zero, List.getElem_cons_succ, Nat.zero_add, Nat.reduceAdd] at c0 x0 x1
      have pl := putL_len (S j) a
      obtain ⟨sa, sc, rfl, hsl⟩ := own_slice HO.out
      have P1 := Lib.hid (l00Put_any sa sc (S j) a wr (by omega) hsl)
      have j0 : (0 : Int) ≤ (j : Int) := by omega
      have j1 : (j : Int) < (ls.length : Int) := by omega
      have K : Hid (wr.cell? ⟨p, 1, none⟩ = some (.slice (some ⟨g, 0, none⟩) ls.length cap) ∧ wr.cell? ⟨g, j, none⟩ = some (.slice (some ⟨bs j, 0, none⟩) 2 2) ∧ wr.cell? ⟨bs j, 0, none⟩ = some (.int .i64 a) ∧ wr.cell? ⟨bs j, 1, none⟩ = some (.int .i64 c) ∧ Below w.heap.size w wr) := Lib.hid ⟨q1, c0, x0, x1, HB.out⟩
      clear hx hac hsl EN EL E0 EE
      generalize (S j).length = n at *
      go_wp2_with fail
      refine P1.out.mono ?_
      rintro e w2 ⟨v2, rfl, hown2, hb2⟩
      have K2 := Lib.hid (keepW4 K.out hb2)
      obtain ⟨q2, d0, y0, y1, _⟩ := K2.out
      obtain ⟨ta, tc, rfl, htl⟩ := own_slice hown2
      have P2 := Lib.hid (l00Put_any ta tc (putL (S j) a) c w2 (by omega) htl)
      have HB2 := Lib.hid (HB.out.trans (hb2.mono HB.out.size))
      clear hb2 hown2 htl q1 c0 x0 x1 P1
      generalize (putL (S j) a).length = n2 at *
      go_wp2_with fail
      refine P2.out.mono ?_
      rintro e w3 ⟨v3, rfl, hown3, hb3⟩
      have HB3 := Lib.hid (HB2.out.trans (hb3.mono HB2.out.size))
      have HO3 : Hid (w3.ownsRow w.heap.size 2 1 v3 (S (j + 1)).length ((S (j + 1)).map (Value.int .i64))) := Lib.hid (by
        rw [SN.out]
        exact Go.Joins.ownsRow_le hown3 HB2.out.size)
      clear hb3 hown3 q2 d0 y0 y1 P2
      go_wp2_with fail
      go_roundg (ls.length + 1 - (j + 1))
      case measure => omega
      case rel => exact ⟨j + 1, by go_num, by omega, by omega, HO3, HB3⟩
    · obtain rfl : j = ls.length := by omega
      have ho := HO.out
      rw [EE.out] at ho
      go_wp2_with fail
      go_ret
      exact ⟨_, rfl, ho, HB.out⟩
end Go.Proofs.Ytfjhlapcopjfiaa
