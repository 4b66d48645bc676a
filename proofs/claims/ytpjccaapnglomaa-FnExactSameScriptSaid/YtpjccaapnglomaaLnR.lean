/-
  Rows of Lines of one's own: their cells by the list, a store into them, what make lays, what append adds.
-/
import Derived.Test.YtpjccaapnglomaaLnA
import Derived.Test.YtpjccaapnglomaaMod
import Derived.Deep.OwnRows
import Derived.Laws.CopyOwn
import Derived.WideMake
namespace Go.Proofs.Ytpjccaapnglomaa.Ln
open Go.RowKit
set_option linter.unusedVariables false

def zero : V := ⟨0, ByteArray.empty, 0⟩
def fieldV (x : V) : Nat → Value
  | 0 => .int .i64 x.f0
  | 1 => .string x.f1
  | _ => .int .i64 x.f2

def rowF (ys : List V) (k : Nat) : Value := fieldV (ys.getD (k / 3) zero) (k % 3)
/-- Block g begins with a row of these. -/
def Row (w : World) (g : Nat) (ys : List V) : Prop := ∃ m F, w.rowIs g 31 m F ∧ ys.length * 3 ≤ m ∧ ∀ k, k < ys.length * 3 → F k = rowF ys k
theorem Row.at {w : World} {g : Nat} {ys : List V} (h : Row w g ys) (j : Nat) (hj : j < ys.length) : At w g (j * 3) ys[j] := by
  obtain ⟨m, F, hF, hm, hc⟩ := h
  have e : ∀ k, k < 3 → w.cell? ⟨g, j * 3 + k, none⟩ = some (fieldV ys[j] k) := by
    intro k hk
    rw [World.rowIs.cell hF (show j * 3 + k < m by omega), hc _ (by omega)]
    unfold rowF
    rw [show (j * 3 + k) / 3 = j by omega, show (j * 3 + k) % 3 = k by omega, List.getD, List.getElem?_eq_getElem hj]
    rfl
  exact ⟨e 0 (by omega), e 1 (by omega), e 2 (by omega)⟩
theorem Row.free {w : World} {g : Nat} {ys : List V} (h : Row w g ys) (i : Nat) : w.frozen? ⟨g, i, none⟩ = false := by
  obtain ⟨m, F, hF, _, _⟩ := h
  exact World.rowIs.frozen hF i
theorem Row.lt {w : World} {g : Nat} {ys : List V} (h : Row w g ys) : g < w.heap.size := by
  obtain ⟨m, F, hF, _, _⟩ := h
  exact World.rowIs.lt hF
theorem Row.belowB {w w' : World} {g B : Nat} {ys : List V} (h : Row w g ys) (hB : g < B) (hb : Below B w w') : Row w' g ys := by
  obtain ⟨m, F, hF, hm, hc⟩ := h
  exact ⟨m, F, World.rowIs.of_block hF (hb.block g hB), hm, hc⟩
theorem Row.below {w w' : World} {g : Nat} {ys : List V} (h : Row w g ys) (hb : Below w.heap.size w w') : Row w' g ys := h.belowB h.lt hb
theorem Row.full {w : World} {g : Nat} {ys : List V} (h : w.rowIs g 31 (ys.length * 3) (rowF ys)) : Row w g ys := ⟨_, _, h, Nat.le_refl _, fun _ _ => rfl⟩
/-- The cells of one, put. -/
def putAt (w : World) (g o : Nat) (x : V) : World := ((w.setCell ⟨g, o, none⟩ (.int .i64 x.f0)).setCell ⟨g, o + 1, none⟩ (.string x.f1)).setCell ⟨g, o + 2, none⟩ (.int .i64 x.f2)
theorem Row.put {w : World} {g : Nat} {ys : List V} (h : Row w g ys) (i : Nat) (hi : i < ys.length) (x : V) : Row (putAt w g (i * 3) x) g (ys.set i x) := by
  obtain ⟨m, F, hF, hm, hc⟩ := h
  have h5 := (World.rowIs.set (World.rowIs.set (World.rowIs.set hF (i * 3) (.int .i64 x.f0)) (i * 3 + 1) (.string x.f1)) (i * 3 + 2) (.int .i64 x.f2))
  unfold putAt
  refine ⟨m, _, h5, by rw [List.length_set]; exact hm, fun k hk => ?_⟩
  rw [List.length_set] at hk
  try dsimp only
  unfold rowF
  by_cases c : k / 3 = i
  · have hx : (ys.set i x).getD (k / 3) zero = x := by rw [c, List.getD, List.getElem?_set_self hi]; rfl
    rw [hx]
    rcases (by omega : k = i * 3 ∨ k = i * 3 + 1 ∨ k = i * 3 + 2) with rfl | rfl | rfl
    · rw [if_neg (by omega), if_neg (by omega), if_pos rfl, show i * 3 % 3 = 0 by omega]; rfl
    · rw [if_neg (by omega), if_pos rfl, show (i * 3 + 1) % 3 = 1 by omega]; rfl
    · rw [if_pos rfl, show (i * 3 + 2) % 3 = 2 by omega]; rfl
  · have hx : (ys.set i x).getD (k / 3) zero = ys.getD (k / 3) zero := by rw [List.getD, List.getD, List.getElem?_set_ne (fun e => c e.symm)]
    rw [hx, if_neg (by omega), if_neg (by omega), if_neg (by omega)]
    exact hc k hk
theorem putAt_below {w0 w : World} {B g o : Nat} {x : V} (h : Below B w0 w) (hg : B ≤ g) : Below B w0 (putAt w g o x) := by
  unfold putAt
  exact ((h.setCell hg _).setCell hg _).setCell hg _
theorem putAt_mod (w : World) (g o : Nat) (x : V) : Mod g (g + 1) w (putAt w g o x) := by
  have hb : Below 0 w (putAt w g o x) := putAt_below (Below.refl _ _) (Nat.zero_le _)
  refine ⟨hb.os, hb.tape, hb.output, hb.size, fun k hk hne => ?_⟩
  have hne' : k ≠ g := by omega
  unfold putAt
  rw [heap_setCell_other _ _ _ _ hne', heap_setCell_other _ _ _ _ hne', heap_setCell_other _ _ _ _ hne']

theorem info_rec : (Try.prog.info? 31).map (fun i => (i.zero, i.size, i.bytes)) = some (some (.agg #[.int .i64 0, .string ByteArray.empty, .int .i64 0]), 3, 32) := by kernel_rfl
theorem makes (n : Nat) (hn : n ≤ 1048577) (w : World) :
    (Instr.makeSlice 25 (.int .i64 (n : Int)) (.int .i64 (n : Int))).run Try.prog w = .ok (.slice (some ⟨w.heap.size, 0, none⟩) n n) (w.alloc (.cells (madeCells #[.int .i64 0, .string ByteArray.empty, .int .i64 0] (n * 3)) 31)) := by
  obtain ⟨i, hi, hzz⟩ := Option.map_eq_some_iff.1 info_rec
  simp only [Prod.mk.injEq] at hzz
  obtain ⟨hz, hs, hb⟩ := hzz
  have hr := run_make (P := Try.prog) w 25 31 i _ Try.underlying25 hi hz .i64 .i64 (n : Int) (n : Int) (by omega) (Int.le_refl _) (by rw [hb]; omega) (by omega)
  simp only [Int.toNat_natCast, hs] at hr
  exact hr
theorem Row.made (w : World) (n : Nat) : Row (w.alloc (.cells (madeCells #[.int .i64 0, .string ByteArray.empty, .int .i64 0] (n * 3)) 31)) w.heap.size (List.replicate n zero) := by
  refine Row.full ?_
  rw [List.length_replicate]
  have h := World.rowIs_alloc w (madeCells #[.int .i64 0, .string ByteArray.empty, .int .i64 0] (n * 3)) 31 (rowF (List.replicate n zero)) (by
    intro k hk
    rw [size_madeCells] at hk
    have hx : (List.replicate n zero).getD (k / 3) zero = zero := by
      rw [List.getD, List.getElem?_replicate]
      split <;> rfl
    unfold rowF
    rw [hx]
    simp only [madeCells, Array.getElem?_map, Array.getElem?_range, hk, if_true, Option.map_some]
    congr 1
    have h5 : k % 3 < 3 := by omega
    show (#[Value.int .i64 0, .string ByteArray.empty, .int .i64 0] : Array Value)[k % 3]! = _
    rcases (by omega : k % 3 = 0 ∨ k % 3 = 1 ∨ k % 3 = 2) with e | e | e <;> rw [e] <;> rfl)
  rw [size_madeCells] at h
  exact h

def copyS (zs : List V) (j : Nat) : List V := zs.take j ++ List.replicate (zs.length - j) zero
theorem copyS_zero (zs : List V) : copyS zs 0 = List.replicate zs.length zero := rfl
theorem copyS_all (zs : List V) : copyS zs zs.length = zs := by unfold copyS; rw [List.take_length, Nat.sub_self]; simp
theorem copyS_len (zs : List V) (j : Nat) (h : j ≤ zs.length) : (copyS zs j).length = zs.length := by
  unfold copyS
  rw [List.length_append, List.length_take, List.length_replicate]
  omega
theorem copyS_set (zs : List V) (j : Nat) (h : j < zs.length) : (copyS zs j).set j zs[j] = copyS zs (j + 1) := by
  have hl : (zs.take j).length = j := by rw [List.length_take]; omega
  unfold copyS
  rw [show zs.length - j = (zs.length - (j + 1)) + 1 by omega, List.replicate_succ, List.set_append_right _ _ (by omega), hl, Nat.sub_self, List.set_cons_zero, List.take_succ_eq_append_getElem h, List.append_assoc]
  rfl

def flat (zs : List V) : List Value := zs.flatMap V.cells
theorem flat_cons (x : V) (zs : List V) : flat (x :: zs) = x.cells ++ flat zs := rfl
theorem flat_app (a b : List V) : flat (a ++ b) = flat a ++ flat b := List.flatMap_append
theorem flat_len : ∀ zs : List V, (flat zs).length = zs.length * 3
  | [] => rfl
  | x :: zs => by
    rw [flat_cons, List.length_append, flat_len zs, List.length_cons]
    show 3 + _ = _
    omega
theorem flat_get : ∀ (zs : List V) (j : Nat) (hj : j < zs.length) (i : Nat), i < 3 → (flat zs)[j * 3 + i]? = some (fieldV zs[j] i)
  | x :: zs, 0, _, i, hi => by
    rw [flat_cons, Nat.zero_mul, Nat.zero_add, List.getElem?_append_left (by show i < 3; exact hi)]
    rcases (by omega : i = 0 ∨ i = 1 ∨ i = 2) with rfl | rfl | rfl <;> rfl
  | x :: zs, j + 1, hj, i, hi => by
    rw [flat_cons, List.getElem?_append_right (by show 3 ≤ _; omega)]
    have := flat_get zs j (by simpa using hj) i hi
    rw [show (j + 1) * 3 + i - x.cells.length = j * 3 + i by show (j + 1) * 3 + i - 3 = _; omega]
    exact this
theorem flat_one : ∀ (zs : List V), ∀ u ∈ flat zs, u.oneCell' = true
  | [], u, h => by cases h
  | x :: zs, u, h => by
    rw [flat_cons, List.mem_append] at h
    rcases h with h | h
    · simp only [V.cells, List.mem_cons, List.not_mem_nil, or_false] at h
      rcases h with rfl | rfl | rfl <;> rfl
    · exact flat_one zs u h
theorem flat_take (zs : List V) (k : Nat) : flat (zs.take k) = (flat zs).take (k * 3) := by
  induction zs generalizing k with
  | nil => simp [flat]
  | cons x zs ih =>
    cases k with
    | zero => simp [flat]
    | succ k =>
      have e : (k + 1) * 3 = x.cells.length + k * 3 := by show _ = 3 + k * 3; omega
      rw [List.take_succ_cons, flat_cons, flat_cons, ih, e, List.take_length_add_append]
theorem flat_drop (zs : List V) (k : Nat) : flat (zs.drop k) = (flat zs).drop (k * 3) := by
  induction zs generalizing k with
  | nil => simp [flat]
  | cons x zs ih =>
    cases k with
    | zero => simp
    | succ k =>
      have e : (k + 1) * 3 = x.cells.length + k * 3 := by show _ = 3 + k * 3; omega
      rw [List.drop_succ_cons, flat_cons, ih, e, List.drop_length_add_append]
theorem flat_set (zs : List V) (j : Nat) (hj : j < zs.length) (x : V) : flat (zs.set j x) = ((((((flat zs).set (j * 3) (.int .i64 x.f0))).set (j * 3 + 1) (.string x.f1))).set (j * 3 + 2) (.int .i64 x.f2)) := by
  have h := flat_len zs
  have h' := flat_len (zs.set j x)
  rw [List.length_set] at h'
  apply List.ext_getElem?
  intro k
  by_cases hk : k < zs.length * 3
  · have e : k = k / 3 * 3 + k % 3 := by omega
    have kl : k / 3 < (zs.set j x).length := by rw [List.length_set]; omega
    have g1 := flat_get (zs.set j x) (k / 3) kl (k % 3) (by omega)
    have g0 := flat_get zs (k / 3) (by omega) (k % 3) (by omega)
    rw [← e] at g1 g0
    rw [g1]
    simp only [List.getElem?_set, List.length_set, h]
    by_cases c : k / 3 = j
    · subst c
      rw [List.getElem_set_self]
      rcases (by omega : k % 3 = 0 ∨ k % 3 = 1 ∨ k % 3 = 2) with m | m | m
      · rw [m]
        rw [if_neg (by omega), if_neg (by omega), if_pos (by omega), if_pos (by omega)]
        rfl
      · rw [m]
        rw [if_neg (by omega), if_pos (by omega), if_pos (by omega)]
        rfl
      · rw [m]
        rw [if_pos (by omega), if_pos (by omega)]
        rfl
    · rw [List.getElem_set_ne (fun e => c e.symm)]
      rw [if_neg (by omega), if_neg (by omega), if_neg (by omega), g0]
  · rw [List.getElem?_eq_none (by omega), List.getElem?_eq_none (by simp only [List.length_set]; omega)]
theorem getD_at (zs : List V) (j : Nat) (h : j < zs.length) : zs.getD j zero = zs[j] := by rw [List.getD, List.getElem?_eq_getElem h]; rfl

/-- v is an own row of these, its block from B up to C. -/
def Own (w : World) (B C : Nat) (v : Value) (zs : List V) : Prop := w.ownsRow B 31 3 v zs.length (flat zs) ∧ ∀ b, v.ownBlock = some b → b < C
theorem Own.forms {w : World} {B C : Nat} {v : Value} {zs : List V} (h : Own w B C v zs) : (v = .slice none 0 0 ∧ zs = []) ∨ ∃ g cap, v = .slice (some ⟨g, 0, none⟩) zs.length cap ∧ B ≤ g ∧ g < C ∧ g < w.heap.size := by
  rcases h.1.2 with ⟨hv, h0⟩ | ⟨g, cap, cur, hv, hg, hh, _⟩
  · exact Or.inl ⟨hv, List.length_eq_zero_iff.1 h0⟩
  · exact Or.inr ⟨g, cap, hv, hg, h.2 g (by rw [hv]; rfl), (Array.getElem?_eq_some_iff.1 hh).1⟩
theorem Own.len {w : World} {B C : Nat} {v : Value} {zs : List V} (h : Own w B C v zs) : ∃ a cap, v = .slice a zs.length cap := by
  rcases h.forms with ⟨rfl, rfl⟩ | ⟨g, cap, rfl, _⟩
  · exact ⟨_, _, rfl⟩
  · exact ⟨_, _, rfl⟩
theorem Own.row {w : World} {B C g len cap : Nat} {zs : List V} (h : Own w B C (.slice (some ⟨g, 0, none⟩) len cap) zs) : Row w g zs := by
  rcases h.1.2 with ⟨hv, _⟩ | ⟨g', cap', cur, hv, hg, hh, hn, hcm, hsz, htk⟩
  · cases hv
  · obtain ⟨rfl, rfl⟩ : g' = g ∧ cap' = cap := by
      injection hv with h1 h2 h3
      injection h1 with h1
      injection h1 with h1
      exact ⟨h1.symm, h3.symm⟩
    refine ⟨cap' * 3, fun k => cur.toList.getD k undef, ⟨cur, hh, hsz, fun i hi => ?_⟩, by omega, fun k hk => ?_⟩
    · have hl : i < cur.toList.length := by simpa [hsz] using hi
      show cur[i]? = some (cur.toList.getD i undef)
      have e : cur.toList.getD i undef = cur.toList[i] := by unfold List.getD; rw [List.getElem?_eq_getElem hl]; rfl
      rw [e, ← Array.getElem?_toList, List.getElem?_eq_getElem hl]
    · have e : (flat zs)[k / 3 * 3 + k % 3]? = some (fieldV zs[k / 3] (k % 3)) := flat_get zs (k / 3) (by omega) (k % 3) (by omega)
      rw [show k / 3 * 3 + k % 3 = k by omega, ← htk, List.getElem?_take, if_pos (by omega)] at e
      show cur.toList.getD k undef = rowF zs k
      unfold rowF
      have e1 : cur.toList.getD k undef = fieldV zs[k / 3] (k % 3) := by unfold List.getD; rw [e]; rfl
      have e2 : zs.getD (k / 3) zero = zs[k / 3] := by unfold List.getD; rw [List.getElem?_eq_getElem (show k / 3 < zs.length by omega)]; rfl
      rw [e1, e2]
theorem Own.bd {w : World} {B C g len cap : Nat} {zs : List V} (h : Own w B C (.slice (some ⟨g, 0, none⟩) len cap) zs) : B ≤ g ∧ g < C ∧ g < w.heap.size ∧ len = zs.length := by
  rcases h.forms with ⟨h0, _⟩ | ⟨g', cap', h0, h1, h2, h3⟩
  · cases h0
  · injection h0 with e1 e2 e3
    injection e1 with e1
    injection e1 with e1
    subst e1
    exact ⟨h1, h2, h3, e2⟩
theorem Own.mod {w w' : World} {B C B' C' : Nat} {v : Value} {zs : List V} (h : Own w B C v zs) (hm : Mod B' C' w w') (hd : C ≤ B' ∨ C' ≤ B) : Own w' B C v zs := by
  rcases h.forms with ⟨rfl, rfl⟩ | ⟨g, cap, rfl, h1, h2, h3⟩
  · exact ⟨World.ownsRow_nil _ _ _ _, h.2⟩
  · exact ⟨owns_one h.1 (hm.block g h3 (by omega)), h.2⟩
theorem Own.below {w w' : World} {B C : Nat} {v : Value} {zs : List V} (h : Own w B C v zs) (hb : Below w.heap.size w w') : Own w' B C v zs :=
  ⟨World.ownsRow.kept h.1 (⟨hb.os, hb.tape, hb.output, hb.size, fun k hk _ => hb.block k hk⟩ : w.grownBy w' none) (by cases hv : v.ownBlock <;> simp), h.2⟩
theorem Own.nil (w : World) (B C : Nat) : Own w B C (.slice none 0 0) [] := ⟨World.ownsRow_nil _ _ _ _, fun b h => by cases h⟩
theorem Own.le {w : World} {B B' C C' : Nat} {v : Value} {zs : List V} (h : Own w B' C' v zs) (hB : B ≤ B') (hC : C' ≤ C) : Own w B C v zs := by
  obtain ⟨h, h2⟩ := h
  refine ⟨?_, fun b hb => Nat.lt_of_lt_of_le (h2 b hb) hC⟩
  rcases h with ⟨h0, h1 | ⟨g, cap, cur, hv, hg, r⟩⟩
  · exact ⟨h0, Or.inl h1⟩
  · exact ⟨h0, Or.inr ⟨g, cap, cur, hv, by omega, r⟩⟩
theorem Own.mk {w : World} {B : Nat} {v : Value} {zs : List V} (h : w.ownsRow B 31 3 v zs.length (flat zs)) : Own w B w.heap.size v zs :=
  ⟨h, fun b hb => (World.ownsRow.lt h b hb).2⟩
theorem Own.app {w : World} {B : Nat} {v : Value} {zs : List V} {x : V} (h : w.ownsRow B 31 3 v (zs.length + 1) (flat zs ++ x.cells)) : w.ownsRow B 31 3 v (zs ++ [x]).length (flat (zs ++ [x])) := by
  rw [List.length_append, flat_app]
  exact h
theorem Own.free {w : World} {B C g len cap : Nat} {zs : List V} (h : Own w B C (.slice (some ⟨g, 0, none⟩) len cap) zs) (k : Nat) : w.frozen? ⟨g, k, none⟩ = false := h.row.free k
theorem Own.at {w : World} {B C g len cap : Nat} {zs : List V} (h : Own w B C (.slice (some ⟨g, 0, none⟩) len cap) zs) (j : Nat) (hj : j < zs.length) : At w g (j * 3) zs[j] := h.row.at j hj
theorem Own.put {w : World} {B C g len cap : Nat} {zs : List V} (h : Own w B C (.slice (some ⟨g, 0, none⟩) len cap) zs) (j : Nat) (hj : j < zs.length) (x : V) : Own (putAt w g (j * 3) x) B C (.slice (some ⟨g, 0, none⟩) len cap) (zs.set j x) := by
  have e := h.bd.2.2.2
  subst e
  have q0 := h.1
  have q1 := (World.ownsRow.stored q0 (j * 3) (.int .i64 x.f0)).1
  have q2 := (World.ownsRow.stored q1 (j * 3 + 1) (.string x.f1)).1
  have q3 := (World.ownsRow.stored q2 (j * 3 + 2) (.int .i64 x.f2)).1
  refine ⟨?_, h.2⟩
  unfold putAt
  rw [List.length_set, flat_set zs j hj x]
  exact q3
theorem set_0 (l : List Value) (o : Nat) (v0 v1 v2 u : Value) : ((((((l).set (o) u)).set (o + 1) v1)).set (o + 2) v2) = (((((((l).set (o) v0)).set (o + 1) v1)).set (o + 2) v2)).set (o) u := by
  apply List.ext_getElem?
  intro k
  simp only [List.getElem?_set, List.length_set]
  by_cases c : o = k
  · subst c
    rcases Nat.lt_or_ge (o) l.length with h | h <;> simp [h] <;> omega
  · simp only [c, if_false]
theorem set_1 (l : List Value) (o : Nat) (v0 v1 v2 u : Value) : ((((((l).set (o) v0)).set (o + 1) u)).set (o + 2) v2) = (((((((l).set (o) v0)).set (o + 1) v1)).set (o + 2) v2)).set (o + 1) u := by
  apply List.ext_getElem?
  intro k
  simp only [List.getElem?_set, List.length_set]
  by_cases c : o + 1 = k
  · subst c
    rcases Nat.lt_or_ge (o + 1) l.length with h | h <;> simp [h] <;> omega
  · simp only [c, if_false]
theorem set_2 (l : List Value) (o : Nat) (v0 v1 v2 u : Value) : ((((((l).set (o) v0)).set (o + 1) v1)).set (o + 2) u) = (((((((l).set (o) v0)).set (o + 1) v1)).set (o + 2) v2)).set (o + 2) u := by
  apply List.ext_getElem?
  intro k
  simp only [List.getElem?_set, List.length_set]
  by_cases c : o + 2 = k
  · subst c
    rcases Nat.lt_or_ge (o + 2) l.length with h | h <;> simp [h] <;> omega
  · simp only [c, if_false]
theorem Own.put0 {w : World} {B C g len cap : Nat} {zs : List V} {j : Nat} {x0 x2 : Int} {x1 : ByteArray} (h : Own w B C (.slice (some ⟨g, 0, none⟩) len cap) (zs.set j ⟨x0, x1, x2⟩)) (hj : j < zs.length) (e : Int) : Own (w.setCell ⟨g, j * 3, none⟩ (.int .i64 e)) B C (.slice (some ⟨g, 0, none⟩) len cap) (zs.set j ⟨e, x1, x2⟩) := by
  have hl := h.bd.2.2.2
  subst hl
  have q1 := (World.ownsRow.stored h.1 (j * 3) (.int .i64 e)).1
  refine ⟨?_, h.2⟩
  have hf : flat (zs.set j ⟨e, x1, x2⟩) = (flat (zs.set j ⟨x0, x1, x2⟩)).set (j * 3) (.int .i64 e) := by
    rw [flat_set zs j hj, flat_set zs j hj]
    exact set_0 (flat zs) (j * 3) (.int .i64 x0) (.string x1) (.int .i64 x2) (.int .i64 e)
  rw [hf]
  simp only [List.length_set] at q1 ⊢
  exact q1
theorem Own.put1 {w : World} {B C g len cap : Nat} {zs : List V} {j : Nat} {x0 x2 : Int} {x1 : ByteArray} (h : Own w B C (.slice (some ⟨g, 0, none⟩) len cap) (zs.set j ⟨x0, x1, x2⟩)) (hj : j < zs.length) (e : ByteArray) : Own (w.setCell ⟨g, j * 3 + 1, none⟩ (.string e)) B C (.slice (some ⟨g, 0, none⟩) len cap) (zs.set j ⟨x0, e, x2⟩) := by
  have hl := h.bd.2.2.2
  subst hl
  have q1 := (World.ownsRow.stored h.1 (j * 3 + 1) (.string e)).1
  refine ⟨?_, h.2⟩
  have hf : flat (zs.set j ⟨x0, e, x2⟩) = (flat (zs.set j ⟨x0, x1, x2⟩)).set (j * 3 + 1) (.string e) := by
    rw [flat_set zs j hj, flat_set zs j hj]
    exact set_1 (flat zs) (j * 3) (.int .i64 x0) (.string x1) (.int .i64 x2) (.string e)
  rw [hf]
  simp only [List.length_set] at q1 ⊢
  exact q1
theorem Own.put2 {w : World} {B C g len cap : Nat} {zs : List V} {j : Nat} {x0 x2 : Int} {x1 : ByteArray} (h : Own w B C (.slice (some ⟨g, 0, none⟩) len cap) (zs.set j ⟨x0, x1, x2⟩)) (hj : j < zs.length) (e : Int) : Own (w.setCell ⟨g, j * 3 + 2, none⟩ (.int .i64 e)) B C (.slice (some ⟨g, 0, none⟩) len cap) (zs.set j ⟨x0, x1, e⟩) := by
  have hl := h.bd.2.2.2
  subst hl
  have q1 := (World.ownsRow.stored h.1 (j * 3 + 2) (.int .i64 e)).1
  refine ⟨?_, h.2⟩
  have hf : flat (zs.set j ⟨x0, x1, e⟩) = (flat (zs.set j ⟨x0, x1, x2⟩)).set (j * 3 + 2) (.int .i64 e) := by
    rw [flat_set zs j hj, flat_set zs j hj]
    exact set_2 (flat zs) (j * 3) (.int .i64 x0) (.string x1) (.int .i64 x2) (.int .i64 e)
  rw [hf]
  simp only [List.length_set] at q1 ⊢
  exact q1
theorem Own.of_row {w : World} {g : Nat} {zs : List V} (h : w.rowIs g 31 (zs.length * 3) (rowF zs)) (hz : zs.length ≤ maxLen) : Own w g (g + 1) (.slice (some ⟨g, 0, none⟩) zs.length zs.length) zs := by
  obtain ⟨c, hb, hn, hc⟩ := h
  refine ⟨⟨flat_len zs, Or.inr ⟨g, zs.length, c, rfl, Nat.le_refl _, hb, Nat.le_refl _, hz, hn, ?_⟩⟩, fun b hb => by
    have : g = b := by simpa [Value.ownBlock] using hb
    omega⟩
  rw [List.take_of_length_le (by rw [Array.length_toList, hn]; exact Nat.le_refl _)]
  apply List.ext_getElem?
  intro k
  rw [Array.getElem?_toList]
  by_cases hk : k < zs.length * 3
  · have e : k = k / 3 * 3 + k % 3 := by omega
    have g0 := flat_get zs (k / 3) (by omega) (k % 3) (by omega)
    rw [← e] at g0
    rw [hc k hk, g0]
    unfold rowF
    rw [List.getD, List.getElem?_eq_getElem (by omega)]
    rfl
  · have := flat_len zs
    rw [List.getElem?_eq_none (by omega)]
    exact Array.getElem?_eq_none (by omega)
/-- The cells of a new one, laid for append. -/
theorem new_cells (W : World) (x0 : Int) (x1 : ByteArray) (x2 : Int) (T : TypeId) : ∀ j u, [Value.int .i64 x0, .string x1, .int .i64 x2][j]? = some u → (W.alloc (.cells #[.int .i64 x0, .string x1, .int .i64 x2] T)).cell? ((⟨W.heap.size, 0, none⟩ : Addr).add j) = some u := by
  intro j u hj
  have ea : ((⟨W.heap.size, 0, none⟩ : Addr).add j) = ⟨W.heap.size, j, none⟩ := by unfold Addr.add; split <;> simp_all
  rw [ea, World.cell?_alloc_at _ _ _ _ rfl]
  show [Value.int .i64 x0, .string x1, .int .i64 x2].toArray[j]? = some u
  simpa using hj
theorem cells_one (x0 : Int) (x1 : ByteArray) (x2 : Int) : ∀ u ∈ [Value.int .i64 x0, .string x1, .int .i64 x2], u.oneCell' = true := by
  intro u hu
  simp only [List.mem_cons, List.not_mem_nil, or_false] at hu
  rcases hu with rfl | rfl | rfl <;> rfl
end Go.Proofs.Ytpjccaapnglomaa.Ln
