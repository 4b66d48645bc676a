/-
  What a projector gives at a direction: the contracts of l10Spot, l10Raw, RawWeight (package spec).
  How many projectors reach a spot: the contract of l10Count (package spec).
  Shares of a whole: first rounded down, then what is left, one each, to the greatest rests, the first ones of several.
  Rows of numbers of one's own, and the contract of l10Weights (package spec).
  The contract of WeightsAt (package spec).
  The contracts of l10Bright, BrightnessAt (package spec).
  The order of the rests, and what is given in it.
  Rows of beams, and what is summed over them: the contracts of isLit, of the closures of shareOut, brightness and countOf, of sumOf, countOf, isLitBy and isDark (package impl).
  Whether a direction is dark: the contracts of countOf, isLitBy, isDark; numbers in order: indicesOf; cmp.Compare and the comparison of two rests (package impl).
  Numbers in order, and put in the order of the rests: the contracts of indicesOf, cmp.Compare, the comparison of two rests, slices.SortStableFunc (package impl).
  Indices put in the order of the rests: the contracts of insertionSortCmpFunc, stableCmpFunc, SortStableFunc (package slices) at them.
  What is given to beams: the mathematics of shareOut.
  shareOut (package impl): the full weight is given to beams.
-/
import Derived.Test.YtlklcpnnaolbeaaGreatDoorProj1
import Derived.Test.YtlklcpnnaolbeaaGreatDoorSep9
import Derived.Test.YtlklcpnnaolbeaaGreatDoorKeep
import Derived.Test.YtlklcpnnaolbeaaGreatDoorDir
import Derived.IntWalk
import Derived.Deep.RegionHeld3
import Derived.RegionTactic
import Derived.Test.YtlklcpnnaolbeaaGreatDoorProjK
import Derived.Test.YtlklcpnnaolbeaaGreatDoorMnMx
import Derived.Deep.RegionWith
import Derived.StillTailTactics
import Derived.Test.YtlklcpnnaolbeaaGreatDoorCore
import Derived.Deep.AppendLies
import Derived.Laws.OwnMore
import Derived.Handy
import Derived.Sort.LotA
import Derived.Sort.WalkA
import Derived.Deep.OwnRows
import Derived.Deep.LoopGhost
import Derived.Shelf.Abstract
import Derived.Deep.QuietTactic
import Derived.BigQuiet
import Derived.Test.YtlklcpnnaolbeaaGreatDoorShelfIns
import Derived.Sort.OwnSortedInts
namespace Go.Proofs.YtlklcpnnaolbeaaGreatDoor
section
open Go.RowKit
set_option linter.unusedVariables false

/-- A direction of the dome. -/
def spotB (u v : Int) : Bool := inR 0 359999 [u] && inR 0 90000 [v]
theorem StarAt.drewP {w : World} {g o : Nat} {x : StarV} (h : StarAt w g o x) (n : Nat) : StarAt (w.drewN n) g o x := ⟨h.c0, h.c1, h.c2, h.c3, h.c4⟩
theorem spotB_bd {u v : Int} (h : spotB u v = true) : (0 ≤ u ∧ u ≤ 359999) ∧ 0 ≤ v ∧ v ≤ 90000 := by
  unfold spotB at h
  simp only [Bool.and_eq_true, inR_1] at h
  exact h
/-- The weight at a distance. -/
def rawD (f d : Int) : Int := if f < d then 0 else 1000 * (f - d) / f + 1
/-- The weight of a projector at a direction. -/
def rawN (x : StarV) (u v : Int) : Int := rawD x.c (sep9 x.a x.b u v)
theorem rawD_bd (f d : Int) (f0 : 5000 ≤ f) (d0 : 0 ≤ d) : 0 ≤ rawD f d ∧ rawD f d ≤ 1001 := by
  unfold rawD
  split
  · omega
  · have h1 : 0 ≤ 1000 * (f - d) / f := Int.ediv_nonneg (by omega) (by omega)
    have h2 : 1000 * (f - d) / f ≤ 1000 := Int.ediv_le_of_le_mul (by omega) (by omega)
    omega
theorem sep9_bd (a h p q : Int) : 0 ≤ sep9 a h p q ∧ sep9 a h p q < 360000 := sepX_bd _ _ _ _ _ _
theorem rawN_bd {x : StarV} (h : x.good = true) (u v : Int) : 0 ≤ rawN x u v ∧ rawN x u v ≤ 1001 := rawD_bd _ _ (starB_bd h).2.2.1.1 (sep9_bd _ _ _ _).1

set_option maxHeartbeats 400000 in
theorem l10Spot_any (u v : Int) (w : World) :
    Calls Tryz.prog 27 #[.int .i64 u, .int .i64 v] w fun e w' => e = .returned (.bool (spotB u v)) ∧ w = w' := by
  unfold spotB
  have I1 := Lib.hid (fun w => l06Turn_any u w)
  have I2 := Lib.hid (fun w => l00In_any v 0 90000 w)
  generalize inR 0 359999 [u] = p1 at *
  generalize inR 0 90000 [v] = p2 at *
  cases p1 with
  | false =>
    rw [Bool.false_and]
    go_enter Tryz.func27, Tryz.ntmps27
    go_wp2_with fail
    refine (I1.out _).mono ?_
    rintro e w' ⟨rfl, rfl⟩
    go_wp2_with fail
    go_ret
    refine ⟨rfl, ?_⟩
    rfl
  | true =>
    rw [Bool.true_and]
    go_enter Tryz.func27, Tryz.ntmps27
    go_wp2_with fail
    refine (I1.out _).mono ?_
    rintro e w' ⟨rfl, rfl⟩
    go_wp2_with fail
    refine (I2.out _).mono ?_
    rintro e w' ⟨rfl, rfl⟩
    go_wp2_with fail
    go_ret
    refine ⟨rfl, ?_⟩
    rfl

set_option maxRecDepth 100000 in
set_option maxHeartbeats 2000000 in
theorem l10Raw_at (g o : Nat) (x : StarV) (hx : x.good = true) (u v : Int) (u0 : 0 ≤ u) (u1 : u ≤ 359999) (v0 : -90000 ≤ v) (v1 : v ≤ 90000) (w : World) (h : StarAt w g o x) :
    Calls Tryz.prog 49 #[.pointer (some ⟨g, o, none⟩), .agg #[.int .i64 (dX u v), .int .i64 (dY u v), .int .i64 (sinI v)]] w fun e w' => e = .returned (.int .i64 (rawN x u v)) ∧ Below w.heap.size w w' := by
  have hgd := starB_bd hx
  unfold rawN
  obtain ⟨s, a, b, c, d⟩ := x
  obtain ⟨c0, c1, c2, c3, c4⟩ := h
  simp only at c0 c1 c2 c3 c4 hgd ⊢
  clear hx
  have sb := sep9_bd a b u v
  unfold sep9 at sb ⊢
  obtain ⟨t, ht⟩ := sepX_spec (dX a b) (dY a b) (sinI b) (dX u v) (dY u v) (sinI v)
  have S := Lib.hid (fun w => l04Direction_any a b (by omega) (by omega) (by omega) (by omega) w)
  change Hid (∀ w, Calls Tryz.prog 29 #[.int .i64 a, .int .i64 b] w fun e w' => e = .returned (.agg #[.int .i64 (dX a b), .int .i64 (dY a b), .int .i64 (sinI b)]) ∧ Below w.heap.size w w') at S
  have F := Lib.hid (fun w => l04Away_any (dX a b) (dY a b) (sinI b) (dX u v) (dY u v) (sinI v) (inV_2 (dir_in _ _)) (inV_2 (dir_in _ _)) w)
  rw [ht] at F
  clear ht
  generalize sepX (dX a b) (dY a b) (sinI b) (dX u v) (dY u v) (sinI v) = n at *
  generalize dX a b = x at *
  generalize dY a b = y at *
  generalize sinI b = z at *
  generalize dX u v = x' at *
  generalize dY u v = y' at *
  generalize sinI v = z' at *
  unfold rawD
  obtain ⟨W0, hW0⟩ : ∃ W0, W0 = (w.alloc (.cells #[.int .i64 x', .int .i64 y', .int .i64 z'] 54)) := ⟨_, rfl⟩
  have hg : g < w.heap.size := World.block_lt_of_cell? w ⟨g, o, none⟩ c0
  have K0 : Hid (W0.cell? ⟨g, o + 1, none⟩ = some (.int .i64 a) ∧ W0.cell? ⟨g, o + 2, none⟩ = some (.int .i64 b) ∧ W0.cell? ⟨g, o + 3, none⟩ = some (.int .i64 c) ∧ W0.cell? ⟨w.heap.size, 0, none⟩ = some (.int .i64 x') ∧ W0.cell? ⟨w.heap.size, 1, none⟩ = some (.int .i64 y') ∧ W0.cell? ⟨w.heap.size, 2, none⟩ = some (.int .i64 z') ∧ Below w.heap.size w W0) := Lib.hid (by rw [hW0]; exact ⟨by rw [World.cell?_alloc_lt _ _ _ (by exact hg)]; exact c1, by rw [World.cell?_alloc_lt _ _ _ (by exact hg)]; exact c2, by rw [World.cell?_alloc_lt _ _ _ (by exact hg)]; exact c3, by rw [World.cell?_alloc_at _ _ _ _ (by simp)]; rfl, by rw [World.cell?_alloc_at _ _ _ _ (by simp)]; rfl, by rw [World.cell?_alloc_at _ _ _ _ (by simp)]; rfl, (Below.refl _ _).alloc (Nat.le_refl _) _⟩)
  have HW := Lib.hid hW0
  have e1 : IntKind.i64.wrap (c - n) = c - n := IntWalk.i64_in _ (by omega)
  have e2 : IntKind.i64.wrap (1000 * (c - n)) = 1000 * (c - n) := IntWalk.i64_in _ (by omega)
  clear hW0 c0 c1 c2 c3 c4 hg
  by_cases hd : c < n
  · rw [if_pos hd]
    have SB := Lib.hid sb
    clear sb e1 e2
    go_enter Tryz.func49, Tryz.ntmps49
    obtain ⟨k0, k1, k2, k3, k4, k5, k6⟩ := K0.out
    go_wp2_with fail
    rw [← HW.out]
    clear HW
    go_region_held3 (fun W => W.cell? ⟨g, o + 1, none⟩ = some (.int .i64 a) ∧ W.cell? ⟨g, o + 2, none⟩ = some (.int .i64 b) ∧ W.cell? ⟨g, o + 3, none⟩ = some (.int .i64 c) ∧ W.cell? ⟨w.heap.size, 0, none⟩ = some (.int .i64 x') ∧ W.cell? ⟨w.heap.size, 1, none⟩ = some (.int .i64 y') ∧ W.cell? ⟨w.heap.size, 2, none⟩ = some (.int .i64 z') ∧ Below w.heap.size w W) (first | (exact keepW6 K0.out (drewG W0)) | (exact keepW6 K0.out y1) | (exact keepW6 K0.out y2) | go_keep) ((first
      | (go_at_call 29; (with_reducible refine (S.out _).mono ?_); rintro e x1 ⟨rfl, hx1⟩; have y1 := undrewG hx1)
      | (go_at_call 81; (with_reducible refine (F.out _).mono ?_); rintro e x2 ⟨rfl, hx2⟩; have y2 := y1.trans (hx2.mono y1.size))))
    all_goals
      rename_i held
      obtain ⟨_, _, m2, _, _, _, m6⟩ := held
      have HB := Lib.hid m6
      clear m6
      go_wp2_with fail
      go_ret
      exact ⟨rfl, HB.out⟩
  · rw [if_neg hd]
    have q0 : (1000 * (c - n)).tdiv c = 1000 * (c - n) / c := Int.tdiv_eq_ediv_of_nonneg (by omega)
    have qb : 0 ≤ 1000 * (c - n) / c := Int.ediv_nonneg (by omega) (by omega)
    have qc : 1000 * (c - n) / c ≤ 1000 := Int.ediv_le_of_le_mul (by omega) (by omega)
    have e3 : IntKind.i64.wrap (1000 * (c - n) / c) = 1000 * (c - n) / c := IntWalk.i64_in _ (by omega)
    have e4 : IntKind.i64.wrap (1000 * (c - n) / c + 1) = 1000 * (c - n) / c + 1 := IntWalk.i64_in _ (by omega)
    have cz : ¬ c = 0 := by omega
    have SB := Lib.hid sb
    clear sb qb qc
    go_enter Tryz.func49, Tryz.ntmps49
    obtain ⟨k0, k1, k2, k3, k4, k5, k6⟩ := K0.out
    go_wp2_with fail
    rw [← HW.out]
    clear HW
    go_region_held3 (fun W => W.cell? ⟨g, o + 1, none⟩ = some (.int .i64 a) ∧ W.cell? ⟨g, o + 2, none⟩ = some (.int .i64 b) ∧ W.cell? ⟨g, o + 3, none⟩ = some (.int .i64 c) ∧ W.cell? ⟨w.heap.size, 0, none⟩ = some (.int .i64 x') ∧ W.cell? ⟨w.heap.size, 1, none⟩ = some (.int .i64 y') ∧ W.cell? ⟨w.heap.size, 2, none⟩ = some (.int .i64 z') ∧ Below w.heap.size w W) (first | (exact keepW6 K0.out (drewG W0)) | (exact keepW6 K0.out y1) | (exact keepW6 K0.out y2) | go_keep) ((first
      | (go_at_call 29; (with_reducible refine (S.out _).mono ?_); rintro e x1 ⟨rfl, hx1⟩; have y1 := undrewG hx1)
      | (go_at_call 81; (with_reducible refine (F.out _).mono ?_); rintro e x2 ⟨rfl, hx2⟩; have y2 := y1.trans (hx2.mono y1.size))))
    all_goals
      rename_i held
      obtain ⟨_, _, m2, _, _, _, m6⟩ := held
      have HB := Lib.hid m6
      clear m6
      go_wp2_with fail
      go_quiet (fail)
      rename Nat => q1
      go_wp2_with fail
      go_ret
      exact ⟨by first | rfl | (simp [q0, e1, e2, e3, e4]), bel_drewNS HB.out _⟩

/-- What RawWeight returns. -/
def rawV (x : StarV) (u v : Int) : Value := if x.good = true then (if spotB u v = true then .tuple #[.int .i64 (rawN x u v), .int .i64 0] else .tuple #[.int .i64 0, .int .i64 2]) else .tuple #[.int .i64 0, .int .i64 1]
theorem rawV_form (x : StarV) (u v : Int) : ∃ a c : Int, rawV x u v = .tuple #[.int .i64 a, .int .i64 c] := by
  unfold rawV
  split
  · split <;> exact ⟨_, _, rfl⟩
  · exact ⟨_, _, rfl⟩

theorem fin_Proj2 : True := trivial
end

section
open Go.RowKit
set_option linter.unusedVariables false

theorem okL_good {zs : List StarV} (h : okL zs = true) : (∀ j, (hj : j < zs.length) → zs[j].good = true) ∧ zs.length ≤ 6 := by
  unfold okL okZ at h
  simp only [Bool.and_eq_true, decide_eq_true_eq, List.all_eq_true, List.mem_range] at h
  refine ⟨fun j hj => ?_, h.2⟩
  have := h.1 j hj
  unfold stepB at this
  rw [getD_at zs j hj, Bool.and_eq_true] at this
  exact this.1
/-- How many of the first j projectors reach a direction. -/
def countN (zs : List StarV) (u v : Int) : Nat → Int
  | 0 => 0
  | j + 1 => if 0 < rawN (zs.getD j star0) u v then countN zs u v j + 1 else countN zs u v j
theorem countN_bd (zs : List StarV) (u v : Int) (j : Nat) : 0 ≤ countN zs u v j ∧ countN zs u v j ≤ j := by
  induction j with
  | zero => exact ⟨Int.le_refl _, Int.le_refl _⟩
  | succ j ih => unfold countN; split <;> omega
theorem unA0P {W u : World} (h : Below W.drew.heap.size W.drew u) : Below W.heap.size W u := ⟨h.os, h.tape, h.output, h.size, h.block⟩
theorem unA1P {W u : World} {o : Obj} (h : Below (W.alloc o).drew.heap.size (W.alloc o).drew u) : Below W.heap.size W u := ((Below.refl _ W).alloc (Nat.le_refl _) o).trans ((unA0P h).mono (by simp))
theorem newA1P {v x : World} {T : TypeId} (l : Below (v.alloc (.cells #[.int .i64 0, .int .i64 0, .int .i64 0] T)).drew.heap.size (v.alloc (.cells #[.int .i64 0, .int .i64 0, .int .i64 0] T)).drew x) : C3 x v.heap.size 0 0 0 := (C3.new v T 0 0 0).stays (unA0P l) (by simp)

theorem fin_Proj3 : True := trivial
end

section
open Go.RowKit
set_option linter.unusedVariables false

def sumK (r : List Int) : Nat → Int
  | 0 => 0
  | j + 1 => sumK r j + r.getD j 0
theorem sumK_bd (r : List Int) (M : Int) (h : ∀ x ∈ r, 0 ≤ x ∧ x ≤ M) (M0 : 0 ≤ M) (j : Nat) (hj : j ≤ r.length) : 0 ≤ sumK r j ∧ sumK r j ≤ M * j := by
  induction j with
  | zero => exact ⟨Int.le_refl _, by simp [sumK]⟩
  | succ j ih =>
    have hm := h _ (List.getElem_mem (show j < r.length by omega))
    have e : r.getD j 0 = r[j]'(by omega) := by rw [List.getD, List.getElem?_eq_getElem (by omega)]; rfl
    have e2 : M * ((j + 1 : Nat) : Int) = M * (j : Int) + M := by rw [Int.natCast_add, Int.mul_add]; simp
    have := ih (by omega)
    unfold sumK
    rw [e, e2]
    omega
theorem sumK_take (r t : List Int) (j : Nat) (hj : j ≤ r.length) : sumK (r ++ t) j = sumK r j := by
  induction j with
  | zero => rfl
  | succ j ih =>
    unfold sumK
    rw [ih (by omega), List.getD, List.getD, List.getElem?_append_left (by omega)]
theorem sumK_get {r : List Int} {M : Int} (h : ∀ x ∈ r, 0 ≤ x ∧ x ≤ M) (M0 : 0 ≤ M) (i : Nat) (hi : i < r.length) (j : Nat) (hj : i < j) (hl : j ≤ r.length) : r[i] ≤ sumK r j := by
  induction j with
  | zero => omega
  | succ j ih =>
    have hm := h _ (List.getElem_mem (show j < r.length by omega))
    have e : r.getD j 0 = r[j]'(by omega) := by rw [List.getD, List.getElem?_eq_getElem (by omega)]; rfl
    have hb := (sumK_bd r M h M0 j (by omega)).1
    unfold sumK
    rw [e]
    by_cases c : i = j
    · subst c
      omega
    · have := ih (by omega) (by omega)
      omega
/-- What is given of 1000, rounded down; and the rests. -/
def downL (s : Int) (r : List Int) : List Int := r.map (fun x => 1000 * x / s)
def restL (s : Int) (r : List Int) : List Int := r.map (fun x => 1000 * x % s)
/-- The first one of the greatest of the first k numbers. -/
def bestK (r : List Int) : Nat → Nat
  | 0 => 0
  | k + 1 => if r.getD (bestK r k) 0 < r.getD k 0 then k else bestK r k
theorem bestK_lt (r : List Int) (k : Nat) (hk : 0 < k) : bestK r k < k := by
  induction k with
  | zero => omega
  | succ k ih =>
    unfold bestK
    split
    · omega
    · rcases Nat.eq_zero_or_pos k with rfl | hp
      · simp [bestK]
      · have := ih hp
        omega
theorem bestK_one (r : List Int) : bestK r 1 = 0 := by
  unfold bestK
  split
  · rfl
  · rfl
/-- n more are given. -/
def giveL : Nat → List Int → List Int → List Int
  | 0, out, _ => out
  | n + 1, out, r => giveL n (out.set (bestK r r.length) (out.getD (bestK r r.length) 0 + 1)) (r.set (bestK r r.length) (-1))
theorem giveL_next (n : Nat) (out r : List Int) : giveL (n + 1) out r = giveL n (out.set (bestK r r.length) (out.getD (bestK r r.length) 0 + 1)) (r.set (bestK r r.length) (-1)) := rfl
theorem giveL_len (n : Nat) (out r : List Int) : (giveL n out r).length = out.length := by
  induction n generalizing out r with
  | zero => rfl
  | succ n ih => rw [giveL_next, ih, List.length_set]
/-- The shares of a whole. -/
def wgtL (r : List Int) : List Int := if sumK r r.length = 0 then [] else giveL (1000 - sumK (downL (sumK r r.length) r) r.length).toNat (downL (sumK r r.length) r) (restL (sumK r r.length) r)
theorem wgtL_len (r : List Int) : (wgtL r).length = if sumK r r.length = 0 then 0 else r.length := by
  unfold wgtL
  split
  · rfl
  · rw [giveL_len]
    simp [downL]
theorem fin_WgtM : True := trivial
end

section
open Go.RowKit
set_option linter.unusedVariables false

theorem info_i64w : (Tryz.prog.info? 2).map (fun i => (i.zero, i.size, i.bytes)) = some (some (.int .i64 0), 1, 8) := by kernel_rfl
/-- A row of numbers of one's own. -/
def IOwn (W : World) (B : Nat) (v : Value) (L : List Int) : Prop := W.ownsRow B 2 1 v L.length (L.map (Value.int .i64))
theorem IOwn.below {w w' : World} {B : Nat} {v : Value} {L : List Int} (h : IOwn w B v L) (hb : Below w.heap.size w w') : IOwn w' B v L :=
  World.ownsRow.kept h (⟨hb.os, hb.tape, hb.output, hb.size, fun k hk _ => hb.block k hk⟩ : w.grownBy w' none) (by cases hv : v.ownBlock <;> simp)
theorem IOwn.lt {w : World} {B : Nat} {v : Value} {L : List Int} (h : IOwn w B v L) : ∀ k, v.ownBlock = some k → B ≤ k ∧ k < w.heap.size := World.ownsRow.lt h
theorem IOwn.other {w w' : World} {B : Nat} {v : Value} {L : List Int} {row : Option Nat} (h : IOwn w B v L) (hg : w.grownBy w' row) (hne : v.ownBlock ≠ row) : IOwn w' B v L := World.ownsRow.kept h hg (Or.inr hne)
theorem IOwn.at {w : World} {B g cap : Nat} {L : List Int} (h : IOwn w B (.slice (some ⟨g, 0, none⟩) L.length cap) L) (j : Nat) (hj : j < L.length) : w.cell? ⟨g, j, none⟩ = some (.int .i64 L[j]) := by
  rw [World.ownsRow.cellAt h j (by omega), List.getElem?_map, List.getElem?_eq_getElem hj]
  rfl
theorem IOwn.put {w : World} {B g cap : Nat} {L : List Int} (h : IOwn w B (.slice (some ⟨g, 0, none⟩) L.length cap) L) (j : Nat) (x : Int) :
    IOwn (w.setCell ⟨g, j, none⟩ (.int .i64 x)) B (.slice (some ⟨g, 0, none⟩) (L.set j x).length cap) (L.set j x) ∧ w.grownBy (w.setCell ⟨g, j, none⟩ (.int .i64 x)) (some g) := by
  have := World.ownsRow.stored h j (.int .i64 x)
  refine ⟨?_, this.2⟩
  unfold IOwn
  rw [List.length_set, List.map_set]
  exact this.1
theorem IOwn.form {w : World} {B : Nat} {v : Value} {L : List Int} (h : IOwn w B v L) (hn : 0 < L.length) : ∃ g cap, v = .slice (some ⟨g, 0, none⟩) L.length cap ∧ B ≤ g ∧ g < w.heap.size := World.ownsRow.form h hn
theorem IOwn.ne {w : World} {B : Nat} {v : Value} {L : List Int} (h : IOwn w (B + 1) v L) : some B ≠ v.ownBlock := fun e => by have := (h.lt _ e.symm).1; omega
theorem IOwn.all {w : World} {B n : Nat} {v : Value} {L : List Int} (h : IOwn w B v (L.take n)) (e : L.length = n) : IOwn w B v L := by
  subst e
  rw [List.take_length] at h
  exact h
theorem IOwn.at' {w : World} {B g n cap : Nat} {L : List Int} (h : IOwn w B (.slice (some ⟨g, 0, none⟩) n cap) L) (e : L.length = n) (j : Nat) (hj : j < n) : w.cell? ⟨g, j, none⟩ = some (.int .i64 (L.getD j 0)) := by
  subst e
  rw [h.at j hj, List.getD, List.getElem?_eq_getElem hj]
  rfl
theorem IOwn.free {w : World} {B g n cap : Nat} {L : List Int} (h : IOwn w B (.slice (some ⟨g, 0, none⟩) n cap) L) (e : L.length = n) (j : Nat) : w.frozen? ⟨g, j, none⟩ = false := by
  subst e
  exact World.ownsRow.frozenAt h j
theorem IOwn.put' {w : World} {B g n cap : Nat} {L : List Int} (h : IOwn w B (.slice (some ⟨g, 0, none⟩) n cap) L) (e : L.length = n) (j : Nat) (x : Int) :
    IOwn (w.setCell ⟨g, j, none⟩ (.int .i64 x)) B (.slice (some ⟨g, 0, none⟩) n cap) (L.set j x) ∧ w.grownBy (w.setCell ⟨g, j, none⟩ (.int .i64 x)) (some g) := by
  subst e
  have := h.put j x
  rw [List.length_set] at this
  exact this
theorem IOwn.lit (w : World) (B : Nat) (hB : B ≤ w.heap.size) : IOwn (w.alloc (.cells #[] 2)) B (.slice (some ⟨w.heap.size, 0, none⟩) 0 0) [] := World.ownsRow_lit (base := B) (e := 2) (size := 1) w #[] 0 hB (by decide) rfl
theorem own_belowI {B C : Nat} {w0 w w1 : World} {v : Value} {L : List Int} {o : Obj} (hown : IOwn w C v L) (hC : B ≤ C) (hb : Below B w0 w) (hB : B ≤ w.heap.size)
    (hg : (w.alloc o).grownBy w1 v.ownBlock) : Below B w0 w1 ∧ B ≤ w1.heap.size := by
  refine ⟨(hb.alloc hB o).grown hg (by simp; omega) (fun k hk => Nat.le_trans hC (hown.lt k hk).1), ?_⟩
  have := hg.size
  simp at this
  omega
theorem own_setI {B C g j : Nat} {w0 w : World} {u : Value} (hC : B ≤ g) (hb : Below B w0 w) : Below B w0 (w.setCell ⟨g, j, none⟩ u) := hb.setCell hC _
theorem boxKeepI {w w1 : World} {a : Addr} {u : Value} {o : Obj} {row : Option Nat} (h : w.cell? a = some u) (hg : (w.alloc o).grownBy w1 row) (hne : some a.block ≠ row) : w1.cell? a = some u :=
  hg.cell (by rw [World.cell?_alloc_lt _ _ _ (World.block_lt_of_cell? w a h)]; exact h) hne
theorem one_cellI (w : World) (T : TypeId) (c : Int) : ∀ (j : Nat) u, [Value.int .i64 c][j]? = some u → (w.alloc (.cells #[.int .i64 c] T)).cell? ((⟨w.heap.size, 0, none⟩ : Addr).add j) = some u := by
  intro j u hj
  match j, hj with
  | 0, hj => simp at hj; subst hj; simp [Addr.add]
theorem one_plainI (c : Int) : ∀ u ∈ [Value.int .i64 c], u.oneCell' = true := by
  intro u hu
  simp at hu
  subst hu
  rfl

theorem new_neI {v v' : Value} {gg N : Nat} (hl : v.ownBlock = some gg ∨ gg = N) (hne : v.ownBlock ≠ v'.ownBlock) (hlt : ∀ k, v'.ownBlock = some k → k < N) : some gg ≠ v'.ownBlock := by
  intro e
  rcases hl with h | h
  · exact hne (h.trans e)
  · have := hlt gg e.symm
    omega
/-- Three rows that lie apart. -/
structure Rows3 (W : World) (B : Nat) (v1 v2 v3 : Value) (L1 L2 L3 : List Int) : Prop where
  o1 : IOwn W B v1 L1
  o2 : IOwn W B v2 L2
  o3 : IOwn W B v3 L3
  n12 : v1.ownBlock ≠ v2.ownBlock
  n13 : v1.ownBlock ≠ v3.ownBlock
  n23 : v2.ownBlock ≠ v3.ownBlock
theorem Rows3.below {W W' : World} {B : Nat} {v1 v2 v3 : Value} {L1 L2 L3 : List Int} (h : Rows3 W B v1 v2 v3 L1 L2 L3) (hb : Below W.heap.size W W') : Rows3 W' B v1 v2 v3 L1 L2 L3 :=
  ⟨h.o1.below hb, h.o2.below hb, h.o3.below hb, h.n12, h.n13, h.n23⟩
theorem Rows3.two {W W5 : World} {B : Nat} {v1 v2 v3 : Value} {L1 L2 L3 : List Int} {o : Obj} {gg cap : Nat} {x : Int} (h : Rows3 W B v1 v2 v3 L1 L2 L3) (hg : (W.alloc o).grownBy W5 v2.ownBlock) (hl : v2.ownBlock = some gg ∨ gg = W.heap.size + 1)
    (hown : W5.ownsRow B 2 1 (.slice (some ⟨gg, 0, none⟩) (L2.length + 1) cap) (L2.length + 1) (L2.map (Value.int .i64) ++ [.int .i64 x])) : Rows3 W5 B v1 (.slice (some ⟨gg, 0, none⟩) (L2.length + 1) cap) v3 L1 (L2 ++ [x]) L3 := by
  have a1 : IOwn (W.alloc o) B v1 L1 := h.o1.below ((Below.refl _ _).alloc (Nat.le_refl _) _)
  have a3 : IOwn (W.alloc o) B v3 L3 := h.o3.below ((Below.refl _ _).alloc (Nat.le_refl _) _)
  refine ⟨a1.other hg h.n12, by unfold IOwn; simpa using hown, a3.other hg (Ne.symm h.n23), ?_, h.n13, ?_⟩
  · exact Ne.symm (new_neI hl (Ne.symm h.n12) (fun k hk => by have := (a1.lt k hk).2; simpa using this))
  · exact new_neI hl h.n23 (fun k hk => by have := (a3.lt k hk).2; simpa using this)
theorem Rows3.swap {W : World} {B : Nat} {v1 v2 v3 : Value} {L1 L2 L3 : List Int} (h : Rows3 W B v1 v2 v3 L1 L2 L3) : Rows3 W B v1 v3 v2 L1 L3 L2 := ⟨h.o1, h.o3, h.o2, h.n13, h.n12, Ne.symm h.n23⟩
theorem Rows3.put2 {W : World} {B g2 n2 c2 : Nat} {v1 v3 : Value} {L1 L2 L3 : List Int} (h : Rows3 W B v1 (.slice (some ⟨g2, 0, none⟩) n2 c2) v3 L1 L2 L3) (e : L2.length = n2) (j : Nat) (x : Int) :
    Rows3 (W.setCell ⟨g2, j, none⟩ (.int .i64 x)) B v1 (.slice (some ⟨g2, 0, none⟩) n2 c2) v3 L1 (L2.set j x) L3 := by
  obtain ⟨p1, p2⟩ := h.o2.put' e j x
  exact ⟨h.o1.other p2 h.n12, p1, h.o3.other p2 (Ne.symm h.n23), h.n12, h.n13, h.n23⟩
theorem downL_next (s : Int) (r : List Int) (j : Nat) (hj : j < r.length) : downL s (r.take (j + 1)) = downL s (r.take j) ++ [1000 * r[j] / s] := by
  unfold downL
  rw [List.take_succ_eq_append_getElem hj, List.map_append]
  rfl
theorem restL_next (s : Int) (r : List Int) (j : Nat) (hj : j < r.length) : restL s (r.take (j + 1)) = restL s (r.take j) ++ [1000 * r[j] % s] := by
  unfold restL
  rw [List.take_succ_eq_append_getElem hj, List.map_append]
  rfl

/-- The raw weights. -/
def rawsL (zs : List StarV) (u v : Int) : List Int := zs.map (fun x => rawN x u v)
theorem rawsL_len (zs : List StarV) (u v : Int) : (rawsL zs u v).length = zs.length := by simp [rawsL]
theorem rawsL_bd {zs : List StarV} (h : ∀ j, (hj : j < zs.length) → zs[j].good = true) (u v : Int) : ∀ x ∈ rawsL zs u v, 0 ≤ x ∧ x ≤ 1001 := by
  intro x hx
  unfold rawsL at hx
  obtain ⟨z, hz, rfl⟩ := List.mem_map.1 hx
  obtain ⟨j, hj, rfl⟩ := List.getElem_of_mem hz
  exact rawN_bd (h j hj) u v
theorem rawsL_at (zs : List StarV) (u v : Int) (j : Nat) (hj : j < zs.length) : (rawsL zs u v)[j]? = some (rawN zs[j] u v) := by
  unfold rawsL
  rw [List.getElem?_map, List.getElem?_eq_getElem hj]
  rfl

set_option maxRecDepth 100000 in
set_option maxHeartbeats 8000000 in
theorem l10Weights_any (g cap : Nat) (zs : List StarV) (u v : Int) (u0 : 0 ≤ u) (u1 : u ≤ 359999) (v0 : -90000 ≤ v) (v1 : v ≤ 90000) (w : World) (hb : zs.length ≤ 6) (h1 : Row w g zs) (hok : ∀ j, (h : j < zs.length) → zs[j].good = true) :
    Calls Tryz.prog 28 #[.slice (some ⟨g, 0, none⟩) zs.length cap, .agg #[.int .i64 (dX u v), .int .i64 (dY u v), .int .i64 (sinI v)]] w fun e w' => ∃ val : Value, e = .returned val ∧ IOwn w' (w.heap.size + 1) val (wgtL (rawsL zs u v)) ∧ Below w.heap.size w w' := by
  have RW := Lib.hid (fun j (hj : j < zs.length) W (hB : Below w.heap.size w W) => l10Raw_at g (j * 5) zs[j] (hok j hj) u v u0 u1 v0 v1 W ((h1.below hB).at j hj))
  have RB := Lib.hid (rawsL_bd hok u v)
  have RA := Lib.hid (rawsL_at zs u v)
  have RL := rawsL_len zs u v
  clear h1 hok u0 u1 v0 v1
  generalize rawsL zs u v = r at *
  generalize hx : dX u v = x at *
  generalize hy : dY u v = y at *
  generalize hz : sinI v = z at *
  clear hx hy hz
  obtain ⟨W0, hW0⟩ : ∃ W0, W0 = (w.alloc (.cells #[.int .i64 x, .int .i64 y, .int .i64 z] 54)) := ⟨_, rfl⟩
  have K0 : Hid (W0.cell? ⟨w.heap.size, 0, none⟩ = some (.int .i64 x) ∧ W0.cell? ⟨w.heap.size, 1, none⟩ = some (.int .i64 y) ∧ W0.cell? ⟨w.heap.size, 2, none⟩ = some (.int .i64 z) ∧ Below w.heap.size w W0) := Lib.hid (by rw [hW0]; exact ⟨by rw [World.cell?_alloc_at _ _ _ _ (by simp)]; rfl, by rw [World.cell?_alloc_at _ _ _ _ (by simp)]; rfl, by rw [World.cell?_alloc_at _ _ _ _ (by simp)]; rfl, (Below.refl _ _).alloc (Nat.le_refl _) _⟩)
  have SZ : Hid (W0.heap.size = w.heap.size + 1) := Lib.hid (by rw [hW0]; simp)
  have HW := Lib.hid hW0
  clear hW0
  have ST : Hid (IOwn (W0.alloc (.cells #[] 2)) (w.heap.size + 1) (.slice (some ⟨w.heap.size + 1, 0, none⟩) 0 0) (r.take 0)) := Lib.hid (by have e := IOwn.lit W0 (w.heap.size + 1) (by rw [SZ.out]; exact Nat.le_refl _); rw [SZ.out] at e; exact e)
  have KS := Lib.hid (keepW3 K0.out ((Below.refl _ W0).alloc (Nat.le_refl _) (.cells #[] 2)))
  obtain ⟨i0, hi, hzz⟩ := Option.map_eq_some_iff.1 info_i64w
  simp only [Prod.mk.injEq] at hzz
  obtain ⟨hz0, hz1, hz2⟩ := hzz
  have HI0 := Lib.hid hi
  have HZ0 := Lib.hid hz0
  have HZ1 := Lib.hid hz1
  have HZ2 := Lib.hid hz2
  clear hi hz0 hz1 hz2
  go_enter Tryz.func28, Tryz.ntmps28
  go_wp2_with fail
  rw [← HW.out]
  clear HW
  go_loopg [5, 6, 7, 8] (zs.length + 1) (fun kx s5 s6 s7 s8 wr => ∃ j : Nat, s6 = .int .i64 (sumK r j) ∧ s7 = .int .i64 (j : Int) ∧ j ≤ zs.length ∧ kx = zs.length + 1 - j ∧ Hid (IOwn wr (w.heap.size + 1) s5 (r.take j)) ∧ Hid (wr.cell? ⟨w.heap.size, 0, none⟩ = some (.int .i64 x) ∧ wr.cell? ⟨w.heap.size, 1, none⟩ = some (.int .i64 y) ∧ wr.cell? ⟨w.heap.size, 2, none⟩ = some (.int .i64 z) ∧ Below w.heap.size w wr))
  case atStart => exact ⟨0, rfl, rfl, Nat.zero_le _, rfl, ST, KS⟩
  case round =>
    obtain ⟨j, rfl, rfl, hj, rfl, HO, KA⟩ := hrel
    by_cases hlt : j < zs.length
    · have j0 : (0 : Int) ≤ (j : Int) := by omega
      have j1 : (j : Int) < (zs.length : Int) := by omega
      have R := Lib.hid (RW.out j hlt)
      have ra := RA.out j hlt
      have hjr : j < r.length := by omega
      have rj : r[j] = rawN zs[j] u v := by
        rw [List.getElem?_eq_getElem hjr] at ra
        exact Option.some.inj ra
      have TK : Hid (r.take (j + 1) = r.take j ++ [rawN zs[j] u v]) := Lib.hid (by rw [← rj]; exact List.take_succ_eq_append_getElem hjr)
      have SN : Hid (sumK r (j + 1) = sumK r j + rawN zs[j] u v) := Lib.hid (by
        show sumK r j + r.getD j 0 = _
        rw [List.getD, ra]
        rfl)
      have sb := sumK_bd r 1001 RB.out (by omega) j (by omega)
      have nb := RB.out _ (List.getElem_mem hjr)
      rw [rj] at nb
      clear ra rj
      have hlen : (r.take j).length ≤ 6 := by rw [List.length_take]; omega
      generalize r.take j = L at *
      generalize rawN zs[j] u v = n at *
      obtain ⟨m, hm⟩ : ∃ m, m = sumK r j := ⟨_, rfl⟩
      rw [← hm] at SN sb ⊢
      have wm : IntKind.i64.wrap (m + n) = m + n := IntWalk.i64_in _ (by omega)
      clear hm
      have KR : Hid (wr.cell? ⟨w.heap.size, 0, none⟩ = some (.int .i64 x) ∧ wr.cell? ⟨w.heap.size, 1, none⟩ = some (.int .i64 y) ∧ wr.cell? ⟨w.heap.size, 2, none⟩ = some (.int .i64 z) ∧ Below wr.heap.size wr wr) := Lib.hid ⟨KA.out.1, KA.out.2.1, KA.out.2.2.1, Below.refl _ _⟩
      obtain ⟨k0, k1, k2, k3⟩ := KR.out
      go_wp2_with fail
      go_region_held3 (fun W => W.cell? ⟨w.heap.size, 0, none⟩ = some (.int .i64 x) ∧ W.cell? ⟨w.heap.size, 1, none⟩ = some (.int .i64 y) ∧ W.cell? ⟨w.heap.size, 2, none⟩ = some (.int .i64 z) ∧ Below wr.heap.size wr W) (first | (exact keepW3 KR.out (drewG wr)) | (exact keepW3 KR.out y1) | go_keep) ((first
        | (go_at_call 49; (with_reducible refine (R.out _ (bel_drew KA.out.2.2.2)).mono ?_); rintro e x1 ⟨rfl, hx1⟩; have y1 := undrewG hx1)))
      all_goals
        rename_i held
        obtain ⟨q0, q1, q2, q3⟩ := held
        have hown := HO.out.below q3
        have hbW := KA.out.2.2.2.trans (q3.mono KA.out.2.2.2.size)
        have hBW := hbW.size
        have hne := HO.out.ne
        have hi := HI0.out
        have hz0 := HZ0.out
        have hz1 := HZ1.out
        have hz2 := HZ2.out
        clear k0 k1 k2 k3
        go_wp2_with (at_builtin; refine wpList_append_lies _ rfl _ _ 24 rfl (w.heap.size + 1) 2 i0 (.int .i64 0) 1 8 Tryz.underlying24 hi hz0 hz1 hz2 rfl (by decide) _ _ _ rfl (World.ownsRow.alloc hown _) ⟨_, 0, none⟩ 1 1 [.int .i64 n] rfl rfl ?c1 ?c2 ?c0 ?c3 ?c4 ?c5 _ rfl ?_)
        case c1 => exact one_cellI _ _ _
        case c2 => exact one_plainI _
        case c0 => omega
        case c3 => unfold maxLen; omega
        case c4 => omega
        case c5 => simp; omega
        intro gg cap2 w5 hown' hgrow hlies hlt3
        obtain ⟨hb3, hs2⟩ := own_belowI hown (Nat.le_succ _) hbW hBW hgrow
        have HO2 : Hid (IOwn w5 (w.heap.size + 1) (.slice (some ⟨gg, 0, none⟩) (L.length + 1) cap2) (L ++ [n])) := Lib.hid (by unfold IOwn; simpa using hown')
        have KA2 : Hid (w5.cell? ⟨w.heap.size, 0, none⟩ = some (.int .i64 x) ∧ w5.cell? ⟨w.heap.size, 1, none⟩ = some (.int .i64 y) ∧ w5.cell? ⟨w.heap.size, 2, none⟩ = some (.int .i64 z) ∧ Below w.heap.size w w5) := Lib.hid ⟨boxKeepI q0 hgrow hne, boxKeepI q1 hgrow hne, boxKeepI q2 hgrow hne, hb3⟩
        clear hown hown' hgrow hb3 hs2 hi hz0 hz1 hz2 hlies q0 q1 q2 q3 hbW hBW hne
        go_wp2_with fail
        go_roundg (zs.length + 1 - (j + 1))
        case measure => omega
        case rel => exact ⟨j + 1, by rw [SN.out], by go_num, by omega, by omega, by rw [TK.out]; exact HO2, KA2⟩
    · obtain rfl : j = zs.length := by omega
      have sb := sumK_bd r 1001 RB.out (by omega) r.length (Nat.le_refl _)
      have SG := Lib.hid (fun i hi => sumK_get RB.out (by omega) i hi r.length hi (Nat.le_refl _))
      have HR := Lib.hid (HO.out.all RL)
      have hsz : w.heap.size < wr.heap.size := World.block_lt_of_cell? _ _ KA.out.1
      have LN : Hid (sumK r r.length ≠ 0 → 0 < r.length) := Lib.hid (fun h => by
        rcases Nat.eq_zero_or_pos r.length with e | e
        · rw [e] at h; exact absurd rfl h
        · exact e)
      have HB := Lib.hid KA.out.2.2.2
      rw [← RL]
      have h6 : r.length ≤ 6 := by omega
      clear RL
      have WD : Hid (wgtL r = if sumK r r.length = 0 then [] else giveL (1000 - sumK (downL (sumK r r.length) r) r.length).toNat (downL (sumK r r.length) r) (restL (sumK r r.length) r)) := Lib.hid rfl
      generalize sumK r r.length = sm at *
      clear HO KA RW RA
      by_cases hz : sm = 0
      · rw [if_pos hz] at WD
        subst hz
        have LT := Lib.hid (IOwn.lit wr (w.heap.size + 1) (by omega))
        go_wp2_with fail
        go_returns
        exact ⟨_, rfl, by rw [WD.out]; exact LT.out, HB.out.alloc HB.out.size _⟩
      · rw [if_neg hz] at WD
        have hn := LN.out hz
        have hzb : (sm == 0) = false := by simpa using hz
        obtain ⟨a, capa, rfl, ha1, ha2⟩ := HR.out.form hn
        obtain ⟨W1, hW1⟩ : ∃ W1, W1 = (wr.alloc (.cells #[] 2)).alloc (.cells #[] 2) := ⟨_, rfl⟩
        have R0 : Hid (Rows3 W1 (w.heap.size + 1) (.slice (some ⟨a, 0, none⟩) r.length capa) (.slice (some ⟨wr.heap.size, 0, none⟩) 0 0) (.slice (some ⟨wr.heap.size + 1, 0, none⟩) 0 0) r [] []) := Lib.hid (by
          rw [hW1]
          refine ⟨HR.out.below (((Below.refl _ _).alloc (Nat.le_refl _) _).alloc (by simp) _), (IOwn.lit wr _ (by omega)).below ((Below.refl _ _).alloc (Nat.le_refl _) _), by have e := IOwn.lit (wr.alloc (.cells #[] 2)) (w.heap.size + 1) (by simp; omega); simpa using e, ?_, ?_, ?_⟩
          · simp [Value.ownBlock]; omega
          · simp [Value.ownBlock]; omega
          · simp [Value.ownBlock])
        have B1 : Hid (Below w.heap.size w W1) := Lib.hid (by rw [hW1]; exact (HB.out.alloc HB.out.size _).alloc (by have := HB.out.size; simp; omega) _)
        have HW1 := Lib.hid hW1
        clear hW1 HR HB ha1 ha2 hsz LN KS K0 ST SZ
        go_wp2_with fail
        rw [← HW1.out]
        clear HW1
        have sm0 : 0 < sm := by omega
        have DB : ∀ x ∈ downL sm r, 0 ≤ x ∧ x ≤ 1001000 := by
          intro x hx
          unfold downL at hx
          obtain ⟨c, hc, rfl⟩ := List.mem_map.1 hx
          have cb := RB.out c hc
          have h1 : 0 ≤ 1000 * c / sm := Int.ediv_nonneg (by omega) (by omega)
          have h2 : 1000 * c / sm ≤ 1000 * c := Int.ediv_le_self _ (by omega)
          omega
        have DL : (downL sm r).length = r.length := by simp [downL]
        have TL : (restL sm r).length = r.length := by simp [restL]
        go_loopg [9, 10, 11, 12, 13] (r.length + 1) (fun kx s9 s10 s11 s12 s13 wx => ∃ j : Nat, s11 = .int .i64 (1000 - sumK (downL sm r) j) ∧ s12 = .int .i64 (j : Int) ∧ j ≤ r.length ∧ kx = r.length + 1 - j ∧ Hid (Rows3 wx (w.heap.size + 1) (.slice (some ⟨a, 0, none⟩) r.length capa) s9 s10 r (downL sm (r.take j)) (restL sm (r.take j))) ∧ Hid (Below w.heap.size w wx))
        case atStart => exact ⟨0, by simp [sumK], rfl, Nat.zero_le _, rfl, by simpa [downL, restL] using R0, B1⟩
        case round =>
          clear R0 B1
          obtain ⟨j, rfl, rfl, hj, rfl, RR, HB⟩ := hrel
          by_cases hlt : j < r.length
          · have j0 : (0 : Int) ≤ (j : Int) := by omega
            have j1 : (j : Int) < (r.length : Int) := by omega
            have AT := Lib.hid (fun (W : World) (h : IOwn W (w.heap.size + 1) (.slice (some ⟨a, 0, none⟩) r.length capa) r) => h.at j hlt)
            have cb := RB.out _ (List.getElem_mem hlt)
            have DN := Lib.hid (downL_next sm r j hlt)
            have TN := Lib.hid (restL_next sm r j hlt)
            have SK : Hid (sumK (downL sm r) (j + 1) = sumK (downL sm r) j + 1000 * r[j] / sm) := Lib.hid (by
              show sumK (downL sm r) j + (downL sm r).getD j 0 = _
              unfold downL
              rw [List.getD, List.getElem?_map, List.getElem?_eq_getElem hlt]
              rfl)
            have sb2 := sumK_bd (downL sm r) 1001000 DB (by omega) j (by omega)
            have l1 : (downL sm (r.take j)).length ≤ 6 := by simp [downL]; omega
            have l2 : (restL sm (r.take j)).length ≤ 6 := by simp [restL]; omega
            have DBh := Lib.hid DB
            generalize r[j] = c at *
            generalize downL sm (r.take j) = D at *
            generalize restL sm (r.take j) = T at *
            obtain ⟨m, hm⟩ : ∃ m, m = sumK (downL sm r) j := ⟨_, rfl⟩
            rw [← hm] at SK sb2 ⊢
            have e1 : IntKind.i64.wrap (1000 * c) = 1000 * c := IntWalk.i64_in _ (by omega)
            have q0 : (1000 * c).tdiv sm = 1000 * c / sm := Int.tdiv_eq_ediv_of_nonneg (by omega)
            have q1 : (1000 * c).tmod sm = 1000 * c % sm := Int.tmod_eq_emod_of_nonneg (by omega)
            have d0 : 0 ≤ 1000 * c / sm := Int.ediv_nonneg (by omega) (by omega)
            have d1 : 1000 * c / sm ≤ 1000 * c := Int.ediv_le_self _ (by omega)
            have r0 : 0 ≤ 1000 * c % sm := Int.emod_nonneg _ (by omega)
            have r1 : 1000 * c % sm < sm := Int.emod_lt_of_pos _ sm0
            generalize 1000 * c / sm = sh at *
            generalize 1000 * c % sm = rs at *
            have e2 : IntKind.i64.wrap sh = sh := IntWalk.i64_in _ (by omega)
            have e3 : IntKind.i64.wrap rs = rs := IntWalk.i64_in _ (by omega)
            have e4 : IntKind.i64.wrap (1000 - m - sh) = 1000 - m - sh := IntWalk.i64_in _ (by omega)
            have E5 : Hid (1000 - (m + sh) = 1000 - m - sh) := Lib.hid (by omega)
            have hzz : ¬ sm = 0 := hz
            have c0 := AT.out _ RR.out.o1
            have o2 := RR.out.o2
            have hsz2 := HB.out.size
            have hi := HI0.out
            have hz0 := HZ0.out
            have hz1 := HZ1.out
            have hz2 := HZ2.out
            clear hm DB
            go_wp2_with (at_builtin; refine wpList_append_lies _ rfl _ _ 24 rfl (w.heap.size + 1) 2 i0 (.int .i64 0) 1 8 Tryz.underlying24 hi hz0 hz1 hz2 rfl (by decide) _ _ _ rfl (World.ownsRow.alloc o2 _) ⟨_, 0, none⟩ 1 1 [.int .i64 sh] rfl rfl ?c1 ?c2 ?c0 ?c3 ?c4 ?c5 _ rfl ?_)
            case c1 => exact one_cellI _ _ _
            case c2 => exact one_plainI _
            case c0 => omega
            case c3 => unfold maxLen; omega
            case c4 => omega
            case c5 => simp; omega
            intro gg cap2 w5 hown' hgrow hlies hlt3
            have RR5 := Lib.hid (RR.out.two hgrow hlies hown')
            obtain ⟨hb5, hs5⟩ := own_belowI o2 (Nat.le_succ _) HB.out HB.out.size hgrow
            have HB5 := Lib.hid hb5
            have c5 := AT.out _ RR5.out.o1
            have o3 := RR5.out.o3
            clear hown' hgrow hlies hb5 c0 o2
            go_wp2_with (at_builtin; refine wpList_append_lies _ rfl _ _ 24 rfl (w.heap.size + 1) 2 i0 (.int .i64 0) 1 8 Tryz.underlying24 hi hz0 hz1 hz2 rfl (by decide) _ _ _ rfl (World.ownsRow.alloc o3 _) ⟨_, 0, none⟩ 1 1 [.int .i64 rs] rfl rfl ?b1 ?b2 ?b0 ?b3 ?b4 ?b5 _ rfl ?_)
            case b1 => exact one_cellI _ _ _
            case b2 => exact one_plainI _
            case b0 => omega
            case b3 => unfold maxLen; omega
            case b4 => omega
            case b5 => simp; omega
            intro gg7 cap7 w7 hown7 hgrow7 hlies7 hlt7
            have RR7 := Lib.hid ((RR5.out.swap).two hgrow7 hlies7 hown7).swap
            obtain ⟨hb7, hs7⟩ := own_belowI o3 (Nat.le_succ _) HB5.out HB5.out.size hgrow7
            have HB7 := Lib.hid hb7
            clear hown7 hgrow7 hlies7 hb7 c5 o3 hi hz0 hz1 hz2
            go_wp2_with fail
            go_roundg (r.length + 1 - (j + 1))
            case measure => omega
            case rel => exact ⟨j + 1, by rw [SK.out, E5.out], by go_num, by omega, by omega, by rw [DN.out, TN.out]; exact RR7, HB7⟩
          · obtain rfl : j = r.length := by omega
            have RF := RR.out
            rw [List.take_length] at RF
            obtain ⟨b, capb, hv9, hb1, _⟩ := RF.o2.form (by omega)
            obtain ⟨c, capc, hv10, hc1, _⟩ := RF.o3.form (by omega)
            rw [DL] at hv9
            rw [TL] at hv10
            subst hv9 hv10
            have DB2 : Hid (∀ x ∈ downL sm r, 0 ≤ x ∧ x + (1000 - sumK (downL sm r) r.length) ≤ 2000000) := Lib.hid (fun x hx => by
              have h1 := DB x hx
              have h2 := (sumK_bd (downL sm r) 1001000 DB (by omega) r.length (by omega)).1
              omega)
            have sbd := sumK_bd (downL sm r) 1001000 DB (by omega) r.length (by omega)
            have RFh := Lib.hid RF
            have WD2 := Lib.hid WD.out
            clear RR RF DB WD
            generalize hL0 : 1000 - sumK (downL sm r) r.length = left0 at *
            have hl1 : left0 ≤ 1000 := by omega
            have hl2 : -7000000 ≤ left0 := by omega
            clear hL0 sbd
            generalize hD0 : downL sm r = D0 at *
            generalize hT0 : restL sm r = T0 at *
            clear hD0 hT0
            go_wp2_with fail
            go_loopg [11, 14, 15] (left0.toNat) (fun kx s11 s14 s15 wx => ∃ (left : Int) (D T : List Int), s11 = .int .i64 left ∧ left ≤ 1000 ∧ -7000000 ≤ left ∧ kx = left.toNat ∧ D.length = r.length ∧ T.length = r.length ∧ Hid (wgtL r = giveL left.toNat D T) ∧ Hid (∀ x ∈ D, 0 ≤ x ∧ x + left ≤ 2000000) ∧ Hid (Rows3 wx (w.heap.size + 1) (.slice (some ⟨a, 0, none⟩) r.length capa) (.slice (some ⟨b, 0, none⟩) r.length capb) (.slice (some ⟨c, 0, none⟩) r.length capc) r D T) ∧ Hid (Below w.heap.size w wx))
            case atStart => exact ⟨left0, D0, T0, rfl, hl1, hl2, rfl, DL, TL, WD2, DB2, RFh, HB⟩
            case round =>
              clear RFh DB2 WD2 HB DL TL
              obtain ⟨left, D, T, rfl, hl1, hl2, rfl, DL, TL, WR, DB, RR, HB⟩ := hrel
              by_cases hpos : 0 < left
              · have B1 : Hid (bestK T 1 = 0) := Lib.hid (bestK_one T)
                have BN : Hid (∀ k, bestK T (k + 1) = if T.getD (bestK T k) 0 < T.getD k 0 then k else bestK T k) := Lib.hid (fun k => rfl)
                have BL : Hid (∀ k, 0 < k → bestK T k < k) := Lib.hid (bestK_lt T)
                have GN : Hid (giveL left.toNat D T = giveL (left - 1).toNat (D.set (bestK T r.length) (D.getD (bestK T r.length) 0 + 1)) (T.set (bestK T r.length) (-1))) := Lib.hid (by
                  obtain ⟨n, hn⟩ : ∃ n, left.toNat = n + 1 := ⟨left.toNat - 1, by omega⟩
                  rw [hn, giveL_next, TL, show (left - 1).toNat = n by omega])
                generalize bestK T = bk at *
                go_wp2_with fail
                go_loopg [14, 15] (r.length) (fun kx s14 s15 wy => ∃ k : Nat, s14 = .int .i64 ((bk k : Nat) : Int) ∧ s15 = .int .i64 (k : Int) ∧ 1 ≤ k ∧ k ≤ r.length ∧ kx = r.length - k + 1 ∧ Hid (Rows3 wy (w.heap.size + 1) (.slice (some ⟨a, 0, none⟩) r.length capa) (.slice (some ⟨b, 0, none⟩) r.length capb) (.slice (some ⟨c, 0, none⟩) r.length capc) r D T) ∧ Hid (Below w.heap.size w wy))
                case atStart => exact ⟨1, by rw [B1.out]; rfl, rfl, Nat.le_refl _, by omega, by omega, RR, HB⟩
                case round =>
                  clear RR HB
                  obtain ⟨k, rfl, rfl, hk1, hk, rfl, RR, HB⟩ := hrel
                  have hbk := BL.out k (by omega)
                  by_cases hlt : k < r.length
                  · have c1 := RR.out.o3.at' TL k hlt
                    have c2 := RR.out.o3.at' TL (bk k) (by omega)
                    have BNk := Lib.hid (BN.out k)
                    have k0 : (0 : Int) ≤ (k : Int) := by omega
                    have k1 : (k : Int) < (r.length : Int) := by omega
                    obtain ⟨p, hp⟩ : ∃ p, p = bk k := ⟨_, rfl⟩
                    rw [← hp] at c2 BNk hbk ⊢
                    have p0 : (0 : Int) ≤ (p : Int) := by omega
                    have p1 : (p : Int) < (r.length : Int) := by omega
                    clear hp
                    generalize T.getD k 0 = tk at *
                    generalize T.getD p 0 = tb at *
                    by_cases hgt : tb < tk
                    · rw [if_pos hgt] at BNk
                      go_wp2_with fail
                      go_quiet (fail)
                      rename Nat => q1
                      go_wp2_with fail
                      go_roundg (r.length - (k + 1) + 1)
                      case measure => omega
                      case rel => exact ⟨k + 1, by rw [BNk.out], by go_num, by omega, by omega, by omega, Lib.hid (RR.out.below (bel_drewNS (Below.refl _ _) _)), Lib.hid (bel_drewNS HB.out _)⟩
                    · rw [if_neg hgt] at BNk
                      go_wp2_with fail
                      go_quiet (fail)
                      rename Nat => q1
                      go_wp2_with fail
                      go_roundg (r.length - (k + 1) + 1)
                      case measure => omega
                      case rel => exact ⟨k + 1, by rw [BNk.out], by go_num, by omega, by omega, by omega, Lib.hid (RR.out.below (bel_drewNS (Below.refl _ _) _)), Lib.hid (bel_drewNS HB.out _)⟩
                  · obtain rfl : k = r.length := by omega
                    obtain ⟨p, hp⟩ : ∃ p, p = bk r.length := ⟨_, rfl⟩
                    rw [← hp] at hbk GN ⊢
                    clear hp BN BL B1
                    have p0 : (0 : Int) ≤ (p : Int) := by omega
                    have p1 : (p : Int) < (r.length : Int) := by omega
                    have c1 := RR.out.o2.at' DL p hbk
                    have f1 := RR.out.o2.free DL p
                    have dx := DB.out (D.getD p 0) (by rw [List.getD, List.getElem?_eq_getElem (by omega)]; exact List.getElem_mem _)
                    generalize D.getD p 0 = d at *
                    have wd : IntKind.i64.wrap (d + 1) = d + 1 := IntWalk.i64_in _ (by omega)
                    have wl : IntKind.i64.wrap (left - 1) = left - 1 := IntWalk.i64_in _ (by omega)
                    have R2 := Lib.hid (RR.out.put2 DL p (d + 1))
                    have R3 := Lib.hid ((R2.out.swap).put2 TL p (-1)).swap
                    have f3 := R2.out.o3.free TL p
                    have c3 := R2.out.o3.at' TL p hbk
                    have HB2 := Lib.hid ((HB.out.setCell (show w.heap.size ≤ (⟨b, p, none⟩ : Addr).block by show w.heap.size ≤ b; omega) (.int .i64 (d + 1))).setCell (show w.heap.size ≤ (⟨c, p, none⟩ : Addr).block by show w.heap.size ≤ c; omega) (.int .i64 (-1)))
                    have D2 : Hid (∀ y ∈ D.set p (d + 1), 0 ≤ y ∧ y + (left - 1) ≤ 2000000) := Lib.hid (fun y hy => by
                      rcases List.mem_or_eq_of_mem_set hy with h | rfl
                      · have := DB.out y h
                        omega
                      · omega)
                    have L2 : (D.set p (d + 1)).length = r.length := by rw [List.length_set]; exact DL
                    have L3 : (T.set p (-1)).length = r.length := by rw [List.length_set]; exact TL
                    have WR2 : Hid (wgtL r = giveL (left - 1).toNat (D.set p (d + 1)) (T.set p (-1))) := Lib.hid (WR.out.trans GN.out)
                    clear DB WR GN
                    go_wp2_with fail
                    go_roundg ((left - 1).toNat)
                    case measure => omega
                    case rel => exact ⟨left - 1, D.set p (d + 1), T.set p (-1), by first | rfl | simp [wl], by omega, by omega, rfl, L2, L3, WR2, D2, R3, HB2⟩
              · have hz3 : left.toNat = 0 := by omega
                have WF : Hid (wgtL r = D) := Lib.hid (by rw [WR.out, hz3]; rfl)
                clear hz3 DB
                go_wp2_with fail
                go_returns
                exact ⟨_, rfl, by rw [WF.out]; exact RR.out.o2, HB.out⟩
theorem fin_Wgt1 : True := trivial
end

section
open Go.RowKit
set_option linter.unusedVariables false

/-- What WeightsAt returns. -/
def wgtR (zs : List StarV) (u v : Int) : List Int × Int := if okL zs = true then (if spotB u v = true then (if (wgtL (rawsL zs u v)).length = 0 then ([], 3) else (wgtL (rawsL zs u v), 0)) else ([], 2)) else ([], 1)
def WgtPost (R : List Int × Int) (w : World) (e : Ending) (w' : World) : Prop :=
  ∃ v, e = .returned (.tuple #[v, .int .i64 R.2]) ∧ w'.ownsRow w.heap.size 2 1 v R.1.length (R.1.map (Value.int .i64)) ∧ Below w.heap.size w w'
theorem own_downW {w : World} {B C : Nat} {e : TypeId} {n : Nat} {v : Value} {xs : List Value} (h : w.ownsRow C e 1 v n xs) (hB : B ≤ C) : w.ownsRow B e 1 v n xs :=
  ⟨h.1, h.2.imp id fun ⟨g, cap, cur, h1, h2, h3⟩ => ⟨g, cap, cur, h1, Nat.le_trans hB h2, h3⟩⟩
theorem giveL_bd (n : Nat) (D T : List Int) (M : Int) (h : ∀ x ∈ D, 0 ≤ x ∧ x ≤ M) : ∀ x ∈ giveL n D T, 0 ≤ x ∧ x ≤ M + n := by
  induction n generalizing D T M with
  | zero => intro x hx; have := h x hx; omega
  | succ n ih =>
    intro x hx
    rw [giveL_next] at hx
    have := ih _ _ (M + 1) (fun y hy => by
      rcases List.mem_or_eq_of_mem_set hy with h1 | rfl
      · have := h y h1
        omega
      · by_cases c : bestK T T.length < D.length
        · have := h (D.getD (bestK T T.length) 0) (by rw [List.getD, List.getElem?_eq_getElem c]; exact List.getElem_mem _)
          omega
        · rw [List.set_eq_of_length_le (by omega)] at hy
          have := h _ hy
          omega) x hx
    omega

set_option maxRecDepth 100000 in
set_option maxHeartbeats 2000000 in
theorem specWeights_any (g cap : Nat) (zs : List StarV) (u v : Int) (w : World) (hb : zs.length ≤ 1048577) (h1 : Row w g zs) :
    Calls Tryz.prog 8 #[.slice (some ⟨g, 0, none⟩) zs.length cap, .int .i64 u, .int .i64 v] w (WgtPost (wgtR zs u v) w) := by
  have OK := Lib.hid (l10Ok_any g cap zs w hb h1)
  have SP := Lib.hid (fun w => l10Spot_any u v w)
  cases hk : okL zs with
  | false =>
    have HR : Hid (wgtR zs u v = ([], 1)) := Lib.hid (by unfold wgtR; rw [hk, if_neg (by simp)])
    rw [hk] at OK
    clear hk h1
    go_enter Tryz.func8, Tryz.ntmps8
    go_wp2_with fail
    refine (OK.out).mono ?_
    rintro e w1 ⟨rfl, hb⟩
    have hsw1 := hb.size
    try simp at hsw1
    obtain ⟨hcw1, hfw1⟩ := bcell hb
    have HBw1 : Hid (Below w.heap.size w w1) := by
      apply Lib.hid
      refine Below.trans ?_ (hb.mono ?_)
      · repeat (first | exact Below.refl _ _ | refine Below.setCell ?_ (by first | (simp; done) | omega | (simp; omega)) _ | refine Below.alloc ?_ (by first | (simp; done) | omega | (simp; omega)) _)
      · first | (simp; done) | omega | (simp; omega)
    clear hb
    go_wp2_with fail
    go_returns
    exact ⟨_, by rw [HR.out]; rfl, by rw [HR.out]; exact World.ownsRow_nil _ _ _ _, HBw1.out⟩
  | true =>
    rw [hk] at OK
    cases hs : spotB u v with
    | false =>
      have HR : Hid (wgtR zs u v = ([], 2)) := Lib.hid (by unfold wgtR; rw [hk, hs, if_pos rfl, if_neg (by simp)])
      rw [hs] at SP
      clear hk hs h1
      go_enter Tryz.func8, Tryz.ntmps8
      go_wp2_with fail
      refine (OK.out).mono ?_
      rintro e w1 ⟨rfl, hb⟩
      have hsw1 := hb.size
      try simp at hsw1
      obtain ⟨hcw1, hfw1⟩ := bcell hb
      have HBw1 : Hid (Below w.heap.size w w1) := by
        apply Lib.hid
        refine Below.trans ?_ (hb.mono ?_)
        · repeat (first | exact Below.refl _ _ | refine Below.setCell ?_ (by first | (simp; done) | omega | (simp; omega)) _ | refine Below.alloc ?_ (by first | (simp; done) | omega | (simp; omega)) _)
        · first | (simp; done) | omega | (simp; omega)
      clear hb
      go_wp2_with fail
      refine (SP.out _).mono ?_
      rintro e w' ⟨rfl, rfl⟩
      go_wp2_with fail
      go_returns
      exact ⟨_, by rw [HR.out]; rfl, by rw [HR.out]; exact World.ownsRow_nil _ _ _ _, HBw1.out⟩
    | true =>
      obtain ⟨hgood, h6⟩ := okL_good hk
      obtain ⟨⟨u0, u1⟩, v0, v1⟩ := spotB_bd hs
      have WG := Lib.hid (fun W (hB : Below w.heap.size w W) => l10Weights_any g cap zs u v u0 u1 (by omega) v1 W h6 (h1.below hB) hgood)
      have D := Lib.hid (fun w => l04Direction_any u v (by omega) (by omega) (by omega) (by omega) w)
      change Hid (∀ w, Calls Tryz.prog 29 #[.int .i64 u, .int .i64 v] w fun e w' => e = .returned (.agg #[.int .i64 (dX u v), .int .i64 (dY u v), .int .i64 (sinI v)]) ∧ Below w.heap.size w w') at D
      have HR : Hid (wgtR zs u v = if (wgtL (rawsL zs u v)).length = 0 then ([], 3) else (wgtL (rawsL zs u v), 0)) := Lib.hid (by unfold wgtR; rw [hk, hs, if_pos rfl, if_pos rfl])
      rw [hs] at SP
      clear hk hs h1 u0 u1 v0 v1 hgood
      generalize wgtL (rawsL zs u v) = L at *
      generalize dX u v = x at *
      generalize dY u v = y at *
      generalize sinI v = z at *
      go_enter Tryz.func8, Tryz.ntmps8
      go_wp2_with fail
      refine (OK.out).mono ?_
      rintro e w1 ⟨rfl, hb⟩
      have hsw1 := hb.size
      try simp at hsw1
      obtain ⟨hcw1, hfw1⟩ := bcell hb
      have HBw1 : Hid (Below w.heap.size w w1) := by
        apply Lib.hid
        refine Below.trans ?_ (hb.mono ?_)
        · repeat (first | exact Below.refl _ _ | refine Below.setCell ?_ (by first | (simp; done) | omega | (simp; omega)) _ | refine Below.alloc ?_ (by first | (simp; done) | omega | (simp; omega)) _)
        · first | (simp; done) | omega | (simp; omega)
      clear hb
      go_wp2_with fail
      refine (SP.out _).mono ?_
      rintro e w' ⟨rfl, rfl⟩
      go_wp2_with fail
      refine (D.out _).mono ?_
      rintro e w2 ⟨rfl, hb2⟩
      have HB2 := Lib.hid (HBw1.out.trans (hb2.mono HBw1.out.size))
      clear hb2
      go_wp2_with fail
      refine (WG.out _ HB2.out).mono ?_
      rintro e w3 ⟨val, rfl, hown, hb3⟩
      have HB3 := Lib.hid (HB2.out.trans (hb3.mono HB2.out.size))
      by_cases h0 : L.length = 0
      · have hv : ∃ a c, val = .slice a 0 c := by
          rcases hown.2 with ⟨hv, _⟩ | ⟨a, c, _, hv, _⟩
          · exact ⟨_, _, hv⟩
          · exact ⟨_, _, by rw [h0] at hv; exact hv⟩
        obtain ⟨a, c, rfl⟩ := hv
        have HR2 := Lib.hid (HR.out.trans (if_pos h0))
        clear hb3 hown HR h0
        go_wp2_with fail
        go_returns
        exact ⟨_, by rw [HR2.out]; rfl, by rw [HR2.out]; exact World.ownsRow_nil _ _ _ _, HB3.out⟩
      · obtain ⟨a, c, rfl, _, _⟩ := hown.form (by omega)
        have HR2 := Lib.hid (HR.out.trans (if_neg h0))
        have HO := Lib.hid (own_downW hown (show w.heap.size ≤ w2.heap.size + 1 by have := HB2.out.size; omega))
        have hl0 : ¬ (L.length : Int) = 0 := by omega
        clear hb3 hown HR h0
        go_wp2_with fail
        go_returns
        exact ⟨_, by rw [HR2.out]; rfl, by rw [HR2.out]; exact HO.out, HB3.out⟩
theorem fin_Wgt2 : True := trivial
end

section
open Go.RowKit
set_option linter.unusedVariables false

theorem wgtL_bd (r : List Int) (h : ∀ x ∈ r, 0 ≤ x ∧ x ≤ 1001) : ∀ x ∈ wgtL r, 0 ≤ x ∧ x ≤ 1002000 := by
  intro x hx
  unfold wgtL at hx
  split at hx
  · cases hx
  · next hz =>
    have sb := (sumK_bd r 1001 h (by omega) r.length (Nat.le_refl _)).1
    have DB : ∀ y ∈ downL (sumK r r.length) r, 0 ≤ y ∧ y ≤ 1001000 := by
      intro y hy
      unfold downL at hy
      obtain ⟨c, hc, rfl⟩ := List.mem_map.1 hy
      have cb := h c hc
      have h1 : 0 ≤ 1000 * c / sumK r r.length := Int.ediv_nonneg (by omega) (by omega)
      have h2 : 1000 * c / sumK r r.length ≤ 1000 * c := Int.ediv_le_self _ (by omega)
      omega
    have s2 := (sumK_bd (downL (sumK r r.length) r) 1001000 DB (by omega) r.length (by simp [downL])).1
    have := giveL_bd _ _ _ 1001000 DB x hx
    omega
/-- The sum of shares times powers. -/
def sumP (zs : List StarV) (L : List Int) : Nat → Int
  | 0 => 0
  | j + 1 => sumP zs L j + L.getD j 0 * (zs.getD j star0).d
/-- The brightness at a direction; -1 if it is dark. -/
def brightN (zs : List StarV) (u v : Int) : Int := if (wgtL (rawsL zs u v)).length = 0 then -1 else sumP zs (wgtL (rawsL zs u v)) (wgtL (rawsL zs u v)).length / 1000
theorem sumP_bd (zs : List StarV) (L : List Int) (h : ∀ x ∈ L, 0 ≤ x ∧ x ≤ 1002000) (hd : ∀ j, (hj : j < zs.length) → 1 ≤ zs[j].d ∧ zs[j].d ≤ 1000) (hl : L.length ≤ zs.length) (j : Nat) (hj : j ≤ L.length) : 0 ≤ sumP zs L j ∧ sumP zs L j ≤ 1002000000 * j := by
  induction j with
  | zero => exact ⟨Int.le_refl _, by simp [sumP]⟩
  | succ j ih =>
    have hm := h _ (List.getElem_mem (show j < L.length by omega))
    have hdj := hd j (by omega)
    have e : L.getD j 0 = L[j]'(by omega) := by rw [List.getD, List.getElem?_eq_getElem (by omega)]; rfl
    have e2 : zs.getD j star0 = zs[j]'(by omega) := getD_at zs j (by omega)
    have := ih (by omega)
    have p1 : 0 ≤ L[j]'(by omega) * (zs[j]'(by omega)).d := Int.mul_nonneg hm.1 (by omega)
    have p2 := pr_bd (L[j]'(by omega)) ((zs[j]'(by omega)).d) 1002000 1000 (by omega) (by omega) (by omega) (by omega)
    unfold sumP
    rw [e, e2]
    omega

set_option maxRecDepth 100000 in
set_option maxHeartbeats 4000000 in
theorem l10Bright_any (g cap : Nat) (zs : List StarV) (u v : Int) (u0 : 0 ≤ u) (u1 : u ≤ 359999) (v0 : -90000 ≤ v) (v1 : v ≤ 90000) (w : World) (hb : zs.length ≤ 6) (h1 : Row w g zs) (hok : ∀ j, (h : j < zs.length) → zs[j].good = true) :
    Calls Tryz.prog 33 #[.slice (some ⟨g, 0, none⟩) zs.length cap, .agg #[.int .i64 (dX u v), .int .i64 (dY u v), .int .i64 (sinI v)]] w fun e w' => e = .returned (.int .i64 (brightN zs u v)) ∧ Below w.heap.size w w' := by
  have WG := Lib.hid (fun W (hB : Below w.heap.size w W) => l10Weights_any g cap zs u v u0 u1 v0 v1 W hb (h1.below hB) hok)
  have H1 := Lib.hid (fun W (hB : Below w.heap.size w W) => (h1.below hB : Row W g zs))
  have hd : ∀ j, (hj : j < zs.length) → 1 ≤ zs[j].d ∧ zs[j].d ≤ 1000 := fun j hj => (starB_bd (hok j hj)).2.2.2
  have LB := wgtL_bd _ (rawsL_bd hok u v)
  have LL := wgtL_len (rawsL zs u v)
  rw [rawsL_len] at LL
  have hll : (wgtL (rawsL zs u v)).length ≤ zs.length := by rw [LL]; split <;> omega
  have SB := sumP_bd zs _ LB hd hll
  have BR : Hid (brightN zs u v = if (wgtL (rawsL zs u v)).length = 0 then -1 else sumP zs (wgtL (rawsL zs u v)) (wgtL (rawsL zs u v)).length / 1000) := Lib.hid rfl
  clear LL u0 u1 v0 v1 h1 hok
  generalize wgtL (rawsL zs u v) = L at *
  generalize brightN zs u v = res at *
  generalize hx : dX u v = x at *
  generalize hy : dY u v = y at *
  generalize hz : sinI v = z at *
  clear hx hy hz
  obtain ⟨W0, hW0⟩ : ∃ W0, W0 = (w.alloc (.cells #[.int .i64 x, .int .i64 y, .int .i64 z] 54)) := ⟨_, rfl⟩
  have K0 : Hid (W0.cell? ⟨w.heap.size, 0, none⟩ = some (.int .i64 x) ∧ W0.cell? ⟨w.heap.size, 1, none⟩ = some (.int .i64 y) ∧ W0.cell? ⟨w.heap.size, 2, none⟩ = some (.int .i64 z) ∧ Below w.heap.size w W0) := Lib.hid (by rw [hW0]; exact ⟨by rw [World.cell?_alloc_at _ _ _ _ (by simp)]; rfl, by rw [World.cell?_alloc_at _ _ _ _ (by simp)]; rfl, by rw [World.cell?_alloc_at _ _ _ _ (by simp)]; rfl, (Below.refl _ _).alloc (Nat.le_refl _) _⟩)
  have HW := Lib.hid hW0
  clear hW0
  go_enter Tryz.func33, Tryz.ntmps33
  obtain ⟨k0, k1, k2, k3⟩ := K0.out
  go_wp2_with fail
  rw [← HW.out]
  clear HW
  refine (WG.out _ K0.out.2.2.2).mono ?_
  rintro e w1 ⟨val, rfl, hown, hb1⟩
  have HB1 := Lib.hid (K0.out.2.2.2.trans (hb1.mono K0.out.2.2.2.size))
  by_cases h0 : L.length = 0
  · have hv : ∃ a c, val = .slice a 0 c := by
      rcases hown.2 with ⟨hv, _⟩ | ⟨a, c, _, hv, _⟩
      · exact ⟨_, _, hv⟩
      · exact ⟨_, _, by rw [h0] at hv; exact hv⟩
    obtain ⟨a, c, rfl⟩ := hv
    have BR2 := BR.out.trans (if_pos h0)
    clear hb1 hown BR h0 SB LB hd k0 k1 k2 k3
    subst BR2
    go_wp2_with fail
    go_ret
    exact ⟨rfl, HB1.out⟩
  · obtain ⟨a, c, rfl, _, _⟩ := hown.form (by omega)
    have BR2 := Lib.hid (BR.out.trans (if_neg h0))
    have HO := Lib.hid hown
    have hl0 : ¬ (L.length : Int) = 0 := by omega
    have hlz : ((L.length : Int) == 0) = false := by simpa using hl0
    have S0 : Hid (sumP zs L 0 = 0) := Lib.hid rfl
    have SN : Hid (∀ j, sumP zs L (j + 1) = sumP zs L j + L.getD j 0 * (zs.getD j star0).d) := Lib.hid (fun j => rfl)
    clear hb1 hown BR h0 k0 k1 k2 k3 K0 WG
    have SBh := Lib.hid SB
    clear SB
    generalize sumP zs L = S at *
    go_wp2_with fail
    go_loopg [6, 7] (L.length + 1) (fun kx s6 s7 wr => ∃ j : Nat, s6 = .int .i64 (S j) ∧ s7 = .int .i64 (j : Int) ∧ j ≤ L.length ∧ kx = L.length + 1 - j ∧ Hid (Below w1.heap.size w1 wr))
    case atStart => exact ⟨0, by rw [S0.out], rfl, Nat.zero_le _, rfl, Lib.hid (Below.refl _ _)⟩
    case round =>
      obtain ⟨j, rfl, rfl, hj, rfl, HB⟩ := hrel
      by_cases hlt : j < L.length
      · have hjz : j < zs.length := by omega
        have j0 : (0 : Int) ≤ (j : Int) := by omega
        have j1 : (j : Int) < (L.length : Int) := by omega
        have j2 : (j : Int) < (zs.length : Int) := by omega
        have c0 := (HO.out.below HB.out).at j hlt
        have c4 := ((H1.out _ (HB1.out.trans (HB.out.mono HB1.out.size))).at j hjz).c4
        have SNj := Lib.hid (SN.out j)
        have sb := SBh.out j hj
        have lb := LB _ (List.getElem_mem hlt)
        have db := hd j hjz
        rw [show L.getD j 0 = L[j] by rw [List.getD, List.getElem?_eq_getElem hlt]; rfl, getD_at zs j hjz] at SNj
        generalize L[j] = p at *
        generalize zs[j].d = d at *
        have p1 : 0 ≤ p * d := Int.mul_nonneg lb.1 (by omega)
        have p2 := pr_bd p d 1002000 1000 (by omega) (by omega) (by omega) (by omega)
        obtain ⟨m, hm⟩ : ∃ m, m = S j := ⟨_, rfl⟩
        rw [← hm] at SNj sb ⊢
        have w1' : IntKind.i64.wrap (p * d) = p * d := IntWalk.i64_in _ (by omega)
        have w2' : IntKind.i64.wrap (m + p * d) = m + p * d := IntWalk.i64_in _ (by omega)
        clear hm p1 p2 lb db
        go_wp2_with fail
        first
        | (go_roundg (L.length + 1 - (j + 1))
           case measure => omega
           case rel => exact ⟨j + 1, by rw [SNj.out], by go_num, by omega, by omega, HB⟩)
        | (go_quiet (fail)
           rename Nat => q1
           go_wp2_with fail
           go_roundg (L.length + 1 - (j + 1))
           case measure => omega
           case rel => exact ⟨j + 1, by rw [SNj.out], by go_num, by omega, by omega, Lib.hid (bel_drewNS HB.out _)⟩)
      · obtain rfl : j = L.length := by omega
        have sb := SBh.out L.length (Nat.le_refl _)
        have HF := Lib.hid (HB1.out.trans (HB.out.mono HB1.out.size))
        have BR3 := BR2.out
        generalize S L.length = m at *
        have q0 : m.tdiv 1000 = m / 1000 := Int.tdiv_eq_ediv_of_nonneg (by omega)
        have e3 : IntKind.i64.wrap (m / 1000) = m / 1000 := IntWalk.i64_in _ (by omega)
        go_wp2_with fail
        go_ret
        exact ⟨by rw [BR3]; rfl, HF.out⟩

theorem brightN_bd (zs : List StarV) (u v : Int) (hb : zs.length ≤ 6) (hok : ∀ j, (h : j < zs.length) → zs[j].good = true) : -1 ≤ brightN zs u v ∧ brightN zs u v ≤ 10000000 := by
  have hd : ∀ j, (hj : j < zs.length) → 1 ≤ zs[j].d ∧ zs[j].d ≤ 1000 := fun j hj => (starB_bd (hok j hj)).2.2.2
  have LB := wgtL_bd _ (rawsL_bd hok u v)
  have LL := wgtL_len (rawsL zs u v)
  rw [rawsL_len] at LL
  have hll : (wgtL (rawsL zs u v)).length ≤ zs.length := by rw [LL]; split <;> omega
  have SB := sumP_bd zs _ LB hd hll _ (Nat.le_refl _)
  unfold brightN
  split
  · omega
  · omega
/-- What BrightnessAt returns. -/
def brightV (zs : List StarV) (u v : Int) : Int × Int := if okL zs = true then (if spotB u v = true then (if brightN zs u v < 0 then (0, 3) else (brightN zs u v, 0)) else (0, 2)) else (0, 1)

set_option maxRecDepth 100000 in
set_option maxHeartbeats 2000000 in
theorem specBright_any (g cap : Nat) (zs : List StarV) (u v : Int) (w : World) (hb : zs.length ≤ 1048577) (h1 : Row w g zs) :
    Calls Tryz.prog 16 #[.slice (some ⟨g, 0, none⟩) zs.length cap, .int .i64 u, .int .i64 v] w fun e w' => e = .returned (.tuple #[.int .i64 (brightV zs u v).1, .int .i64 (brightV zs u v).2]) ∧ Below w.heap.size w w' := by
  have OK := Lib.hid (l10Ok_any g cap zs w hb h1)
  have SP := Lib.hid (fun w => l10Spot_any u v w)
  unfold brightV
  cases hk : okL zs with
  | false =>
    rw [if_neg (by simp)]
    rw [hk] at OK
    clear hk h1
    go_enter Tryz.func16, Tryz.ntmps16
    go_wp2_with fail
    refine (OK.out).mono ?_
    rintro e w1 ⟨rfl, hb⟩
    have hsw1 := hb.size
    try simp at hsw1
    obtain ⟨hcw1, hfw1⟩ := bcell hb
    have HBw1 : Hid (Below w.heap.size w w1) := by
      apply Lib.hid
      refine Below.trans ?_ (hb.mono ?_)
      · repeat (first | exact Below.refl _ _ | refine Below.setCell ?_ (by first | (simp; done) | omega | (simp; omega)) _ | refine Below.alloc ?_ (by first | (simp; done) | omega | (simp; omega)) _)
      · first | (simp; done) | omega | (simp; omega)
    clear hb
    go_wp2_with fail
    refine bodyPost_ret (v := .tuple #[.int .i64 0, .int .i64 1]) (by first | (simp [results, Tryz.results16, go_sem]; done) | (simp [results, Tryz.results16, go_sem]; done)) rfl ⟨rfl, ?_⟩
    repeat (first | exact Below.refl _ _ | exact HBw1.out | refine Below.setCell ?_ (by first | (simp; done) | omega | (simp; omega)) _ | refine Below.alloc ?_ (by first | (simp; done) | omega | (simp; omega)) _ | refine bel_drew ?_)
  | true =>
    rw [hk] at OK
    rw [if_pos rfl]
    cases hs : spotB u v with
    | false =>
      rw [if_neg (by simp)]
      rw [hs] at SP
      clear hk hs h1
      go_enter Tryz.func16, Tryz.ntmps16
      go_wp2_with fail
      refine (OK.out).mono ?_
      rintro e w1 ⟨rfl, hb⟩
      have hsw1 := hb.size
      try simp at hsw1
      obtain ⟨hcw1, hfw1⟩ := bcell hb
      have HBw1 : Hid (Below w.heap.size w w1) := by
        apply Lib.hid
        refine Below.trans ?_ (hb.mono ?_)
        · repeat (first | exact Below.refl _ _ | refine Below.setCell ?_ (by first | (simp; done) | omega | (simp; omega)) _ | refine Below.alloc ?_ (by first | (simp; done) | omega | (simp; omega)) _)
        · first | (simp; done) | omega | (simp; omega)
      clear hb
      go_wp2_with fail
      refine (SP.out _).mono ?_
      rintro e w' ⟨rfl, rfl⟩
      go_wp2_with fail
      refine bodyPost_ret (v := .tuple #[.int .i64 0, .int .i64 2]) (by first | (simp [results, Tryz.results16, go_sem]; done) | (simp [results, Tryz.results16, go_sem]; done)) rfl ⟨rfl, ?_⟩
      repeat (first | exact Below.refl _ _ | exact HBw1.out | refine Below.setCell ?_ (by first | (simp; done) | omega | (simp; omega)) _ | refine Below.alloc ?_ (by first | (simp; done) | omega | (simp; omega)) _ | refine bel_drew ?_)
    | true =>
      rw [if_pos rfl]
      obtain ⟨hgood, h6⟩ := okL_good hk
      obtain ⟨⟨u0, u1⟩, v0, v1⟩ := spotB_bd hs
      have WG := Lib.hid (fun W (hB : Below w.heap.size w W) => l10Bright_any g cap zs u v u0 u1 (by omega) v1 W h6 (h1.below hB) hgood)
      have D := Lib.hid (fun w => l04Direction_any u v (by omega) (by omega) (by omega) (by omega) w)
      change Hid (∀ w, Calls Tryz.prog 29 #[.int .i64 u, .int .i64 v] w fun e w' => e = .returned (.agg #[.int .i64 (dX u v), .int .i64 (dY u v), .int .i64 (sinI v)]) ∧ Below w.heap.size w w') at D
      rw [hs] at SP
      clear hk hs h1 u0 u1 v0 v1 hgood
      generalize brightN zs u v = n at *
      generalize dX u v = x at *
      generalize dY u v = y at *
      generalize sinI v = z at *
      by_cases hn : n < 0
      · rw [if_pos hn]
        go_enter Tryz.func16, Tryz.ntmps16
        go_wp2_with fail
        refine (OK.out).mono ?_
        rintro e w1 ⟨rfl, hb⟩
        have hsw1 := hb.size
        try simp at hsw1
        obtain ⟨hcw1, hfw1⟩ := bcell hb
        have HBw1 : Hid (Below w.heap.size w w1) := by
          apply Lib.hid
          refine Below.trans ?_ (hb.mono ?_)
          · repeat (first | exact Below.refl _ _ | refine Below.setCell ?_ (by first | (simp; done) | omega | (simp; omega)) _ | refine Below.alloc ?_ (by first | (simp; done) | omega | (simp; omega)) _)
          · first | (simp; done) | omega | (simp; omega)
        clear hb
        go_wp2_with fail
        refine (SP.out _).mono ?_
        rintro e w' ⟨rfl, rfl⟩
        go_wp2_with fail
        refine (D.out _).mono ?_
        rintro e w2 ⟨rfl, hb2⟩
        have HB2 := Lib.hid (HBw1.out.trans (hb2.mono HBw1.out.size))
        clear hb2
        go_wp2_with fail
        refine (WG.out _ HB2.out).mono ?_
        rintro e w3 ⟨rfl, hb3⟩
        have HB3 := Lib.hid (HB2.out.trans (hb3.mono HB2.out.size))
        clear hb3
        go_wp2_with fail
        refine bodyPost_ret (v := .tuple #[.int .i64 0, .int .i64 3]) (by first | (simp [results, Tryz.results16, go_sem]; done) | (simp [results, Tryz.results16, go_sem]; done)) rfl ⟨rfl, ?_⟩
        repeat (first | exact Below.refl _ _ | exact HB3.out | refine Below.setCell ?_ (by first | (simp; done) | omega | (simp; omega)) _ | refine Below.alloc ?_ (by first | (simp; done) | omega | (simp; omega)) _ | refine bel_drew ?_)
      · rw [if_neg hn]
        go_enter Tryz.func16, Tryz.ntmps16
        go_wp2_with fail
        refine (OK.out).mono ?_
        rintro e w1 ⟨rfl, hb⟩
        have hsw1 := hb.size
        try simp at hsw1
        obtain ⟨hcw1, hfw1⟩ := bcell hb
        have HBw1 : Hid (Below w.heap.size w w1) := by
          apply Lib.hid
          refine Below.trans ?_ (hb.mono ?_)
          · repeat (first | exact Below.refl _ _ | refine Below.setCell ?_ (by first | (simp; done) | omega | (simp; omega)) _ | refine Below.alloc ?_ (by first | (simp; done) | omega | (simp; omega)) _)
          · first | (simp; done) | omega | (simp; omega)
        clear hb
        go_wp2_with fail
        refine (SP.out _).mono ?_
        rintro e w' ⟨rfl, rfl⟩
        go_wp2_with fail
        refine (D.out _).mono ?_
        rintro e w2 ⟨rfl, hb2⟩
        have HB2 := Lib.hid (HBw1.out.trans (hb2.mono HBw1.out.size))
        clear hb2
        go_wp2_with fail
        refine (WG.out _ HB2.out).mono ?_
        rintro e w3 ⟨rfl, hb3⟩
        have HB3 := Lib.hid (HB2.out.trans (hb3.mono HB2.out.size))
        clear hb3
        go_wp2_with fail
        refine bodyPost_ret (v := .tuple #[.int .i64 n, .int .i64 0]) (by first | (simp [results, Tryz.results16, go_sem]; done) | (simp [results, Tryz.results16, go_sem]; done)) rfl ⟨rfl, ?_⟩
        repeat (first | exact Below.refl _ _ | exact HB3.out | refine Below.setCell ?_ (by first | (simp; done) | omega | (simp; omega)) _ | refine Below.alloc ?_ (by first | (simp; done) | omega | (simp; omega)) _ | refine bel_drew ?_)
theorem fin_Wgt3 : True := trivial
end

section
open Go.RowKit
open Go.Sort (insInner insOuter insertionSort swp swp_size swp_right swp_other permIn_refl permIn_trans swp_permIn permIn_all insertionSort_holds SWO PermIn SortedIn)
set_option linter.unusedVariables false

def ltR (κ : Int → Int) (x y : Int) : Bool := decide (κ y < κ x)
/-- The greater rest first, of equal ones the lesser index. -/
def ltT (κ : Int → Int) (x y : Int) : Bool := decide (κ y < κ x ∨ κ y = κ x ∧ x < y)
theorem swo_T (κ : Int → Int) : SWO (ltT κ) := ⟨fun x => by simp [ltT], fun x y z => by simp only [ltT, decide_eq_true_eq]; omega, fun x y z => by simp only [ltT, decide_eq_false_iff_not]; omega⟩
theorem inner_eq (κ : Int → Int) (i : Int) : ∀ (j : Nat) (d : Array Int), j < d.size → d[j]! = i → (∀ k, k < j → d[k]! < i) → insInner (ltR κ) 0 j d = insInner (ltT κ) 0 j d
  | 0, d, _, _, _ => rfl
  | j + 1, d, hj, hi, hk => by
    have hp := hk j (by omega)
    have e : ltR κ d[j + 1]! d[j]! = ltT κ d[j + 1]! d[j]! := by
      unfold ltR ltT
      rw [hi]
      congr 1
      apply propext
      omega
    unfold insInner
    rw [e]
    split
    · refine inner_eq κ i j _ (by rw [swp_size]; omega) ?_ ?_
      · rw [swp_right _ _ _ (by omega)]; exact hi
      · intro k hk2
        rw [swp_other _ _ _ _ (by omega) (by omega)]
        exact hk k (by omega)
    · rfl
theorem inner_perm (lt : Int → Int → Bool) (b : Nat) : ∀ (j : Nat) (d : Array Int), j < b → b ≤ d.size → PermIn 0 b d (insInner lt 0 j d)
  | 0, d, _, _ => permIn_refl d 0 b
  | j + 1, d, hj, hb => by
    unfold insInner
    split
    · exact permIn_trans _ _ _ 0 b (swp_permIn d 0 b (j + 1) j (by omega) hj (by omega) (by omega) hb) (inner_perm lt b j _ (by omega) (by rw [swp_size]; exact hb))
    · exact permIn_refl d 0 b
theorem outer_eq (κ : Int → Int) (n : Nat) : ∀ (m i : Nat) (d : Array Int), n - i = m → d.size = n → (∀ k : Nat, i ≤ k → k < n → d[k]! = (k : Int)) → (∀ k : Nat, k < i → k < n → d[k]! < (i : Int)) → insOuter (ltR κ) 0 n i d = insOuter (ltT κ) 0 n i d
  | 0, i, d, hm, _, _, _ => by
    rw [insOuter, if_neg (by omega), insOuter, if_neg (by omega)]
  | m + 1, i, d, hm, hs, h1, h2 => by
    have hlt : i < n := by omega
    rw [insOuter_go _ _ _ _ _ hlt, insOuter_go _ _ _ _ _ hlt, inner_eq κ i i d (by omega) (h1 i (Nat.le_refl _) hlt) (fun k hk => h2 k hk (by omega))]
    have hp := inner_perm (ltT κ) (i + 1) i d (by omega) (by omega)
    refine outer_eq κ n m (i + 1) _ (by omega) (by rw [hp.1]; exact hs) ?_ ?_
    · intro k hk hkn
      rw [hp.2.1 k (Or.inr hk)]
      exact h1 k (by omega) hkn
    · intro k hk hkn
      refine permIn_all d _ 0 (i + 1) (fun x => x < ((i + 1 : Nat) : Int)) (by omega) hp ?_ k (by omega) hk
      intro q _ hq
      by_cases c : q = i
      · subst c; rw [h1 q (Nat.le_refl _) hlt]; omega
      · have := h2 q (by omega) (by omega); omega
/-- The indices in order. -/
def idxA (n : Nat) : Array Int := ((List.range n).map (fun k : Nat => (k : Int))).toArray
theorem idxA_size (n : Nat) : (idxA n).size = n := by simp [idxA]
theorem idxA_get (n k : Nat) (h : k < n) : (idxA n)[k]! = (k : Int) := by
  have hs : k < (idxA n).size := by rw [idxA_size]; exact h
  rw [getElem!_pos (idxA n) k hs]
  simp [idxA]
/-- The order of the rests. -/
def ordL (κ : Int → Int) (n : Nat) : List Int := (insertionSort (ltR κ) (idxA n) 0 n).toList
theorem ord_spec (κ : Int → Int) (n : Nat) : (ordL κ n).Perm ((List.range n).map (fun k : Nat => (k : Int))) ∧ (ordL κ n).length = n ∧ ∀ i j, (hi : i < j) → (h : j < (ordL κ n).length) → ltT κ (ordL κ n)[j] ((ordL κ n)[i]'(Nat.lt_trans hi h)) = false := by
  have e : insertionSort (ltR κ) (idxA n) 0 n = insertionSort (ltT κ) (idxA n) 0 n := by
    unfold insertionSort
    by_cases h0 : n = 0
    · subst h0; rw [insOuter, if_neg (by omega), insOuter, if_neg (by omega)]
    · refine outer_eq κ n _ 1 _ rfl (idxA_size n) (fun k _ hk => idxA_get n k hk) ?_
      intro k hk _
      obtain rfl : k = 0 := by omega
      rw [idxA_get n 0 (by omega)]
      decide
  obtain ⟨⟨hs, _, hp⟩, hsort⟩ := insertionSort_holds (lt := ltT κ) (swo_T κ) (idxA n) 0 n (Nat.zero_le _) (by rw [idxA_size]; exact Nat.le_refl _)
  rw [← e] at hs hp hsort
  rw [idxA_size] at hs
  have hl : (ordL κ n).length = n := by unfold ordL; rw [Array.length_toList, hs]
  refine ⟨?_, hl, ?_⟩
  · unfold ordL
    have e1 : (insertionSort (ltR κ) (idxA n) 0 n).extract 0 n = insertionSort (ltR κ) (idxA n) 0 n := by
      have := Array.extract_size (xs := insertionSort (ltR κ) (idxA n) 0 n)
      rwa [hs] at this
    have e2 : (idxA n).extract 0 n = idxA n := by
      have := Array.extract_size (xs := idxA n)
      rwa [idxA_size] at this
    rw [e1, e2] at hp
    simpa [idxA] using hp
  · intro i j hij hj
    have := hsort i j (Nat.zero_le _) hij (by omega)
    unfold ordL
    rw [getElem!_pos _ j (by rw [hs]; omega), getElem!_pos _ i (by rw [hs]; omega)] at this
    simp only [Array.getElem_toList]
    exact this
theorem bestK_spec (r : List Int) (k : Nat) (hk : 0 < k) : (∀ j, j < k → r.getD j 0 ≤ r.getD (bestK r k) 0) ∧ (∀ j, j < bestK r k → r.getD j 0 < r.getD (bestK r k) 0) := by
  induction k with
  | zero => omega
  | succ k ih =>
    rcases Nat.eq_zero_or_pos k with rfl | hp
    · rw [bestK_one]
      exact ⟨fun j hj => (by obtain rfl : j = 0 := (by omega); exact Int.le_refl _), fun j hj => absurd hj (by omega)⟩
    · obtain ⟨h1, h2⟩ := ih hp
      have hlt := bestK_lt r k hp
      unfold bestK
      split
      · rename_i hc
        refine ⟨fun j hj => ?_, fun j hj => ?_⟩
        · by_cases c : j = k
          · subst c; exact Int.le_refl _
          · have := h1 j (by omega); omega
        · have := h1 j hj; omega
      · rename_i hc
        refine ⟨fun j hj => ?_, h2⟩
        by_cases c : j = k
        · subst c; omega
        · exact h1 j (by omega)
theorem bestK_is (r : List Int) (n b : Nat) (hb : b < n) (h1 : ∀ j, j < n → r.getD j 0 ≤ r.getD b 0) (h2 : ∀ j, j < b → r.getD j 0 < r.getD b 0) : bestK r n = b := by
  obtain ⟨s1, s2⟩ := bestK_spec r n (by omega)
  have hl := bestK_lt r n (by omega)
  rcases Nat.lt_trichotomy (bestK r n) b with c | c | c
  · have := h2 _ c; have := s1 b hb; omega
  · exact c
  · have := s2 _ c; have := h1 _ hl; omega
/-- One more for each of some indices. -/
def addL : List Int → List Int → List Int
  | S, [] => S
  | S, x :: l => addL (S.set x.toNat (S.getD x.toNat 0 + 1)) l
theorem addL_len : ∀ (l S : List Int), (addL S l).length = S.length
  | [], S => rfl
  | x :: l, S => by show (addL _ l).length = _; rw [addL_len l, List.length_set]
theorem addL_snoc : ∀ (l S : List Int) (x : Int), addL S (l ++ [x]) = (addL S l).set x.toNat ((addL S l).getD x.toNat 0 + 1)
  | [], S, x => rfl
  | y :: l, S, x => addL_snoc l _ x
/-- The rests, those of some indices used up. -/
def used (T : List Int) : List Int → List Int
  | [] => T
  | x :: l => (used T l).set x.toNat (-1)
theorem used_len (T : List Int) : ∀ l, (used T l).length = T.length
  | [] => rfl
  | x :: l => by show ((used T l).set _ _).length = _; rw [List.length_set, used_len T l]
theorem used_get (T : List Int) (j : Nat) (hj : j < T.length) : ∀ l : List Int, (∀ x ∈ l, 0 ≤ x) → (used T l).getD j 0 = if (j : Int) ∈ l then -1 else T.getD j 0
  | [], _ => by simp [used]
  | x :: l, h => by
    have h0 := h x (by simp)
    have ih := used_get T j hj l (fun y hy => h y (by simp [hy]))
    show ((used T l).set x.toNat (-1)).getD j 0 = _
    have hl : j < (used T l).length := by rw [used_len]; exact hj
    by_cases c : x = (j : Int)
    · subst c
      rw [if_pos (by simp), Int.toNat_natCast, List.getD, List.getElem?_set_self hl]
      rfl
    · have hne : x.toNat ≠ j := by omega
      rw [List.getD, List.getElem?_set_ne hne]
      have e : (if (j : Int) ∈ x :: l then (-1 : Int) else T.getD j 0) = if (j : Int) ∈ l then -1 else T.getD j 0 := by
        have : ((j : Int) ∈ x :: l) ↔ (j : Int) ∈ l := ⟨fun h => (List.mem_cons.1 h).elim (fun h => absurd h.symm c) id, List.mem_cons_of_mem _⟩
        simp only [this]
      rw [e, ← ih]
      rfl
/-- The place of a number that is one of the first. -/
theorem give_ord (κ : Int → Int) (T L : List Int) (n : Nat) (hκ : ∀ k : Nat, k < n → κ (k : Int) = T.getD k 0) (hT : T.length = n) (h0 : ∀ x ∈ T, 0 ≤ x) (hp : L.Perm ((List.range n).map (fun k : Nat => (k : Int)))) (hl : L.length = n)
    (hs : ∀ i j, (hi : i < j) → (h : j < L.length) → ltT κ L[j] (L[i]'(Nat.lt_trans hi h)) = false) :
    ∀ (m k : Nat) (D U : List Int), k + m ≤ n → D.length = n → (∀ j, j < n → U.getD j 0 = (used T (L.take k)).getD j 0) → U.length = n → giveL m D U = addL D ((L.drop k).take m)
  | 0, k, D, U, _, _, _, _ => by rw [List.take_zero]; rfl
  | m + 1, k, D, U, hk, hD, hU, hUl => by
    have hkl : k < L.length := by omega
    have hnn : ∀ x ∈ L, 0 ≤ x ∧ x < n := fun x hx => by
      have := (hp.mem_iff).1 hx
      simp only [List.mem_map, List.mem_range] at this
      obtain ⟨a, ha, rfl⟩ := this
      omega
    have hnd : L.Nodup := (hp.nodup_iff).2 (List.Pairwise.map _ (fun a b h e => h (by have e2 : ((a : Nat) : Int) = (b : Int) := e; omega)) List.nodup_range)
    have hb := hnn L[k] (List.getElem_mem hkl)
    have hT0 : ∀ j, j < n → 0 ≤ T.getD j 0 := fun j hj => by
      rw [List.getD, List.getElem?_eq_getElem (by omega)]
      exact h0 _ (List.getElem_mem _)
    have hnot : ¬ L[k] ∈ L.take k := fun h => by
      obtain ⟨i, hi, e⟩ := List.mem_take_iff_getElem.1 h
      have hi2 : i < k := by omega
      exact List.pairwise_iff_getElem.1 hnd i k (by omega) hkl hi2 e
    have eb : ((L[k].toNat : Nat) : Int) = L[k] := by omega
    have ub : U.getD L[k].toNat 0 = T.getD L[k].toNat 0 := by
      rw [hU _ (by omega), used_get T _ (by omega) _ (fun x hx => (hnn x (List.mem_of_mem_take hx)).1), eb, if_neg hnot]
    have uj : ∀ j, j < n → U.getD j 0 = if (j : Int) ∈ L.take k then -1 else T.getD j 0 := fun j hj => by
      rw [hU j hj, used_get T j (by omega) _ (fun x hx => (hnn x (List.mem_of_mem_take hx)).1)]
    have key : ∀ j, j < n → U.getD j 0 ≤ U.getD L[k].toNat 0 ∧ (j < L[k].toNat → U.getD j 0 < U.getD L[k].toNat 0) := fun j hj => by
      rw [ub, uj j hj]
      have t0 := hT0 L[k].toNat (by omega)
      split
      · exact ⟨by omega, fun _ => by omega⟩
      · rename_i hm
        have hjm : (j : Int) ∈ L := (hp.mem_iff).2 (by simp only [List.mem_map, List.mem_range]; exact ⟨j, hj, rfl⟩)
        obtain ⟨p, hpl, e⟩ := List.getElem_of_mem hjm
        rcases Nat.lt_trichotomy p k with c | c | c
        · exact absurd (by rw [← e]; exact List.mem_take_iff_getElem.2 ⟨p, by omega, rfl⟩) hm
        · subst c
          have : j = L[p].toNat := by omega
          subst this
          exact ⟨Int.le_refl _, fun h => absurd h (Nat.lt_irrefl _)⟩
        · have := hs k p c hpl
          unfold ltT at this
          rw [e, hκ j hj, show L[k] = ((L[k].toNat : Nat) : Int) by omega, hκ L[k].toNat (by omega)] at this
          simp only [decide_eq_false_iff_not] at this
          refine ⟨by omega, fun h => by omega⟩
    have hbest : bestK U U.length = L[k].toNat := bestK_is U _ _ (by omega) (fun j hj => (key j (by omega)).1) (fun j hj => (key j (by omega)).2 hj)
    rw [giveL_next, hbest, List.drop_eq_getElem_cons hkl, List.take_succ_cons]
    show _ = addL (D.set L[k].toNat (D.getD L[k].toNat 0 + 1)) _
    refine give_ord κ T L n hκ hT h0 hp hl hs m (k + 1) _ _ (by omega) (by rw [List.length_set]; exact hD) (fun j hj => ?_) (by rw [List.length_set]; exact hUl)
    rw [used_get T j (by omega) _ (fun x hx => (hnn x (List.mem_of_mem_take hx)).1)]
    by_cases c : L[k].toNat = j
    · subst c
      rw [List.getD, List.getElem?_set_self (by omega), if_pos]
      · rfl
      · rw [eb]; exact List.mem_take_iff_getElem.2 ⟨k, by omega, rfl⟩
    · rw [List.getD, List.getElem?_set_ne c]
      have hm : ((j : Int) ∈ L.take (k + 1)) ↔ (j : Int) ∈ L.take k := by
        rw [List.take_add_one, List.getElem?_eq_getElem hkl]
        simp only [List.mem_append, Option.toList_some, List.mem_singleton]
        exact ⟨fun h => h.elim id (fun h => absurd h (by omega)), Or.inl⟩
      simp only [hm]
      rw [← uj j hj]
      rfl
theorem fin_OrdM : True := trivial
end

section
open Go.RowKit
set_option linter.unusedVariables false

/-- What lies in a row of beams: powers, weights and shares. -/
def bF (P W S : List Int) (k : Nat) : Value := .int .i64 ((if k % 3 = 0 then P else if k % 3 = 1 then W else S).getD (k / 3) 0)
def BRow (w : World) (g n : Nat) (P W S : List Int) : Prop := w.rowIs g 65 (n * 3) (bF P W S)
theorem BRow.at {w : World} {g n : Nat} {P W S : List Int} (h : BRow w g n P W S) (j : Nat) (hj : j < n) :
    w.cell? ⟨g, j * 3, none⟩ = some (.int .i64 (P.getD j 0)) ∧ w.cell? ⟨g, j * 3 + 1, none⟩ = some (.int .i64 (W.getD j 0)) ∧ w.cell? ⟨g, j * 3 + 2, none⟩ = some (.int .i64 (S.getD j 0)) := by
  refine ⟨?_, ?_, ?_⟩
  · rw [World.rowIs.cell h (show j * 3 < n * 3 by omega)]
    unfold bF
    rw [show j * 3 % 3 = 0 by omega, show j * 3 / 3 = j by omega]
    rfl
  · rw [World.rowIs.cell h (show j * 3 + 1 < n * 3 by omega)]
    unfold bF
    rw [show (j * 3 + 1) % 3 = 1 by omega, show (j * 3 + 1) / 3 = j by omega]
    rfl
  · rw [World.rowIs.cell h (show j * 3 + 2 < n * 3 by omega)]
    unfold bF
    rw [show (j * 3 + 2) % 3 = 2 by omega, show (j * 3 + 2) / 3 = j by omega]
    rfl
theorem BRow.lt {w : World} {g n : Nat} {P W S : List Int} (h : BRow w g n P W S) : g < w.heap.size := World.rowIs.lt h
theorem BRow.free {w : World} {g n : Nat} {P W S : List Int} (h : BRow w g n P W S) (i : Nat) : w.frozen? ⟨g, i, none⟩ = false := World.rowIs.frozen h i
theorem BRow.below {w w' : World} {g n : Nat} {P W S : List Int} (h : BRow w g n P W S) (hb : Below w.heap.size w w') : BRow w' g n P W S := World.rowIs.of_block h (hb.block g h.lt)
/-- A share is stored. -/
theorem BRow.put {w : World} {g n : Nat} {P W S : List Int} (h : BRow w g n P W S) (i : Nat) (hi : i < n) (hS : S.length = n) (v : Int) : BRow (w.setCell ⟨g, i * 3 + 2, none⟩ (.int .i64 v)) g n P W (S.set i v) := by
  refine World.rowIs.congr (World.rowIs.set h (i * 3 + 2) (.int .i64 v)) (fun k hk => ?_)
  show (if k = i * 3 + 2 then Value.int .i64 v else bF P W S k) = bF P W (S.set i v) k
  unfold bF
  by_cases c : k = i * 3 + 2
  · subst c
    rw [if_pos rfl, show (i * 3 + 2) % 3 = 2 by omega, show (i * 3 + 2) / 3 = i by omega]
    show _ = Value.int .i64 ((S.set i v).getD i 0)
    rw [List.getD, List.getElem?_set_self (by omega)]
    rfl
  · rw [if_neg c]
    by_cases c0 : k % 3 = 0
    · rw [if_pos c0, if_pos c0]
    · by_cases c1 : k % 3 = 1
      · rw [if_neg c0, if_pos c1, if_neg c0, if_pos c1]
      · rw [if_neg c0, if_neg c1, if_neg c0, if_neg c1, List.getD, List.getD, List.getElem?_set_ne (by omega)]
def sumF (v : Nat → Int) : Nat → Int
  | 0 => 0
  | k + 1 => sumF v k + v k
theorem sumF_K (r : List Int) : ∀ n, sumF (fun i => r.getD i 0) n = sumK r n
  | 0 => rfl
  | n + 1 => by show sumF _ n + _ = sumK r n + _; rw [sumF_K r n]
theorem sumF_bd (v : Nat → Int) (M : Int) (n : Nat) (h : ∀ i, i < n → 0 ≤ v i ∧ v i ≤ M) : ∀ j, j ≤ n → 0 ≤ sumF v j ∧ sumF v j ≤ M * j
  | 0, _ => by simp [sumF]
  | j + 1, hj => by
    have := sumF_bd v M n h j (by omega)
    have hm := h j (by omega)
    have e2 : M * ((j + 1 : Nat) : Int) = M * (j : Int) + M := by rw [Int.natCast_add, Int.mul_add]; simp
    unfold sumF
    rw [e2]
    omega
theorem sumF_cong {v v' : Nat → Int} (n : Nat) (h : ∀ i, i < n → v i = v' i) : sumF v n = sumF v' n := by
  induction n with
  | zero => rfl
  | succ n ih => unfold sumF; rw [ih (fun i hi => h i (by omega)), h n (by omega)]

set_option maxHeartbeats 400000 in
theorem isLit_any (p x s : Int) (w : World) : Calls Tryz.prog 125 #[.agg #[.int .i64 p, .int .i64 x, .int .i64 s]] w fun e w' => e = .returned (.bool (decide (0 < x))) ∧ Below w.heap.size w w' := by
  go_enter Tryz.func125, Tryz.ntmps125
  go_wp2_with fail
  go_ret
  refine ⟨rfl, ?_⟩
  repeat (first | exact Below.refl _ _ | refine Below.setCell ?_ (by first | (simp; done) | omega | (simp; omega)) _ | refine Below.alloc ?_ (by first | (simp; done) | omega | (simp; omega)) _ | refine bel_drew ?_)
set_option maxHeartbeats 400000 in
theorem out1_any (p x s : Int) (w : World) : Calls Tryz.prog 118 #[.agg #[.int .i64 p, .int .i64 x, .int .i64 s]] w fun e w' => e = .returned (.int .i64 x) ∧ Below w.heap.size w w' := by
  go_enter Tryz.func118, Tryz.ntmps118
  go_wp2_with fail
  go_ret
  refine ⟨rfl, ?_⟩
  repeat (first | exact Below.refl _ _ | refine Below.setCell ?_ (by first | (simp; done) | omega | (simp; omega)) _ | refine Below.alloc ?_ (by first | (simp; done) | omega | (simp; omega)) _ | refine bel_drew ?_)
set_option maxHeartbeats 400000 in
theorem out2_any (p x s : Int) (w : World) : Calls Tryz.prog 119 #[.agg #[.int .i64 p, .int .i64 x, .int .i64 s]] w fun e w' => e = .returned (.int .i64 s) ∧ Below w.heap.size w w' := by
  go_enter Tryz.func119, Tryz.ntmps119
  go_wp2_with fail
  go_ret
  refine ⟨rfl, ?_⟩
  repeat (first | exact Below.refl _ _ | refine Below.setCell ?_ (by first | (simp; done) | omega | (simp; omega)) _ | refine Below.alloc ?_ (by first | (simp; done) | omega | (simp; omega)) _ | refine bel_drew ?_)
set_option maxHeartbeats 1000000 in
theorem count1_any (p x s : Int) (c : Nat) (w : World) (hc : w.cell? ⟨c, 0, none⟩ = some (.func (.func 125) #[] #[])) :
    Calls Tryz.prog 153 #[.agg #[.int .i64 p, .int .i64 x, .int .i64 s], .pointer (some ⟨c, 0, none⟩)] w fun e w' => e = .returned (.int .i64 (if 0 < x then 1 else 0)) ∧ Below w.heap.size w w' := by
  have hcl := World.block_lt_of_cell? w ⟨c, 0, none⟩ hc
  have hc2 : (w.alloc (.cells #[.int .i64 p, .int .i64 x, .int .i64 s] 65)).cell? ⟨c, 0, none⟩ = some (.func (.func 125) #[] #[]) := by rw [World.cell?_alloc_lt _ _ _ hcl]; exact hc
  have L := Lib.hid (fun w => isLit_any p x s w)
  clear hc
  by_cases hx : 0 < x
  · rw [if_pos hx]
    have hd : decide (0 < x) = true := decide_eq_true hx
    rw [hd] at L
    go_enter Tryz.func153, Tryz.ntmps153
    go_wp2_with fail
    refine (L.out _).mono ?_
    rintro e w2 ⟨rfl, hb2⟩
    have HB := Lib.hid (((Below.refl _ w).alloc (Nat.le_refl _) (.cells #[.int .i64 p, .int .i64 x, .int .i64 s] 65)).trans (hb2.mono (by simp)))
    clear hb2
    go_wp2_with fail
    go_ret
    exact ⟨rfl, HB.out⟩
  · rw [if_neg hx]
    have hd : decide (0 < x) = false := decide_eq_false hx
    rw [hd] at L
    go_enter Tryz.func153, Tryz.ntmps153
    go_wp2_with fail
    refine (L.out _).mono ?_
    rintro e w2 ⟨rfl, hb2⟩
    have HB := Lib.hid (((Below.refl _ w).alloc (Nat.le_refl _) (.cells #[.int .i64 p, .int .i64 x, .int .i64 s] 65)).trans (hb2.mono (by simp)))
    clear hb2
    go_wp2_with fail
    go_ret
    exact ⟨rfl, HB.out⟩

set_option maxRecDepth 100000 in
set_option maxHeartbeats 2000000 in
theorem sumB_any (f : Nat) (cb : Array Value) (g n cap : Nat) (P W S : List Int) (v : Nat → Int) (w : World) (eg : ∀ args w, (callFunc f args).run Tryz.prog w = .ok (.enter f args) w) (hn : n ≤ 1000) (hr : BRow w g n P W S)
    (hv : ∀ i, i < n → 0 ≤ v i ∧ v i ≤ 2000000000)
    (hf : ∀ (X : World) (i : Nat), Below w.heap.size w X → i < n → Calls Tryz.prog f (#[.agg #[.int .i64 (P.getD i 0), .int .i64 (W.getD i 0), .int .i64 (S.getD i 0)]] ++ cb) X fun e w' => e = .returned (.int .i64 (v i)) ∧ Below X.heap.size X w') :
    Calls Tryz.prog 56 #[.slice (some ⟨g, 0, none⟩) n cap, .func (.func f) #[] cb] w fun e w' => e = .returned (.int .i64 (sumF v n)) ∧ Below w.heap.size w w' := by
  have HF := Lib.hid hf
  have HR := Lib.hid hr
  have SB := Lib.hid (sumF_bd v 2000000000 n hv)
  have HV := Lib.hid hv
  clear hf hr hv
  go_enter Tryz.func56, Tryz.ntmps56
  go_wp2_with fail
  go_loopg [5, 10] (n + 1) (fun kx s5 s10 wr => ∃ j : Nat, s5 = .int .i64 (sumF v j) ∧ s10 = .int .i64 (j : Int) ∧ j ≤ n ∧ kx = n + 1 - j ∧ Hid (Below w.heap.size w wr))
  case atStart => exact ⟨0, rfl, rfl, Nat.zero_le _, rfl, Lib.hid (Below.refl _ _)⟩
  case round =>
    obtain ⟨j, rfl, rfl, hj, rfl, HB⟩ := hrel
    by_cases hlt : j < n
    · have hat := (HR.out.below HB.out).at j hlt
      obtain ⟨c0, c1, c2⟩ := hat
      have s0 := SB.out j hj
      have v0 := HV.out j hlt
      have j0 : (0 : Int) ≤ (j : Int) := by omega
      have j1 : (j : Int) < (n : Int) := by omega
      have HB0 : Hid (Below w.heap.size w (wr.alloc (.cells #[.int .i64 (P.getD j 0), .int .i64 (W.getD j 0), .int .i64 (S.getD j 0)] 65))) := Lib.hid (HB.out.alloc HB.out.size _)
      have C := Lib.hid (HF.out _ j HB0.out hlt)
      have SN : Hid (sumF v (j + 1) = sumF v j + v j) := Lib.hid rfl
      have wr1 : IntKind.i64.wrap (sumF v j + v j) = sumF v j + v j := IntWalk.i64_in _ (by omega)
      have wr2 : wrap64 (sumF v j + v j) = sumF v j + v j := IntWalk.wrap64_in _ (by omega)
      clear s0 v0
      generalize hs : sumF v (j + 1) = sn at *
      have HS := Lib.hid hs
      clear hs
      generalize sumF v j = sj at *
      generalize v j = vj at *
      generalize P.getD j 0 = p at *
      generalize W.getD j 0 = x at *
      generalize S.getD j 0 = s at *
      go_wp2_with (go_at_fn f; refine C.out.mono ?_; rintro e w2 ⟨rfl, hb2⟩)
      have HB2 := Lib.hid (HB0.out.trans (hb2.mono HB0.out.size))
      clear hb2
      go_roundg (n + 1 - (j + 1))
      case measure => omega
      case rel => exact ⟨j + 1, by rw [HS.out, SN.out], by go_num, by omega, rfl, HB2⟩
    · obtain rfl : j = n := by omega
      go_wp2_with fail
      go_ret
      exact ⟨rfl, HB.out⟩
theorem fin_Bm1 : True := trivial
end

section
open Go.RowKit
set_option linter.unusedVariables false

/-- How many of the first weights are greater than 0. -/
def litN (W : List Int) : Nat → Int := sumF (fun i => if 0 < W.getD i 0 then 1 else 0)
theorem litN_dark (W : List Int) (n : Nat) (h : ∀ i, i < n → 0 ≤ W.getD i 0) : (1 ≤ litN W n) ↔ ¬ sumK W n = 0 := by
  have hb : ∀ n, 0 ≤ litN W n := fun n => by
    have := sumF_bd (fun i => if 0 < W.getD i 0 then (1 : Int) else 0) 1 n (fun i _ => by split <;> omega) n (Nat.le_refl _)
    exact this.1
  have hs : ∀ n, (∀ i, i < n → 0 ≤ W.getD i 0) → 0 ≤ sumK W n := fun n h => by
    induction n with
    | zero => exact Int.le_refl _
    | succ n ih =>
      have := ih (fun i hi => h i (by omega))
      have := h n (by omega)
      unfold sumK
      omega
  induction n with
  | zero => simp [litN, sumF, sumK]
  | succ n ih =>
    have ih := ih (fun i hi => h i (by omega))
    have h1 := h n (by omega)
    have h2 := hs n (fun i hi => h i (by omega))
    have h3 := hb n
    have e : litN W (n + 1) = litN W n + (if 0 < W.getD n 0 then 1 else 0) := rfl
    rw [e]
    unfold sumK
    split <;> omega

set_option maxRecDepth 100000 in
set_option maxHeartbeats 1000000 in
theorem countB_any (g n cap : Nat) (P W S : List Int) (w : World) (hn : n ≤ 1000) (hr : BRow w g n P W S) :
    Calls Tryz.prog 124 #[.slice (some ⟨g, 0, none⟩) n cap, .func (.func 125) #[] #[]] w fun e w' => e = .returned (.int .i64 (litN W n)) ∧ Below w.heap.size w w' := by
  obtain ⟨W0, hW0⟩ : ∃ W0, W0 = w.alloc (.cells #[.func (.func 125) #[] #[]] 137) := ⟨_, rfl⟩
  have hB0 : Below w.heap.size w W0 := by rw [hW0]; exact (Below.refl _ _).alloc (Nat.le_refl _) _
  have hc : W0.cell? ⟨w.heap.size, 0, none⟩ = some (.func (.func 125) #[] #[]) := by rw [hW0]; simp
  have hcl := World.block_lt_of_cell? W0 ⟨w.heap.size, 0, none⟩ hc
  have eg : ∀ args w, (callFunc 153 args).run Tryz.prog w = .ok (.enter 153 args) w := enters_of Tryz.func153 (by kernel_rfl) rfl
  have C := Lib.hid (sumB_any 153 #[.pointer (some ⟨w.heap.size, 0, none⟩)] g n cap P W S (fun i => if 0 < W.getD i 0 then 1 else 0) W0 eg hn (hr.below hB0) (fun i _ => by split <;> omega) (fun X i hX _ => count1_any _ _ _ _ X ((hX.cell (p := ⟨w.heap.size, 0, none⟩) hcl).trans hc)))
  change Hid (Calls Tryz.prog 56 _ W0 fun e w' => e = .returned (.int .i64 (litN W n)) ∧ Below W0.heap.size W0 w') at C
  have HB0 := Lib.hid hB0
  have HW := Lib.hid hW0
  clear hr hB0 hW0 hc hcl eg
  generalize litN W n = m at *
  go_enter Tryz.func124, Tryz.ntmps124
  go_wp2_with fail
  rw [← HW.out]
  clear HW
  refine C.out.mono ?_
  rintro e w2 ⟨rfl, hb2⟩
  have HB2 := Lib.hid (HB0.out.trans (hb2.mono HB0.out.size))
  clear hb2
  go_wp2_with fail
  go_ret
  exact ⟨rfl, HB2.out⟩
set_option maxRecDepth 100000 in
set_option maxHeartbeats 1000000 in
theorem isLitBy_any (g n cap : Nat) (P W S : List Int) (u v c : Int) (w : World) (hn : n ≤ 1000) (hr : BRow w g n P W S) :
    Calls Tryz.prog 87 #[.agg #[.int .i64 u, .int .i64 v, .slice (some ⟨g, 0, none⟩) n cap], .int .i64 c] w fun e w' => e = .returned (.bool (decide (c ≤ litN W n))) ∧ Below w.heap.size w w' := by
  obtain ⟨W0, hW0⟩ : ∃ W0, W0 = w.alloc (.cells #[.int .i64 u, .int .i64 v, .slice (some ⟨g, 0, none⟩) n cap] 61) := ⟨_, rfl⟩
  have hB0 : Below w.heap.size w W0 := by rw [hW0]; exact (Below.refl _ _).alloc (Nat.le_refl _) _
  have c2 : W0.cell? ⟨w.heap.size, 2, none⟩ = some (.slice (some ⟨g, 0, none⟩) n cap) := by rw [hW0]; simp
  have C := Lib.hid (countB_any g n cap P W S W0 hn (hr.below hB0))
  have HB0 := Lib.hid hB0
  have HW := Lib.hid hW0
  clear hr hB0 hW0
  generalize litN W n = m at *
  go_enter Tryz.func87, Tryz.ntmps87
  go_wp2_with fail
  rw [← HW.out]
  clear HW
  refine C.out.mono ?_
  rintro e w2 ⟨rfl, hb2⟩
  have HB2 := Lib.hid (HB0.out.trans (hb2.mono HB0.out.size))
  clear hb2 c2
  go_wp2_with fail
  go_ret
  exact ⟨rfl, HB2.out⟩
set_option maxRecDepth 100000 in
set_option maxHeartbeats 1000000 in
theorem isDark_any (g n cap : Nat) (P W S : List Int) (u v : Int) (w : World) (hn : n ≤ 1000) (h0 : ∀ i, i < n → 0 ≤ W.getD i 0) (hr : BRow w g n P W S) :
    Calls Tryz.prog 55 #[.agg #[.int .i64 u, .int .i64 v, .slice (some ⟨g, 0, none⟩) n cap]] w fun e w' => e = .returned (.bool (decide (sumK W n = 0))) ∧ Below w.heap.size w w' := by
  obtain ⟨W0, hW0⟩ : ∃ W0, W0 = w.alloc (.cells #[.int .i64 u, .int .i64 v, .slice (some ⟨g, 0, none⟩) n cap] 61) := ⟨_, rfl⟩
  have hB0 : Below w.heap.size w W0 := by rw [hW0]; exact (Below.refl _ _).alloc (Nat.le_refl _) _
  have c0 : W0.cell? ⟨w.heap.size, 0, none⟩ = some (.int .i64 u) := by rw [hW0]; simp
  have c1 : W0.cell? ⟨w.heap.size, 1, none⟩ = some (.int .i64 v) := by rw [hW0]; simp
  have c2 : W0.cell? ⟨w.heap.size, 2, none⟩ = some (.slice (some ⟨g, 0, none⟩) n cap) := by rw [hW0]; simp
  have C := Lib.hid (isLitBy_any g n cap P W S u v 1 W0 hn (hr.below hB0))
  have e : decide (sumK W n = 0) = !decide (1 ≤ litN W n) := by
    rw [Bool.eq_iff_iff]
    simp only [decide_eq_true_eq, Bool.not_eq_true', decide_eq_false_iff_not, litN_dark W n h0]
    omega
  rw [e]
  have HB0 := Lib.hid hB0
  have HW := Lib.hid hW0
  clear hr hB0 hW0 e h0
  generalize decide (1 ≤ litN W n) = m at *
  go_enter Tryz.func55, Tryz.ntmps55
  go_wp2_with fail
  rw [← HW.out]
  clear HW
  refine C.out.mono ?_
  rintro e w2 ⟨rfl, hb2⟩
  have HB2 := Lib.hid (HB0.out.trans (hb2.mono HB0.out.size))
  clear hb2 c0 c1 c2
  go_wp2_with fail
  go_ret
  exact ⟨rfl, HB2.out⟩
theorem fin_Bm2 : True := trivial
end

section
open Go.RowKit
open Go.Sort (Holds putRow size_putRow holds_putRow cell?_putRow_other grow cell?_grow)
set_option linter.unusedVariables false

theorem info_i64k : (Tryz.prog.info? 2).map (fun i => (i.zero, i.size, i.bytes)) = some (some (.int .i64 0), 1, 8) := by kernel_rfl
/-- A row of numbers. -/
def KRow (w : World) (g n : Nat) (L : List Int) : Prop := w.rowIs g 2 n (fun k => .int .i64 (L.getD k 0))
theorem KRow.at {w : World} {g n : Nat} {L : List Int} (h : KRow w g n L) (j : Nat) (hj : j < n) : w.cell? ⟨g, j, none⟩ = some (.int .i64 (L.getD j 0)) := World.rowIs.cell h hj
theorem KRow.lt {w : World} {g n : Nat} {L : List Int} (h : KRow w g n L) : g < w.heap.size := World.rowIs.lt h
theorem KRow.free {w : World} {g n : Nat} {L : List Int} (h : KRow w g n L) (i : Nat) : w.frozen? ⟨g, i, none⟩ = false := World.rowIs.frozen h i
theorem KRow.below {w w' : World} {g n : Nat} {L : List Int} (h : KRow w g n L) (hb : Below w.heap.size w w') : KRow w' g n L := World.rowIs.of_block h (hb.block g h.lt)
theorem KRow.put {w : World} {g n : Nat} {L : List Int} (h : KRow w g n L) (i : Nat) (hi : i < n) (hL : L.length = n) (v : Int) : KRow (w.setCell ⟨g, i, none⟩ (.int .i64 v)) g n (L.set i v) := by
  refine World.rowIs.congr (World.rowIs.set h i (.int .i64 v)) (fun k hk => ?_)
  show (if k = i then Value.int .i64 v else .int .i64 (L.getD k 0)) = .int .i64 ((L.set i v).getD k 0)
  by_cases c : k = i
  · subst c
    rw [if_pos rfl, List.getD, List.getElem?_set_self (by omega)]
    rfl
  · rw [if_neg c, List.getD, List.getD, List.getElem?_set_ne (fun e => c e.symm)]
theorem KRow.made (w : World) (n : Nat) : KRow (w.alloc (.cells (madeCells #[.int .i64 0] n) 2)) w.heap.size n (List.replicate n 0) := by
  refine World.rowIs.congr (World.rowIs_made w (.int .i64 0) n 2) (fun k hk => ?_)
  show Value.int .i64 0 = .int .i64 ((List.replicate n (0 : Int)).getD k 0)
  rw [List.getD, List.getElem?_replicate, if_pos hk]
  rfl
/-- The first j indices, then zeros. -/
def idxL (n j : Nat) : List Int := (List.range j).map (fun k : Nat => (k : Int)) ++ List.replicate (n - j) 0
theorem idxL_len (n j : Nat) (h : j ≤ n) : (idxL n j).length = n := by simp [idxL]; omega
theorem idxL_zero (n : Nat) : idxL n 0 = List.replicate n 0 := rfl
theorem idxL_set (n j : Nat) (h : j < n) : (idxL n j).set j (j : Int) = idxL n (j + 1) := by
  unfold idxL
  have hl : ((List.range j).map (fun k : Nat => (k : Int))).length = j := by simp
  have e : n - j = (n - (j + 1)) + 1 := by omega
  rw [List.set_append_right _ _ (by omega), hl, Nat.sub_self, e, List.replicate_succ, List.set_cons_zero, List.range_succ, List.map_append, List.append_assoc]
  rfl
set_option maxRecDepth 100000 in
set_option maxHeartbeats 1000000 in
theorem indicesOf_any (n : Nat) (hn : n ≤ 1000) (w : World) : Calls Tryz.prog 120 #[.int .i64 (n : Int)] w fun e w' => e = .returned (.slice (some ⟨w.heap.size, 0, none⟩) n n) ∧ KRow w' w.heap.size n (idxL n n) ∧ Below w.heap.size w w' := by
  have hmk := run_make_row' (P := Tryz.prog) 24 2 (.int .i64 0) 8 Tryz.underlying24 info_i64k rfl .i64 .i64 n (by omega) (by omega)
  have MK := Lib.hid (KRow.made w n)
  go_enter Tryz.func120, Tryz.ntmps120
  go_wp2_with fail
  clear hmk
  go_loopg [9] (n + 1) (fun kx s9 wr => ∃ j : Nat, s9 = .int .i64 (j : Int) ∧ j ≤ n ∧ kx = n + 1 - j ∧ Hid (KRow wr w.heap.size n (idxL n j)) ∧ Hid (Below w.heap.size w wr))
  case atStart => exact ⟨0, rfl, Nat.zero_le _, rfl, Lib.hid (by rw [idxL_zero]; exact MK.out), Lib.hid ((Below.refl _ _).alloc (Nat.le_refl _) _)⟩
  case round =>
    obtain ⟨j, rfl, hj, rfl, HK, HB⟩ := hrel
    by_cases hlt : j < n
    · have c0 := HK.out.at j hlt
      have f0 := HK.out.free j
      have PT := HK.out.put j hlt (idxL_len n j hj) (j : Int)
      rw [idxL_set n j hlt] at PT
      have HK2 := Lib.hid PT
      have HB2 := Lib.hid (HB.out.setCell (p := ⟨w.heap.size, j, none⟩) (Nat.le_refl _) (.int .i64 (j : Int)))
      have j0 : (0 : Int) ≤ (j : Int) := by omega
      have j1 : (j : Int) < (n : Int) := by omega
      clear PT HK
      generalize (idxL n j).getD j 0 = z at *
      go_wp2_with fail
      go_roundg (n + 1 - (j + 1))
      case measure => omega
      case rel => exact ⟨j + 1, by go_num, by omega, rfl, HK2, HB2⟩
    · obtain rfl : j = n := by omega
      go_wp2_with fail
      go_returns
      exact ⟨rfl, HK.out, HB.out⟩

/-- What cmp.Compare answers of two numbers. -/
def cmpI (x y : Int) : Int := if x < y then -1 else if y < x then 1 else 0
set_option maxHeartbeats 400000 in
theorem nanI_any (x : Int) (w : World) : Calls Tryz.prog 152 #[.int .i64 x] w fun e w' => e = .returned (.bool false) ∧ w = w' := by
  have h : (x != x) = false := by simp
  have h2 : (x == x) = true := by simp
  go_enter Tryz.func152, Tryz.ntmps152
  go_wp2_with fail
  go_ret
  exact ⟨by simp, rfl⟩
set_option maxHeartbeats 400000 in
theorem cmpI_any (x y : Int) (w : World) : Calls Tryz.prog 123 #[.int .i64 x, .int .i64 y] w fun e w' => e = .returned (.int .i64 (cmpI x y)) ∧ w = w' := by
  have NX := Lib.hid (fun w => nanI_any x w)
  have NY := Lib.hid (fun w => nanI_any y w)
  unfold cmpI
  by_cases h1 : x < y
  · rw [if_pos h1]
    go_enter Tryz.func123, Tryz.ntmps123
    go_wp2_with fail
    refine (NX.out _).mono ?_
    rintro e w' ⟨rfl, rfl⟩
    go_wp2_with fail
    refine (NY.out _).mono ?_
    rintro e w' ⟨rfl, rfl⟩
    go_wp2_with fail
    go_ret
    exact ⟨rfl, rfl⟩
  · rw [if_neg h1]
    by_cases h2 : y < x
    · rw [if_pos h2]
      go_enter Tryz.func123, Tryz.ntmps123
      go_wp2_with fail
      refine (NX.out _).mono ?_
      rintro e w' ⟨rfl, rfl⟩
      go_wp2_with fail
      refine (NY.out _).mono ?_
      rintro e w' ⟨rfl, rfl⟩
      go_wp2_with fail
      go_ret
      exact ⟨rfl, rfl⟩
    · rw [if_neg h2]
      go_enter Tryz.func123, Tryz.ntmps123
      go_wp2_with fail
      refine (NX.out _).mono ?_
      rintro e w' ⟨rfl, rfl⟩
      go_wp2_with fail
      refine (NY.out _).mono ?_
      rintro e w' ⟨rfl, rfl⟩
      go_wp2_with fail
      go_ret
      exact ⟨rfl, rfl⟩
set_option maxRecDepth 100000 in
set_option maxHeartbeats 1000000 in
theorem rest3_any (i k : Nat) (n cp c rb : Nat) (x y : Int) (w : World) (hi : i < n) (hk : k < n) (hc : w.cell? ⟨c, 0, none⟩ = some (.slice (some ⟨rb, 0, none⟩) n cp)) (ci : w.cell? ⟨rb, i, none⟩ = some (.int .i64 x)) (ck : w.cell? ⟨rb, k, none⟩ = some (.int .i64 y)) :
    Calls Tryz.prog 122 #[.int .i64 (i : Int), .int .i64 (k : Int), .pointer (some ⟨c, 0, none⟩)] w fun e w' => e = .returned (.int .i64 (cmpI y x)) ∧ ∃ q, w' = w.drewN q := by
  have CC := Lib.hid (fun w => cmpI_any y x w)
  generalize cmpI y x = z at *
  have i0 : (0 : Int) ≤ (i : Int) := by omega
  have i1 : (i : Int) < (n : Int) := by omega
  have k0 : (0 : Int) ≤ (k : Int) := by omega
  have k1 : (k : Int) < (n : Int) := by omega
  go_enter Tryz.func122, Tryz.ntmps122
  go_wp2_with fail
  go_quiet ((go_at_call 123; with_reducible exact quiet_leftS (CC.out _)))
  rename Nat => q1
  go_wp2_with fail
  go_ret
  exact ⟨rfl, q1, rfl⟩

/-- The rest of an index, whatever number it is. -/
def kap (r : List Int) (n : Nat) (x : Int) : Int := r.getD (x.toNat % n) 0
def encN (n : Nat) (x : Int) : Value := .int .i64 ((x.toNat % n : Nat) : Int)
def cfN (r : List Int) (n : Nat) (x y : Int) : Int := cmpI (kap r n y) (kap r n x)
theorem ltOf_cf (r : List Int) (n : Nat) : ltOf (cfN r n) = ltR (kap r n) := by
  funext x y
  unfold ltOf cfN cmpI ltR
  congr 1
  apply propext
  split
  · constructor <;> intro _ <;> omega
  · split <;> constructor <;> intro _ <;> omega
theorem reads_any (r : List Int) (n c cp rb b : Nat) (w : World) (hn : 0 < n) (hcb : c ≠ b) (hrb : rb ≠ b) (hcl : c < w.heap.size) (hc : w.cell? ⟨c, 0, none⟩ = some (.slice (some ⟨rb, 0, none⟩) n cp)) (hr : KRow w rb n r) :
    CmpReads Tryz.prog 122 #[.pointer (some ⟨c, 0, none⟩)] (encN n) (cfN r n) b 0 n w := by
  intro m os dk hs x y
  have hX : ∀ (a : Addr), a.block ≠ b → a.block < w.heap.size → (sortWorld (encN n) w b 0 m dk os).cell? a = w.cell? a := fun a h1 h2 => by
    unfold sortWorld
    rw [cell?_grow _ _ _ (by rw [size_putRow]; exact h2), cell?_putRow_other _ _ _ _ _ _ (Or.inl h1)]
    rfl
  have hx : x.toNat % n < n := Nat.mod_lt _ hn
  have hy : y.toNat % n < n := Nat.mod_lt _ hn
  exact rest3_any (x.toNat % n) (y.toNat % n) n cp c rb _ _ _ hx hy ((hX ⟨c, 0, none⟩ hcb hcl).trans hc) ((hX ⟨rb, _, none⟩ hrb hr.lt).trans (hr.at _ hx)) ((hX ⟨rb, _, none⟩ hrb hr.lt).trans (hr.at _ hy))
theorem fin_Bm3 : True := trivial
end

section
open Go.RowKit
open Go.Sort (Holds putRow size_putRow putCells mapBlock onCells insertionSort)
set_option linter.unusedVariables false

theorem ord_in (κ : Int → Int) (n : Nat) : ∀ x ∈ ordL κ n, 0 ≤ x ∧ x < n := fun x hx => by
  have := ((ord_spec κ n).1.mem_iff).1 hx
  simp only [List.mem_map, List.mem_range] at this
  obtain ⟨a, ha, rfl⟩ := this
  omega
theorem idxL_get (n j : Nat) (hj : j < n) : (idxL n n).getD j 0 = (j : Int) := by
  unfold idxL
  rw [List.getD, List.getElem?_append_left (by simpa using hj)]
  simp [hj]
theorem holds_idx {w : World} {b n : Nat} (h : KRow w b n (idxL n n)) : Holds (encN n) w b 0 (idxA n) := by
  intro j hj
  rw [idxA_size] at hj
  refine ⟨?_, by rw [Nat.zero_add]; exact h.free j⟩
  rw [Nat.zero_add, h.at j hj, idxL_get n j hj, idxA_get n j hj]
  unfold encN
  rw [Int.toNat_natCast, Nat.mod_eq_of_lt hj]
/-- Behind the sort. -/
theorem sorted_row {w : World} {b n : Nat} {L : List Int} (κ : Int → Int) (h : KRow w b n L) (q : Nat) :
    KRow ((putRow (encN n) w b 0 (insertionSort (ltR κ) (idxA n) 0 n)).drewN q) b n (ordL κ n) ∧ w.grownBy ((putRow (encN n) w b 0 (insertionSort (ltR κ) (idxA n) 0 n)).drewN q) (some b) := by
  obtain ⟨_, hl, _⟩ := ord_spec κ n
  have hin := ord_in κ n
  have hs : (insertionSort (ltR κ) (idxA n) 0 n).size = n := by rw [← Array.length_toList]; exact hl
  constructor
  · obtain ⟨c, hb, hn, hc⟩ := h
    refine ⟨putCells (encN n) 0 (insertionSort (ltR κ) (idxA n) 0 n) c, ?_, by simp [putCells, hn], ?_⟩
    · show (putRow (encN n) w b 0 (insertionSort (ltR κ) (idxA n) 0 n)).heap[b]? = _
      simp [putRow, mapBlock, Array.getElem?_modify, hb, onCells]
    · intro i hi
      have e : (ordL κ n).getD i 0 = (insertionSort (ltR κ) (idxA n) 0 n)[i]! := by
        unfold ordL
        rw [List.getD, Array.getElem?_toList, getElem!_pos _ i (by rw [hs]; exact hi), Array.getElem?_eq_getElem (by rw [hs]; exact hi)]
        rfl
      have hm : 0 ≤ (ordL κ n).getD i 0 ∧ (ordL κ n).getD i 0 < n := by
        rw [List.getD, List.getElem?_eq_getElem (by rw [hl]; exact hi)]
        exact hin _ (List.getElem_mem _)
      show _ = some (Value.int .i64 ((ordL κ n).getD i 0))
      rw [e] at hm ⊢
      have hci : i < c.size := by omega
      have e2 : (putCells (encN n) 0 (insertionSort (ltR κ) (idxA n) 0 n) c)[i]? = some (encN n (insertionSort (ltR κ) (idxA n) 0 n)[i]!) := by
        unfold putCells
        rw [Array.getElem?_mapIdx, Array.getElem?_eq_getElem hci]
        simp [hs, hi]
      rw [e2]
      unfold encN
      rw [Nat.mod_eq_of_lt (by omega), Int.toNat_of_nonneg hm.1]
  · refine ⟨rfl, rfl, rfl, by show w.heap.size ≤ (putRow _ w b 0 _).heap.size; rw [size_putRow]; exact Nat.le_refl _, fun k hk hne => ?_⟩
    have : b ≠ k := fun e => hne (by rw [e])
    show (putRow _ w b 0 _).heap[k]? = _
    simp [putRow, mapBlock, Array.getElem?_modify, this]

theorem ins_any (r : List Int) (n c cp rb b cap : Nat) (w : World) (hn : 0 < n) (hn2 : n ≤ 20) (hcb : c ≠ b) (hrb : rb ≠ b) (hcl : c < w.heap.size) (hc : w.cell? ⟨c, 0, none⟩ = some (.slice (some ⟨rb, 0, none⟩) n cp)) (hr : KRow w rb n r) (hb : KRow w b n (idxL n n)) :
    Calls Tryz.prog 182 #[.slice (some ⟨b, 0, none⟩) n cap, .int .i64 0, .int .i64 (n : Int), .func (.func 122) #[] #[.pointer (some ⟨c, 0, none⟩)]] w fun e w' => e = .returned (.tuple #[]) ∧ KRow w' b n (ordL (kap r n) n) ∧ w.grownBy w' (some b) := by
  have eg : ∀ args w, (callFunc 122 args).run Tryz.prog w = .ok (.enter 122 args) w := enters_of Tryz.func122 (by kernel_rfl) rfl
  have hcon := Any.insertionSortCmpFunc_one Tryz.insI (encN n) (fun _ => rfl) (cfN r n) 122 #[.pointer (some ⟨c, 0, none⟩)] b 0 cap 0 n (idxA n) w eg (by rw [idxA_size]; exact reads_any r n c cp rb b w hn hcb hrb hcl hc hr) (holds_idx hb) (Nat.zero_le _) (by rw [idxA_size]; exact Nat.le_refl _) (by rw [idxA_size]; omega)
  rw [idxA_size, ltOf_cf] at hcon
  change Calls Tryz.prog 182 _ _ _ at hcon
  refine hcon.mono ?_
  rintro e w' ⟨he, q, rfl⟩
  exact ⟨he, (sorted_row (kap r n) hb q).1, (sorted_row (kap r n) hb q).2⟩

set_option maxRecDepth 100000 in
set_option maxHeartbeats 2000000 in
theorem stable_any (r : List Int) (n c cp rb b cap : Nat) (w : World) (hn : 0 < n) (hn2 : n < 20) (hcb : c ≠ b) (hrb : rb ≠ b) (hcl : c < w.heap.size) (hc : w.cell? ⟨c, 0, none⟩ = some (.slice (some ⟨rb, 0, none⟩) n cp)) (hr : KRow w rb n r) (hb : KRow w b n (idxL n n)) :
    Calls Tryz.prog 151 #[.slice (some ⟨b, 0, none⟩) n cap, .int .i64 (n : Int), .func (.func 122) #[] #[.pointer (some ⟨c, 0, none⟩)]] w fun e w' => e = .returned (.tuple #[]) ∧ KRow w' b n (ordL (kap r n) n) ∧ w.grownBy w' (some b) := by
  have I := Lib.hid (ins_any r n c cp rb b cap w hn (by omega) hcb hrb hcl hc hr hb)
  have n1 : ¬ (20 : Int) ≤ (n : Int) := by omega
  have n2 : ¬ (20 : Int) < (n : Int) := by omega
  clear hc hr hb hcl
  generalize ordL (kap r n) n = O at *
  go_enter Tryz.func151, Tryz.ntmps151
  go_wp2_with fail
  go_loopg [7, 8] 1 (fun kx s7 s8 wr => s7 = .int .i64 0 ∧ s8 = .int .i64 20 ∧ kx = 1 ∧ wr = w)
  case atStart => exact ⟨rfl, rfl, rfl, rfl⟩
  case round =>
    obtain ⟨rfl, rfl, rfl, rfl⟩ := hrel
    go_wp2_with fail
    refine I.out.mono ?_
    rintro e w2 ⟨rfl, hk2, hg2⟩
    have HK := Lib.hid hk2
    have HG := Lib.hid hg2
    clear hk2 hg2
    go_wp2_with fail
    go_loopg [6] 1 (fun kx s6 wr => s6 = .int .i64 20 ∧ kx = 1 ∧ wr = w2)
    case atStart => exact ⟨rfl, rfl, rfl⟩
    case round =>
      obtain ⟨rfl, rfl, rfl⟩ := hrel
      go_wp2_with fail
      go_returns
      exact ⟨rfl, HK.out, HG.out⟩
set_option maxRecDepth 100000 in
set_option maxHeartbeats 1000000 in
theorem sortS_any (r : List Int) (n c cp rb b cap : Nat) (w : World) (hn : 0 < n) (hn2 : n < 20) (hcb : c ≠ b) (hrb : rb ≠ b) (hcl : c < w.heap.size) (hc : w.cell? ⟨c, 0, none⟩ = some (.slice (some ⟨rb, 0, none⟩) n cp)) (hr : KRow w rb n r) (hb : KRow w b n (idxL n n)) :
    Calls Tryz.prog 121 #[.slice (some ⟨b, 0, none⟩) n cap, .func (.func 122) #[] #[.pointer (some ⟨c, 0, none⟩)]] w fun e w' => e = .returned (.tuple #[]) ∧ KRow w' b n (ordL (kap r n) n) ∧ w.grownBy w' (some b) := by
  have I := Lib.hid (stable_any r n c cp rb b cap w hn hn2 hcb hrb hcl hc hr hb)
  clear hc hr hb hcl
  generalize ordL (kap r n) n = O at *
  go_enter Tryz.func121, Tryz.ntmps121
  go_wp2_with fail
  refine I.out.mono ?_
  rintro e w2 ⟨rfl, hk2, hg2⟩
  have HK := Lib.hid hk2
  have HG := Lib.hid hg2
  clear hk2 hg2
  go_wp2_with fail
  go_returns
  exact ⟨rfl, HK.out, HG.out⟩
theorem fin_Bm4 : True := trivial
end

section
open Go.RowKit
set_option linter.unusedVariables false

theorem getD_map (f : Int → Int) (r : List Int) (j : Nat) (hj : j < r.length) : (r.map f).getD j 0 = f (r.getD j 0) := by
  rw [List.getD, List.getD, List.getElem?_map, List.getElem?_eq_getElem hj]
  rfl
theorem split_sum (s : Int) (r : List Int) : ∀ j, j ≤ r.length → s * sumK (downL s r) j + sumK (restL s r) j = 1000 * sumK r j
  | 0, _ => by simp [sumK]
  | j + 1, hj => by
    have ih := split_sum s r j (by omega)
    have e1 : (downL s r).getD j 0 = 1000 * r.getD j 0 / s := getD_map _ r j (by omega)
    have e2 : (restL s r).getD j 0 = 1000 * r.getD j 0 % s := getD_map _ r j (by omega)
    have e3 := Int.mul_ediv_add_emod (1000 * r.getD j 0) s
    unfold sumK
    rw [e1, e2, Int.mul_add, Int.mul_add]
    omega
theorem sumK_nn (r : List Int) (h : ∀ i, i < r.length → 0 ≤ r.getD i 0) : ∀ j, j ≤ r.length → 0 ≤ sumK r j
  | 0, _ => Int.le_refl _
  | j + 1, hj => by
    have := sumK_nn r h j (by omega)
    have := h j (by omega)
    unfold sumK
    omega
theorem sumK_lt (s : Int) (r : List Int) (s0 : 0 < s) (h : ∀ i, i < r.length → r.getD i 0 ≤ s - 1) : ∀ j, j ≤ r.length → sumK r j + j ≤ s * j
  | 0, _ => by simp [sumK]
  | j + 1, hj => by
    have := sumK_lt s r s0 h j (by omega)
    have := h j (by omega)
    have e : s * ((j + 1 : Nat) : Int) = s * (j : Int) + s := by rw [Int.natCast_add, Int.mul_add]; simp
    unfold sumK
    rw [e]
    omega
theorem sumK_ge (r : List Int) (h : ∀ i, i < r.length → 0 ≤ r.getD i 0) (i : Nat) (hi : i < r.length) : r.getD i 0 ≤ sumK r r.length := by
  have key : ∀ j, i < j → j ≤ r.length → r.getD i 0 ≤ sumK r j := by
    intro j
    induction j with
    | zero => intro h1; omega
    | succ j ih =>
      intro h1 h2
      have n0 := sumK_nn r h j (by omega)
      have nj := h j (by omega)
      unfold sumK
      by_cases c : i = j
      · subst c; omega
      · have := ih (by omega) (by omega); omega
  exact key _ hi (Nat.le_refl _)
theorem left_bd (r : List Int) (h : ∀ i, i < r.length → 0 ≤ r.getD i 0) (hs : 0 < sumK r r.length) :
    0 ≤ 1000 - sumK (downL (sumK r r.length) r) r.length ∧ 1000 - sumK (downL (sumK r r.length) r) r.length ≤ r.length := by
  have hi := split_sum (sumK r r.length) r r.length (Nat.le_refl _)
  generalize hq : sumK r r.length = s at *
  have hrl : (restL s r).length = r.length := by simp [restL]
  have er : ∀ i, i < r.length → (restL s r).getD i 0 = 1000 * r.getD i 0 % s := fun i hi => getD_map _ r i hi
  have n0 := sumK_nn (restL s r) (fun i hi => by rw [er i (by omega)]; exact Int.emod_nonneg _ (by omega)) r.length (by omega)
  have n1 := sumK_lt s (restL s r) hs (fun i hi => by rw [er i (by omega)]; have := Int.emod_lt_of_pos (1000 * r.getD i 0) hs; omega) r.length (by omega)
  generalize sumK (restL s r) r.length = R at *
  generalize sumK (downL s r) r.length = D at *
  have e : s * (1000 - D) = R := by rw [Int.mul_sub]; omega
  constructor
  · rcases (show 0 ≤ 1000 - D ∨ 1000 - D ≤ -1 by omega) with c | c
    · exact c
    · have := Int.mul_le_mul_of_nonneg_left c (Int.le_of_lt hs)
      omega
  · rcases (show 1000 - D ≤ r.length ∨ (r.length : Int) + 1 ≤ 1000 - D by omega) with c | c
    · exact c
    · have := Int.mul_le_mul_of_nonneg_left c (Int.le_of_lt hs)
      rw [Int.mul_add] at this
      omega
/-- What is shared out is what was to be shared out. -/
theorem wgt_ord (r : List Int) (h : ∀ i, i < r.length → 0 ≤ r.getD i 0) (hs : 0 < sumK r r.length) :
    addL (downL (sumK r r.length) r) ((ordL (kap (restL (sumK r r.length) r) r.length) r.length).take (1000 - sumK (downL (sumK r r.length) r) r.length).toNat) = wgtL r := by
  obtain ⟨b0, b1⟩ := left_bd r h hs
  unfold wgtL
  rw [if_neg (by omega)]
  generalize sumK r r.length = s at *
  obtain ⟨o1, o2, o3⟩ := ord_spec (kap (restL s r) r.length) r.length
  have hrl : (restL s r).length = r.length := by simp [restL]
  have g := give_ord (kap (restL s r) r.length) (restL s r) (ordL (kap (restL s r) r.length) r.length) r.length (fun k hk => by unfold kap; rw [Int.toNat_natCast, Nat.mod_eq_of_lt hk]) hrl
    (fun x hx => by
      obtain ⟨y, _, rfl⟩ := List.mem_map.1 hx
      exact Int.emod_nonneg _ (by omega)) o1 o2 o3 (1000 - sumK (downL s r) r.length).toNat 0 (downL s r) (restL s r) (by omega) (by simp [downL]) (fun j hj => by rw [List.take_zero]; rfl) hrl
  rw [List.drop_zero] at g
  exact g.symm
theorem addL_bd (D : List Int) (M : Int) (h : ∀ i, i < D.length → 0 ≤ D.getD i 0 ∧ D.getD i 0 ≤ M) : ∀ l : List Int, ∀ i, i < D.length → 0 ≤ (addL D l).getD i 0 ∧ (addL D l).getD i 0 ≤ M + l.length := by
  intro l
  induction l generalizing D M with
  | nil => intro i hi; have := h i hi; show 0 ≤ D.getD i 0 ∧ D.getD i 0 ≤ M + ((0 : Nat) : Int); omega
  | cons x l ih =>
    intro i hi
    have := ih (D.set x.toNat (D.getD x.toNat 0 + 1)) (M + 1) (fun j hj => by
      rw [List.length_set] at hj
      have hj2 := h j hj
      by_cases c : x.toNat = j
      · subst c
        rw [List.getD, List.getElem?_set_self hj]
        show 0 ≤ D.getD x.toNat 0 + 1 ∧ D.getD x.toNat 0 + 1 ≤ M + 1
        omega
      · rw [List.getD, List.getElem?_set_ne c]
        show 0 ≤ D.getD j 0 ∧ D.getD j 0 ≤ M + 1
        omega) i (by rw [List.length_set]; exact hi)
    show 0 ≤ (addL (D.set x.toNat (D.getD x.toNat 0 + 1)) l).getD i 0 ∧ (addL (D.set x.toNat (D.getD x.toNat 0 + 1)) l).getD i 0 ≤ M + ((l.length + 1 : Nat) : Int)
    omega
/-- The first k of a list, then zeros. -/
def fillL (L : List Int) (n k : Nat) : List Int := L.take k ++ List.replicate (n - k) 0
theorem fillL_zero (L : List Int) (n : Nat) : fillL L n 0 = List.replicate n 0 := rfl
theorem fillL_all (L : List Int) (n : Nat) (h : L.length = n) : fillL L n n = L := by unfold fillL; rw [Nat.sub_self, List.take_of_length_le (by omega)]; simp
theorem fillL_len (L : List Int) (n k : Nat) (h : L.length = n) (hk : k ≤ n) : (fillL L n k).length = n := by unfold fillL; rw [List.length_append, List.length_take, List.length_replicate]; omega
theorem fillL_set (L : List Int) (n k : Nat) (h : L.length = n) (hk : k < n) (v : Int) (hv : v = L.getD k 0) : (fillL L n k).set k v = fillL L n (k + 1) := by
  unfold fillL
  have e : n - k = (n - (k + 1)) + 1 := by omega
  have hl : (L.take k).length = k := by rw [List.length_take]; omega
  rw [List.set_append_right _ _ (by omega), hl, Nat.sub_self, e, List.replicate_succ, List.set_cons_zero, List.take_add_one, List.getElem?_eq_getElem (by omega), List.append_assoc, hv, List.getD, List.getElem?_eq_getElem (by omega)]
  rfl
theorem gbS {w w' : World} {g : Nat} (h : w.grownBy w' (some g)) {p : Addr} (hp : p.block = g ∨ w.heap.size ≤ p.block) (v : Value) : w.grownBy (w'.setCell p v) (some g) :=
  ⟨h.os, h.tape, h.output, by rw [show (w'.setCell p v).heap.size = w'.heap.size by simp]; exact h.size, fun k hk hne => by
    rw [Go.Deep.blk_setCell_other _ _ _ _ (fun e => hp.elim (fun e2 => hne (by rw [e, e2])) (fun e2 => by omega))]
    exact h.block k hk hne⟩
theorem gbD {w w' : World} {r : Option Nat} (h : w.grownBy w' r) : w.grownBy w'.drew r := ⟨h.os, h.tape, h.output, h.size, h.block⟩
theorem gbB {w w' w'' : World} {g : Nat} (h : w.grownBy w' (some g)) (hb : Below w'.heap.size w' w'') : w.grownBy w'' (some g) :=
  ⟨hb.os.trans h.os, hb.tape.trans h.tape, hb.output.trans h.output, Nat.le_trans h.size hb.size, fun k hk hne => (hb.block k (Nat.lt_of_lt_of_le hk h.size)).trans (h.block k hk hne)⟩
theorem gbG {w w' w'' : World} {g b : Nat} (h : w.grownBy w' (some g)) (hb : w'.grownBy w'' (some b)) (hn : w.heap.size ≤ b) : w.grownBy w'' (some g) :=
  ⟨hb.os.trans h.os, hb.tape.trans h.tape, hb.output.trans h.output, Nat.le_trans h.size hb.size, fun k hk hne => (hb.block k (Nat.lt_of_lt_of_le hk h.size) (fun e => by injection e with e; omega)).trans (h.block k hk hne)⟩
theorem fin_Bm5 : True := trivial
end

section
open Go.RowKit
set_option linter.unusedVariables false

set_option maxRecDepth 100000 in
set_option maxHeartbeats 8000000 in
theorem shareOut_any (g n : Nat) (P W : List Int) (w : World) (hn0 : 0 < n) (hn : n ≤ 6) (hW : W.length = n) (hw : ∀ i, i < n → 0 ≤ W.getD i 0 ∧ W.getD i 0 ≤ 1001) (hs0 : ¬ sumK W n = 0) (hr : BRow w g n P W (List.replicate n 0)) :
    Calls Tryz.prog 86 #[.slice (some ⟨g, 0, none⟩) n n] w fun e w' => e = .returned (.tuple #[]) ∧ BRow w' g n P W (wgtL W) ∧ w.grownBy w' (some g) := by
  have hsb := sumF_bd (fun i => W.getD i 0) 1001 n (fun i hi => hw i hi) n (Nat.le_refl _)
  rw [sumF_K] at hsb
  have hs : 0 < sumK W n := by omega
  have hWO : addL (downL (sumK W n) W) ((ordL (kap (restL (sumK W n) W) n) n).take (1000 - sumK (downL (sumK W n) W) n).toNat) = wgtL W := by
    have h := wgt_ord W (fun i hi => (hw i (by omega)).1) (by rw [hW]; exact hs)
    rw [hW] at h
    exact h
  have hLB := left_bd W (fun i hi => (hw i (by omega)).1) (by rw [hW]; exact hs)
  rw [hW] at hLB
  have hge : ∀ i, i < n → W.getD i 0 ≤ sumK W n := fun i hi => by
    have := sumK_ge W (fun i hi => (hw i (by omega)).1) i (by omega)
    rw [hW] at this
    exact this
  obtain ⟨op, ol, _⟩ := ord_spec (kap (restL (sumK W n) W) n) n
  have oin := ord_in (kap (restL (sumK W n) W) n) n
  have eg1 : ∀ args w, (callFunc 118 args).run Tryz.prog w = .ok (.enter 118 args) w := enters_of Tryz.func118 (by kernel_rfl) rfl
  have eg2 : ∀ args w, (callFunc 119 args).run Tryz.prog w = .ok (.enter 119 args) w := enters_of Tryz.func119 (by kernel_rfl) rfl
  have C1 := Lib.hid (sumB_any 118 #[] g n n P W (List.replicate n 0) (fun i => W.getD i 0) w eg1 (by omega) hr (fun i hi => ⟨(hw i hi).1, by have := (hw i hi).2; omega⟩) (fun X i _ _ => out1_any _ _ _ X))
  rw [sumF_K] at C1
  have hDl : (downL (sumK W n) W).length = n := by simp [downL, hW]
  have hRl : (restL (sumK W n) W).length = n := by simp [restL, hW]
  have hDv : ∀ i, i < n → (downL (sumK W n) W).getD i 0 = 1000 * W.getD i 0 / sumK W n := fun i hi => getD_map _ W i (by omega)
  have hRv : ∀ i, i < n → (restL (sumK W n) W).getD i 0 = 1000 * W.getD i 0 % sumK W n := fun i hi => getD_map _ W i (by omega)
  have hDb : ∀ i, i < n → 0 ≤ (downL (sumK W n) W).getD i 0 ∧ (downL (sumK W n) W).getD i 0 ≤ 1000 := fun i hi => by
    have h1 := hw i hi
    have h2 := hge i hi
    rw [hDv i hi]
    exact ⟨Int.ediv_nonneg (by omega) (by omega), Int.ediv_le_of_le_mul hs (by rw [Int.mul_comm]; have := Int.mul_le_mul_of_nonneg_left h2 (show (0 : Int) ≤ 1000 by omega); omega)⟩
  have C2 := Lib.hid (fun (X : World) (hX : BRow X g n P W (downL (sumK W n) W)) => (show Calls Tryz.prog 56 #[.slice (some ⟨g, 0, none⟩) n n, .func (.func 119) #[] #[]] X fun e w' => e = .returned (.int .i64 (sumK (downL (sumK W n) W) n)) ∧ Below X.heap.size X w' from by
    have h := sumB_any 119 #[] g n n P W (downL (sumK W n) W) (fun i => (downL (sumK W n) W).getD i 0) X eg2 (by omega) hX (fun i hi => ⟨(hDb i hi).1, by have := (hDb i hi).2; omega⟩) (fun X i _ _ => out2_any _ _ _ X)
    rw [sumF_K] at h
    exact h))
  have AB := Lib.hid (addL_bd (downL (sumK W n) W) 1000 (fun i hi => hDb i (by omega)))
  have hmk := run_make_row' (P := Tryz.prog) 24 2 (.int .i64 0) 8 Tryz.underlying24 info_i64k rfl .i64 .i64 n (by omega) (by omega)
  have IX := Lib.hid (fun w => indicesOf_any n (by omega) w)
  have SO := Lib.hid (fun c rb b cap w hcb hrb hcl hc hr hb => sortS_any (restL (sumK W n) W) n c n rb b cap w hn0 (by omega) hcb hrb hcl hc hr hb)
  have HG0 : Hid (w.grownBy w (some g)) := Lib.hid ⟨rfl, rfl, rfl, Nat.le_refl _, fun _ _ _ => rfl⟩
  have hgl := hr.lt
  have HR := Lib.hid hr
  have HWO := Lib.hid hWO
  clear hr hWO eg1 eg2 op
  generalize hO : ordL (kap (restL (sumK W n) W) n) n = O at *
  generalize hS : sumK W n = s at *
  have DV := Lib.hid hDv
  have RV := Lib.hid hRv
  have GE := Lib.hid hge
  have HWW := Lib.hid hw
  clear hDv hRv hge hw hO hS hDb
  generalize hD : downL s W = D at *
  generalize hRr : restL s W = R at *
  clear hD hRr
  go_enter Tryz.func86, Tryz.ntmps86
  go_wp2_with fail
  refine C1.out.mono ?_
  rintro e w1 ⟨rfl, hb1⟩
  have HR1 := Lib.hid (HR.out.below hb1)
  have HG1 := Lib.hid (gbB HG0.out hb1)
  have hs1 := hb1.size
  have HB1 := Lib.hid hb1
  clear hb1
  go_wp2_with fail
  clear hmk
  have MK := KRow.made w1 n
  obtain ⟨w2, hw2⟩ : ∃ w2, w2 = (w1.alloc (.cells (madeCells #[.int .i64 0] n) 2)).alloc (.cells #[.slice (some ⟨w1.heap.size, 0, none⟩) n n] 24) := ⟨_, rfl⟩
  have hb2 : Below w1.heap.size w1 w2 := by rw [hw2]; exact ((Below.refl _ _).alloc (Nat.le_refl _) _).alloc (by simp) _
  have K2 : Hid (KRow w2 w1.heap.size n (fillL R n 0)) := Lib.hid (by rw [hw2, fillL_zero]; exact World.rowIs.alloc MK _)
  have C20 : Hid (w2.cell? ⟨w1.heap.size + 1, 0, none⟩ = some (.slice (some ⟨w1.heap.size, 0, none⟩) n n)) := Lib.hid (by rw [hw2, World.cell?_alloc_at _ _ _ _ (by simp)]; rfl)
  have R2 : Hid (BRow w2 g n P W (fillL D n 0)) := Lib.hid (by rw [fillL_zero]; exact HR1.out.below hb2)
  have G2 := Lib.hid (gbB HG1.out hb2)
  have hs2 : w2.heap.size = w1.heap.size + 1 + 1 := by rw [hw2]; simp
  clear hb2 MK HR HR1 HG1 HG0 HB1
  rw [← hw2]
  clear hw2
  go_loopg [17] (n + 1) (fun kx s17 wr => ∃ k : Nat, s17 = .int .i64 (k : Int) ∧ k ≤ n ∧ kx = n + 1 - k ∧ Hid (BRow wr g n P W (fillL D n k)) ∧ Hid (KRow wr w1.heap.size n (fillL R n k)) ∧ Hid (wr.cell? ⟨w1.heap.size + 1, 0, none⟩ = some (.slice (some ⟨w1.heap.size, 0, none⟩) n n)) ∧ Hid (w.grownBy wr (some g)))
  case atStart => exact ⟨0, rfl, Nat.zero_le _, rfl, R2, K2, C20, G2⟩
  case round =>
    clear R2 K2 C20 G2
    obtain ⟨k, rfl, hk, rfl, HR, HK, HC, HG⟩ := hrel
    by_cases hlt : k < n
    · obtain ⟨c0, c1, c2⟩ := HR.out.at k hlt
      have k0 : (0 : Int) ≤ (k : Int) := by omega
      have k1 : (k : Int) < (n : Int) := by omega
      have hwk := HWW.out k hlt
      have dv := DV.out k hlt
      have rv := RV.out k hlt
      have FD := fillL_set D n k hDl hlt _ rfl
      have FR := fillL_set R n k hRl hlt _ rfl
      rw [dv] at FD
      rw [rv] at FR
      have q0 : (1000 * W.getD k 0).tdiv s = 1000 * W.getD k 0 / s := Int.tdiv_eq_ediv_of_nonneg (by omega)
      have q1 : (1000 * W.getD k 0).tmod s = 1000 * W.getD k 0 % s := Int.tmod_eq_emod_of_nonneg (by omega)
      have ge := GE.out k hlt
      have d0 : 0 ≤ 1000 * W.getD k 0 / s := Int.ediv_nonneg (by omega) (by omega)
      have d1 : 1000 * W.getD k 0 / s ≤ 1000 := Int.ediv_le_of_le_mul hs (by rw [Int.mul_comm]; have := Int.mul_le_mul_of_nonneg_left ge (show (0 : Int) ≤ 1000 by omega); omega)
      have m0 := Int.emod_nonneg (1000 * W.getD k 0) (show s ≠ 0 by omega)
      have m1 := Int.emod_lt_of_pos (1000 * W.getD k 0) hs
      have e1 : IntKind.i64.wrap (1000 * W.getD k 0) = 1000 * W.getD k 0 := IntWalk.i64_in _ (by omega)
      have e2 : IntKind.i64.wrap (1000 * W.getD k 0 / s) = 1000 * W.getD k 0 / s := IntWalk.i64_in _ (by omega)
      have e3 : IntKind.i64.wrap (1000 * W.getD k 0 % s) = 1000 * W.getD k 0 % s := IntWalk.i64_in _ (by omega)
      have sz : ¬ s = 0 := by omega
      obtain ⟨W5, hW5⟩ : ∃ W5, W5 = wr.alloc (.cells #[.int .i64 (P.getD k 0), .int .i64 (W.getD k 0), .int .i64 ((fillL D n k).getD k 0)] 65) := ⟨_, rfl⟩
      have hb5 : Below wr.heap.size wr W5 := by rw [hW5]; exact (Below.refl _ _).alloc (Nat.le_refl _) _
      have v0 : W5.cell? ⟨wr.heap.size, 1, none⟩ = some (.int .i64 (W.getD k 0)) := by rw [hW5]; simp
      have hwl : w1.heap.size + 1 < wr.heap.size := World.block_lt_of_cell? wr ⟨w1.heap.size + 1, 0, none⟩ HC.out
      have v1 : W5.cell? ⟨w1.heap.size + 1, 0, none⟩ = some (.slice (some ⟨w1.heap.size, 0, none⟩) n n) := (hb5.cell (p := ⟨w1.heap.size + 1, 0, none⟩) hwl).trans HC.out
      have BR5 := HR.out.below hb5
      have KR5 := HK.out.below hb5
      have G5 := gbB HG.out hb5
      have v2 := (BR5.at k hlt).2.2
      have v3 := KR5.at k hlt
      have f2 := BR5.free (k * 3 + 2)
      have f3 := KR5.free k
      have BR6 := (BR5.put k hlt (fillL_len D n k hDl hk) (1000 * W.getD k 0 / s))
      rw [FD] at BR6
      have hne : g ≠ w1.heap.size := by omega
      have KR6 := KRow.put (show KRow (W5.setCell ⟨g, k * 3 + 2, none⟩ (.int .i64 (1000 * W.getD k 0 / s))) w1.heap.size n (fillL R n k) from World.rowIs.setOther KR5 hne.symm _) k hlt (fillL_len R n k hRl hk) (1000 * W.getD k 0 % s)
      rw [FR] at KR6
      have HR7 : Hid (BRow ((W5.setCell ⟨g, k * 3 + 2, none⟩ (.int .i64 (1000 * W.getD k 0 / s))).setCell ⟨w1.heap.size, k, none⟩ (.int .i64 (1000 * W.getD k 0 % s))) g n P W (fillL D n (k + 1))) := Lib.hid (World.rowIs.setOther BR6 hne _)
      have HK7 : Hid (KRow ((W5.setCell ⟨g, k * 3 + 2, none⟩ (.int .i64 (1000 * W.getD k 0 / s))).setCell ⟨w1.heap.size, k, none⟩ (.int .i64 (1000 * W.getD k 0 % s))) w1.heap.size n (fillL R n (k + 1))) := Lib.hid KR6
      have HC7 : Hid (((W5.setCell ⟨g, k * 3 + 2, none⟩ (.int .i64 (1000 * W.getD k 0 / s))).setCell ⟨w1.heap.size, k, none⟩ (.int .i64 (1000 * W.getD k 0 % s))).cell? ⟨w1.heap.size + 1, 0, none⟩ = some (.slice (some ⟨w1.heap.size, 0, none⟩) n n)) := Lib.hid (by
        rw [World.cell?_setCell_other (h := by first | (simp; done) | (simp; omega)), World.cell?_setCell_other (h := by first | (simp; done) | (simp; omega))]
        exact v1)
      have HG7 : Hid (w.grownBy ((W5.setCell ⟨g, k * 3 + 2, none⟩ (.int .i64 (1000 * W.getD k 0 / s))).setCell ⟨w1.heap.size, k, none⟩ (.int .i64 (1000 * W.getD k 0 % s))) (some g)) := Lib.hid (gbS (gbS G5 (Or.inl rfl) _) (Or.inr hs1) _)
      have HW5 := Lib.hid hW5
      clear hW5 hb5 BR5 KR5 G5 BR6 KR6 FD FR HR HK HC HG d0 d1 m0 m1 ge hwk dv rv
      generalize W.getD k 0 = xk at *
      generalize P.getD k 0 = pk at *
      generalize (fillL D n k).getD k 0 = sk at *
      generalize (fillL R n k).getD k 0 = tk at *
      go_wp2_with fail
      rw [← HW5.out]
      clear HW5 c0 c1 c2
      go_region
      all_goals
        go_wp2_with fail
        go_roundg (n + 1 - (k + 1))
        case measure => omega
        case rel => exact ⟨k + 1, by go_num, by omega, rfl, HR7, HK7, HC7, Lib.hid (gbD HG7.out)⟩
    · obtain rfl : k = n := by omega
      rw [fillL_all D k hDl] at HR
      rw [fillL_all R k hRl] at HK
      obtain ⟨m, hm⟩ : ∃ m : Nat, 1000 - sumK D k = (m : Int) := ⟨(1000 - sumK D k).toNat, by omega⟩
      have hmn : m ≤ k := by omega
      rw [hm, Int.toNat_natCast] at HWO
      have lw1 : IntKind.i64.wrap (1000 - sumK D k) = (m : Int) := by rw [hm]; exact IntWalk.i64_in _ (by omega)
      have lw2 : wrap64 (1000 - sumK D k) = (m : Int) := by rw [hm]; exact IntWalk.wrap64_in _ (by omega)
      clear hLB hm
      generalize sumK D k = q at *
      go_wp2_with fail
      refine (C2.out _ HR.out).mono ?_
      rintro e w6 ⟨rfl, hb6⟩
      have hcl := World.block_lt_of_cell? wr ⟨w1.heap.size + 1, 0, none⟩ HC.out
      have HR6 := Lib.hid (HR.out.below hb6)
      have HK6 := Lib.hid (HK.out.below hb6)
      have HC6 := Lib.hid ((hb6.cell (p := ⟨w1.heap.size + 1, 0, none⟩) hcl).trans HC.out)
      have HG6 := Lib.hid (gbB HG.out hb6)
      have hs6 := hb6.size
      clear hb6 HR HK HC HG C2
      go_wp2_with fail
      refine (IX.out _).mono ?_
      rintro e w7 ⟨rfl, hk7, hb7⟩
      have HR7 := Lib.hid (HR6.out.below hb7)
      have HK7 := Lib.hid (HK6.out.below hb7)
      have HC7 := Lib.hid ((hb7.cell (p := ⟨w1.heap.size + 1, 0, none⟩) (by show w1.heap.size + 1 < w6.heap.size; have : w1.heap.size + 1 < wr.heap.size := hcl; omega)).trans HC6.out)
      have HG7 := Lib.hid (gbB HG6.out hb7)
      have HI7 := Lib.hid hk7
      have hl7 : w6.heap.size < w7.heap.size := hk7.lt
      have hcl2 : w1.heap.size + 1 < w6.heap.size := by have : w1.heap.size + 1 < wr.heap.size := hcl; omega
      clear hb7 hk7 HR6 HK6 HC6 HG6
      go_wp2_with fail
      refine (SO.out (w1.heap.size + 1) w1.heap.size w6.heap.size k w7 (by omega) (by omega) (by omega) HC7.out HK7.out HI7.out).mono ?_
      rintro e w8 ⟨rfl, hk8, hg8⟩
      have HR8 : Hid (BRow w8 g k P W D) := Lib.hid (World.rowIs.of_block HR7.out (hg8.block g HR7.out.lt (fun e => by injection e with e; omega)))
      have HG8 := Lib.hid (gbG HG7.out hg8 (by omega))
      have HO8 := Lib.hid hk8
      have hl8 : w6.heap.size < w8.heap.size := hk8.lt
      clear hk8 hg8 HR7 HK7 HC7 HG7 HI7 SO IX
      have m0 : (0 : Int) ≤ (m : Int) := by omega
      have m1 : (m : Int) ≤ (k : Int) := by omega
      go_wp2_with fail
      go_loopg [53] (m + 1) (fun kx s53 wr => ∃ j : Nat, s53 = .int .i64 (j : Int) ∧ j ≤ m ∧ kx = m + 1 - j ∧ Hid (BRow wr g k P W (addL D (O.take j))) ∧ Hid (KRow wr w6.heap.size k O) ∧ Hid (w.grownBy wr (some g)))
      case atStart => exact ⟨0, rfl, Nat.zero_le _, rfl, Lib.hid (by rw [List.take_zero]; exact HR8.out), HO8, HG8⟩
      case round =>
        clear HR8 HO8 HG8
        obtain ⟨j, rfl, hj, rfl, HR, HO, HG⟩ := hrel
        by_cases hlt2 : j < m
        · have hjO : j < O.length := by omega
          have hio := oin O[j] (List.getElem_mem hjO)
          obtain ⟨i, hi⟩ : ∃ i : Nat, O[j] = (i : Int) := ⟨O[j].toNat, by omega⟩
          have hik : i < k := by omega
          have gj : O.getD j 0 = (i : Int) := by rw [List.getD, List.getElem?_eq_getElem hjO]; exact hi
          have c0 := HO.out.at j (by omega)
          rw [gj] at c0
          have c1 := (HR.out.at i hik).2.2
          have f1 := HR.out.free (i * 3 + 2)
          have AL : (addL D (O.take j)).length = k := by rw [addL_len]; exact hDl
          have ab := AB.out (O.take j) i (by omega)
          have htl : (O.take j).length ≤ 6 := by rw [List.length_take]; omega
          have AS : (addL D (O.take j)).set i ((addL D (O.take j)).getD i 0 + 1) = addL D (O.take (j + 1)) := by
            rw [List.take_add_one, List.getElem?_eq_getElem hjO, Option.toList_some, addL_snoc, hi, Int.toNat_natCast]
          have PT := HR.out.put i hik AL ((addL D (O.take j)).getD i 0 + 1)
          rw [AS] at PT
          have w1' : IntKind.i64.wrap ((addL D (O.take j)).getD i 0 + 1) = (addL D (O.take j)).getD i 0 + 1 := IntWalk.i64_in _ (by omega)
          have w2' : wrap64 ((addL D (O.take j)).getD i 0 + 1) = (addL D (O.take j)).getD i 0 + 1 := IntWalk.wrap64_in _ (by omega)
          have HR9 := Lib.hid PT
          have HO9 : Hid (KRow (wr.setCell ⟨g, i * 3 + 2, none⟩ (.int .i64 ((addL D (O.take j)).getD i 0 + 1))) w6.heap.size k O) := Lib.hid (World.rowIs.setOther HO.out (show w6.heap.size ≠ g by omega) _)
          have HG9 := Lib.hid (gbS HG.out (p := ⟨g, i * 3 + 2, none⟩) (Or.inl rfl) (.int .i64 ((addL D (O.take j)).getD i 0 + 1)))
          have j0 : (0 : Int) ≤ (j : Int) := by omega
          have j1 : (j : Int) < (m : Int) := by omega
          have i0 : (0 : Int) ≤ (i : Int) := by omega
          have i1 : (i : Int) < (k : Int) := by omega
          clear PT AS ab HR HO HG gj hio hi AL htl
          generalize (addL D (O.take j)).getD i 0 = z at *
          go_wp2_with fail
          go_roundg (m + 1 - (j + 1))
          case measure => omega
          case rel => exact ⟨j + 1, by go_num, by omega, rfl, HR9, HO9, HG9⟩
        · obtain rfl : j = m := by omega
          have HR9 : Hid (BRow wr g k P W (wgtL W)) := Lib.hid (by rw [← HWO.out]; exact HR.out)
          go_wp2_with fail
          go_returns
          exact ⟨rfl, HR9.out, HG.out⟩
theorem fin_Bm6 : True := trivial
end
end Go.Proofs.YtlklcpnnaolbeaaGreatDoor
