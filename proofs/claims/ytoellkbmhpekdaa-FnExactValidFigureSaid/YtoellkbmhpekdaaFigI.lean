/-
  Lines of figures: the contracts of isIndex, isValidFor with its closure, slices.Compare, isIncreasing (package impl).
-/
import Derived.Test.YtoellkbmhpekdaaFigL
import Derived.Test.YtoellkbmhpekdaaStar1
import Derived.Deep.Draws
namespace Go.Proofs.Ytoellkbmhpekdaa
open Go.RowKit
set_option linter.unusedVariables false

/-- A line between two of n stars. -/
def lineB (n : Int) (x : List Int) : Bool := (x.length == 2) && (inR 0 (n - 1) x && decide (x.getD 0 0 < x.getD 1 0))
def lessP (x y : List Int) : Bool := decide (x.getD 0 0 < y.getD 0 0) || (decide (x.getD 0 0 = y.getD 0 0) && decide (x.getD 1 0 < y.getD 1 0))
def stepL (n : Int) (ls : List (List Int)) (j : Nat) : Bool := lineB n (ls.getD j []) && (j == 0 || lessP (ls.getD (j - 1) []) (ls.getD j []))
def okF (n : Int) (ls : List (List Int)) (j : Nat) : Bool := (List.range j).all (stepL n ls)
def linesB (n : Int) (ls : List (List Int)) : Bool := okF n ls ls.length && decide (ls.length ≤ 16)
theorem okF_next (n : Int) (ls : List (List Int)) (j : Nat) : okF n ls (j + 1) = (okF n ls j && stepL n ls j) := by
  unfold okF
  rw [List.range_succ, List.all_append]
  simp
theorem okF_stop (n : Int) (ls : List (List Int)) (j : Nat) (h : j < ls.length) (hs : stepL n ls j = false) : linesB n ls = false := by
  unfold linesB okF
  have : (List.range ls.length).all (stepL n ls) = false := by
    rw [List.all_eq_false]
    exact ⟨j, List.mem_range.2 h, by rw [hs]; simp⟩
  rw [this, Bool.false_and]
theorem okF_line (n : Int) (ls : List (List Int)) (j k : Nat) (h : okF n ls j = true) (hk : k < j) : lineB n (ls.getD k []) = true := by
  unfold okF at h
  rw [List.all_eq_true] at h
  have := h k (List.mem_range.2 hk)
  unfold stepL at this
  simp only [Bool.and_eq_true] at this
  exact this.1
theorem stepL_zero (n : Int) (ls : List (List Int)) : stepL n ls 0 = lineB n (ls.getD 0 []) := by simp [stepL]
theorem stepL_pos (n : Int) (ls : List (List Int)) (j k : Nat) (h : j = k + 1) : stepL n ls j = (lineB n (ls.getD j []) && lessP (ls.getD k []) (ls.getD j [])) := by subst h; simp [stepL]
theorem lineB_two {n : Int} {x : List Int} (h : lineB n x = true) : ∃ a b, x = [a, b] := by
  unfold lineB at h
  simp only [Bool.and_eq_true, beq_iff_eq] at h
  match x, h.1 with
  | [a, b], _ => exact ⟨a, b, rfl⟩
theorem getL_at (ls : List (List Int)) (j : Nat) (h : j < ls.length) : ls.getD j [] = ls[j] := by rw [List.getD, List.getElem?_eq_getElem h]; rfl

theorem NRow.drewN {w : World} {g : Nat} {zs : List Int} (h : NRow w g zs) {n : Nat} : NRow (w.drewN n) g zs := h
theorem NRow.cells {w : World} {g : Nat} {zs : List Int} (h : NRow w g zs) : ∀ j, j < zs.length → w.cell? ⟨g, 0 + j, none⟩ = some (.int .i64 (zs.getD j 0)) := by
  intro j hj
  rw [Nat.zero_add]
  exact World.rowIs.cell h hj

set_option maxHeartbeats 400000 in
theorem isIndex_any (n : Int) (h0 : 0 ≤ n) (h1 : n ≤ 1048577) (b off m cap : Nat) (zs : List Int) (w : World) (hn : zs.length = m) (hbig : m ≤ 9223372036854775807) (hc : ∀ j, j < zs.length → w.cell? ⟨b, off + j, none⟩ = some (.int .i64 (zs.getD j 0))) :
    Calls Try.prog 65 #[.int .i64 n, .slice (some ⟨b, off, none⟩) m cap] w fun e w' => e = .returned (.bool (inR 0 (n - 1) zs)) ∧ w = w' := by
  have W := Lib.hid (within64 0 (n - 1) b off m cap zs w hn hbig hc)
  clear hc hn
  go_enter Try.func65, Try.ntmps65
  go_wp2_with fail
  refine W.out.mono ?_
  rintro e w' ⟨rfl, rfl⟩
  go_wp2_with fail
  go_ret
  exact ⟨rfl, rfl⟩

theorem quiet_ddF {P : Program} {f : FuncId} {args : Array Value} {w : World} {n : Nat} {v : Value}
    (h : Calls P f args (w.drewN n) fun e w' => e = .returned v ∧ w.drewN n = w') : Calls P f args (w.drewN n) fun e w'' => e = .returned v ∧ ∃ m, w'' = w.drewN m :=
  h.mono fun _ _ ⟨he, hm⟩ => ⟨he, n, hm.symm⟩
set_option maxRecDepth 100000 in
set_option maxHeartbeats 1000000 in
theorem isLine_any (n : Int) (h0 : 0 ≤ n) (h1 : n ≤ 1048577) (b p : Nat) (x : List Int) (hx : x.length ≤ 1048577) (w : World) (hr : NRow w b x) (hp : w.cell? ⟨p, 0, none⟩ = some (.int .i64 n)) :
    Calls Try.prog 64 #[.slice (some ⟨b, 0, none⟩) x.length x.length, .pointer (some ⟨p, 0, none⟩)] w fun e w' => e = .returned (.bool (lineB n x)) ∧ ∃ q, w' = w.drewN q := by
  have II := Lib.hid (fun q => isIndex_any n h0 h1 b 0 x.length x.length x (w.drewN q) rfl (by omega) (hr.drewN.cells))
  by_cases h2 : x.length = 2
  · obtain ⟨a, c, rfl⟩ : ∃ a c, x = [a, c] := by
      match x, h2 with
      | [a, c], _ => exact ⟨a, c, rfl⟩
    have e0 := hr.at 0 (by simp)
    have e1 := hr.at 1 (by simp)
    have hv : lineB n [a, c] = (inR 0 (n - 1) [a, c] && decide (a < c)) := rfl
    rw [hv]
    simp only [List.length_cons, List.length_nil, List.getElem_cons_zero, List.getElem_cons_succ] at *
    clear hr hv h2 hx
    generalize inR 0 (n - 1) [a, c] = r at *
    cases r with
    | false =>
      rw [Bool.false_and]
      go_enter Try.func64, Try.ntmps64
      go_wp2_with fail
      go_quiet ((go_at_call 65; with_reducible exact quiet_ddF (II.out _)))
      rename Nat => q1
      go_wp2_with fail
      go_ret
      exact ⟨rfl, _, rfl⟩
    | true =>
      rw [Bool.true_and]
      go_enter Try.func64, Try.ntmps64
      go_wp2_with fail
      go_quiet ((go_at_call 65; with_reducible exact quiet_ddF (II.out _)))
      rename Nat => q1
      go_wp2_with fail
      go_ret
      exact ⟨rfl, _, rfl⟩
  · have hv : lineB n x = false := by
      unfold lineB
      rw [show (x.length == 2) = false by simpa using h2, Bool.false_and]
    rw [hv]
    have hi : ¬ (x.length : Int) = 2 := by omega
    have d1 : decide ((x.length : Int) = 2) = false := by simpa using hi
    have d2 : ((x.length : Int) == 2) = false := by simpa using hi
    clear hr hv h2
    generalize x.length = m at *
    go_enter Try.func64, Try.ntmps64
    go_wp2_with fail
    go_quiet ((go_at_call 65; with_reducible exact quiet_ddF (II.out _)))
    rename Nat => q1
    go_wp2_with fail
    go_ret
    exact ⟨rfl, _, rfl⟩

def cmpI (x y : Int) : Int := if x < y then -1 else if y < x then 1 else 0
set_option maxHeartbeats 400000 in
theorem nanI_any (x : Int) (w : World) : Calls Try.prog 92 #[.int .i64 x] w fun e w' => e = .returned (.bool false) ∧ w = w' := by
  have h : (x != x) = false := by simp
  have h2 : (x == x) = true := by simp
  go_enter Try.func92, Try.ntmps92
  go_wp2_with fail
  go_ret
  exact ⟨by simp, rfl⟩
set_option maxHeartbeats 400000 in
theorem cmpI_any (x y : Int) (w : World) : Calls Try.prog 85 #[.int .i64 x, .int .i64 y] w fun e w' => e = .returned (.int .i64 (cmpI x y)) ∧ w = w' := by
  have NX := Lib.hid (fun w => nanI_any x w)
  have NY := Lib.hid (fun w => nanI_any y w)
  unfold cmpI
  by_cases h1 : x < y
  · rw [if_pos h1]
    go_enter Try.func85, Try.ntmps85
    go_wp2_with fail
    refine (NX.out _).mono ?_
    rintro e w' ⟨rfl, rfl⟩
    go_wp2_with fail
    refine (NY.out _).mono ?_
    rintro e w' ⟨rfl, rfl⟩
    go_wp2_with fail
    go_ret
    exact ⟨rfl, rfl⟩
  · rw [if_neg h1]
    by_cases h2 : y < x
    · rw [if_pos h2]
      go_enter Try.func85, Try.ntmps85
      go_wp2_with fail
      refine (NX.out _).mono ?_
      rintro e w' ⟨rfl, rfl⟩
      go_wp2_with fail
      refine (NY.out _).mono ?_
      rintro e w' ⟨rfl, rfl⟩
      go_wp2_with fail
      go_ret
      exact ⟨rfl, rfl⟩
    · rw [if_neg h2]
      go_enter Try.func85, Try.ntmps85
      go_wp2_with fail
      refine (NX.out _).mono ?_
      rintro e w' ⟨rfl, rfl⟩
      go_wp2_with fail
      refine (NY.out _).mono ?_
      rintro e w' ⟨rfl, rfl⟩
      go_wp2_with fail
      go_ret
      exact ⟨rfl, rfl⟩
/-- What slices.Compare answers of two pairs. -/
def cmpP (a b c d : Int) : Int := if cmpI a c ≠ 0 then cmpI a c else cmpI b d
theorem cmpI_zero (x y : Int) : cmpI x y = 0 ↔ x = y := by unfold cmpI; split <;> (try split) <;> omega
theorem cmpI_lt (x y : Int) : cmpI x y < 0 ↔ x < y := by unfold cmpI; split <;> (try split) <;> omega
theorem cmpP_lt (a b c d : Int) : (cmpP a b c d < 0) ↔ lessP [a, b] [c, d] = true := by
  have h : lessP [a, b] [c, d] = (decide (a < c) || (decide (a = c) && decide (b < d))) := rfl
  rw [h]
  unfold cmpP
  by_cases h0 : cmpI a c = 0
  · rw [if_neg (by simpa using h0)]
    have := (cmpI_zero a c).1 h0
    subst this
    rw [cmpI_lt]
    simp
  · rw [if_pos h0, cmpI_lt]
    have := mt (cmpI_zero a c).2 h0
    simp [this]
set_option maxRecDepth 100000 in
set_option maxHeartbeats 1000000 in
theorem comparePair_any (b b' : Nat) (u0 u1 v0 v1 : Int) (cap cap' : Nat) (w : World) (c0 : w.cell? ⟨b, 0, none⟩ = some (.int .i64 u0)) (c1 : w.cell? ⟨b, 1, none⟩ = some (.int .i64 u1)) (d0 : w.cell? ⟨b', 0, none⟩ = some (.int .i64 v0)) (d1 : w.cell? ⟨b', 1, none⟩ = some (.int .i64 v1)) :
    Calls Try.prog 67 #[.slice (some ⟨b, 0, none⟩) 2 cap, .slice (some ⟨b', 0, none⟩) 2 cap'] w fun e w' => e = .returned (.int .i64 (cmpP u0 u1 v0 v1)) ∧ w = w' := by
  have C0 := Lib.hid (fun w => cmpI_any u0 v0 w)
  have C1 := Lib.hid (fun w => cmpI_any u1 v1 w)
  obtain ⟨r, hr⟩ : ∃ r, r = cmpP u0 u1 v0 v1 := ⟨_, rfl⟩
  have R0 : Hid (cmpI u0 v0 ≠ 0 → r = cmpI u0 v0) := Lib.hid (fun h => by rw [hr]; unfold cmpP; rw [if_pos h])
  have R1 : Hid (cmpI u0 v0 = 0 → r = cmpI u1 v1) := Lib.hid (fun h => by rw [hr]; unfold cmpP; rw [if_neg (by simpa using h)])
  rw [← hr]
  clear hr
  generalize cmpI u0 v0 = q0 at *
  generalize cmpI u1 v1 = q1 at *
  go_enter Try.func67, Try.ntmps67
  go_wp2_with fail
  go_loop [11] (fun t => ∃ j : Nat, t = .int .i64 (j : Int) ∧ j ≤ 2 ∧ (0 < j → q0 = 0) ∧ (1 < j → q1 = 0)) (fun t => 2 - (intOf t).toNat)
  case atStart => exact ⟨0, rfl, by omega, fun h => by omega, fun h => by omega⟩
  case round =>
    obtain ⟨j, rfl, hj, hq0, hq1⟩ := hrel
    rcases (by omega : j = 0 ∨ j = 1 ∨ j = 2) with rfl | rfl | rfl
    · go_wp2_with fail
      refine (C0.out _).mono ?_
      rintro e w' ⟨rfl, rfl⟩
      by_cases hz : q0 = 0
      · have z1 : (q0 != 0) = false := by simpa using hz
        have z2 : (q0 == 0) = true := by simpa using hz
        go_wp2_with fail
        go_round
        case rel => exact ⟨1, by go_num, by omega, fun _ => hz, fun h => by omega⟩
        case measure => simp [intOf]
      · have z1 : (q0 != 0) = true := by simpa using hz
        have z2 : (q0 == 0) = false := by simpa using hz
        have hr := R0.out hz
        go_wp2_with fail
        go_ret
        exact ⟨ret_int hr.symm, rfl⟩
    · go_wp2_with fail
      refine (C1.out _).mono ?_
      rintro e w' ⟨rfl, rfl⟩
      by_cases hz : q1 = 0
      · have z1 : (q1 != 0) = false := by simpa using hz
        have z2 : (q1 == 0) = true := by simpa using hz
        go_wp2_with fail
        go_round
        case rel => exact ⟨2, by go_num, by omega, fun _ => hq0 (by omega), fun _ => hz⟩
        case measure => simp [intOf]
      · have z1 : (q1 != 0) = true := by simpa using hz
        have z2 : (q1 == 0) = false := by simpa using hz
        have hr := R1.out (hq0 (by omega))
        go_wp2_with fail
        go_ret
        exact ⟨ret_int hr.symm, rfl⟩
    · have hr := R1.out (hq0 (by omega))
      have hz := hq1 (by omega)
      go_wp2_with fail
      go_ret
      exact ⟨ret_int (by first | omega | rw [hr, hz]), rfl⟩

theorem bel_dF {B : Nat} {a w : World} (h : Below B a w) (n : Nat) : Below B a (w.drewN n) := ⟨h.os, h.tape, h.output, h.size, h.block⟩
theorem quiet_bel {P : Program} {f : FuncId} {args : Array Value} {w : World} {v : Value}
    (h : Calls P f args w fun e w' => e = .returned v ∧ ∃ q, w' = w.drewN q) : Calls P f args w fun e w' => e = .returned v ∧ Below w.heap.size w w' :=
  h.mono fun _ _ ⟨he, q, hq⟩ => ⟨he, by rw [hq]; exact bel_dF (Below.refl _ w) q⟩
set_option maxRecDepth 100000 in
set_option maxHeartbeats 2000000 in
theorem incrL_any (n : Int) (h0 : 0 ≤ n) (h1 : n ≤ 1048577) (g cap p : Nat) (ls : List (List Int)) (bs : Nat → Nat) (w : World) (hb : ls.length ≤ 1048577) (hls : ∀ j, (h : j < ls.length) → ls[j].length ≤ 1048577) (hr : LRow w g ls bs) (hp : w.cell? ⟨p, 0, none⟩ = some (.int .i64 n)) :
    Calls Try.prog 66 #[.slice (some ⟨g, 0, none⟩) ls.length cap, .int .i64 16, .func (.func 64) #[] #[.pointer (some ⟨p, 0, none⟩)], .func (.func 67) #[] #[]] w fun e w' => e = .returned (.bool (linesB n ls)) ∧ Below w.heap.size w w' := by
  have H1 := Lib.hid hr
  have HLS := Lib.hid hls
  have hpl := World.block_lt_of_cell? w ⟨p, 0, none⟩ hp
  have HP := Lib.hid hp
  have KN := Lib.hid (okF_next n ls)
  have KS := Lib.hid (okF_stop n ls)
  have KE : Hid (linesB n ls = (okF n ls ls.length && decide (ls.length ≤ 16))) := Lib.hid rfl
  generalize linesB n ls = r at *
  clear hr hls hp
  by_cases hmo : 16 < ls.length
  · have hr : r = false := by rw [KE.out, show decide (ls.length ≤ 16) = false by simpa using hmo, Bool.and_false]
    subst hr
    have hmo' : (16 : Int) < (ls.length : Int) := by omega
    go_enter Try.func66, Try.ntmps66
    go_wp2_with fail
    go_ret
    exact ⟨rfl, Below.refl _ _⟩
  · have hmo' : ¬ (16 : Int) < (ls.length : Int) := by omega
    have hE : r = okF n ls ls.length := by rw [KE.out, show decide (ls.length ≤ 16) = true by simpa using Nat.not_lt.1 hmo, Bool.and_true]
    have HE := Lib.hid hE
    clear hE KE
    go_enter Try.func66, Try.ntmps66
    go_wp2_with fail
    go_loopg [17] (ls.length + 1) (fun kx s17 wr => ∃ j : Nat, s17 = .int .i64 (j : Int) ∧ j ≤ ls.length ∧ kx = ls.length + 1 - j ∧ Hid (okF n ls j = true) ∧ Hid (Below w.heap.size w wr))
    case atStart => exact ⟨0, rfl, Nat.zero_le _, rfl, Lib.hid rfl, Lib.hid (Below.refl _ _)⟩
    case round =>
      obtain ⟨j, rfl, hj, rfl, HO, HB⟩ := hrel
      by_cases hlt : j < ls.length
      · have hR := H1.out.below HB.out
        obtain ⟨c0, hx⟩ := hR.at j hlt
        have hp1 := (HB.out.cell (p := ⟨p, 0, none⟩) hpl).trans HP.out
        have IL := Lib.hid (isLine_any n h0 h1 (bs j) p ls[j] (HLS.out j hlt) wr hx hp1)
        have HS := Lib.hid (KS.out j hlt)
        have HN := Lib.hid (KN.out j)
        have GD := getL_at ls j hlt
        have j0 : (0 : Int) ≤ (j : Int) := by omega
        have j1 : (j : Int) < (ls.length : Int) := by omega
        cases hg : lineB n ls[j] with
        | false =>
          have hst : stepL n ls j = false := by unfold stepL; rw [GD, hg]; rfl
          have hr : r = false := HS.out hst
          rw [hg] at IL
          subst hr
          clear hg hst GD hR HS HN KS KN hx hp1
          generalize ls[j].length = m at *
          go_wp2_with fail
          refine IL.out.mono ?_
          rintro e w1 ⟨rfl, q, rfl⟩
          go_wp2_with fail
          go_ret
          exact ⟨rfl, bel_dF HB.out q⟩
        | true =>
          obtain ⟨a, c, hac⟩ := lineB_two hg
          rw [hg] at IL
          by_cases hz : j = 0
          · subst hz
            have hst : okF n ls (0 + 1) = true := by rw [HN.out, stepL_zero, GD, hg]; rfl
            have HT := Lib.hid hst
            clear hg hst GD hR HS HN KS KN hx hp1 hac
            generalize ls[0].length = m at *
            go_wp2_with fail
            refine IL.out.mono ?_
            rintro e w1 ⟨rfl, q, rfl⟩
            go_wp2_with fail
            go_roundg (ls.length + 1 - (0 + 1))
            case measure => omega
            case rel => exact ⟨0 + 1, by go_num, by omega, by omega, HT, Lib.hid (bel_dF HB.out q)⟩
          · obtain ⟨k, hk⟩ : ∃ k, j = k + 1 := ⟨j - 1, by omega⟩
            have hkl : k < ls.length := by omega
            obtain ⟨d0, hy⟩ := hR.at k hkl
            obtain ⟨a', c', hac'⟩ := lineB_two (by have h := okF_line n ls j k HO.out (by omega); rw [getL_at ls k hkl] at h; exact h)
            have hst : stepL n ls j = lessP [a', c'] [a, c] := by rw [stepL_pos n ls j k hk, GD, getL_at ls k hkl, hg, Bool.true_and, hac, hac']
            have ek : (j : Int) - 1 = (k : Int) := by omega
            have k0 : (0 : Int) ≤ (k : Int) := by omega
            have k1 : (k : Int) < (ls.length : Int) := by omega
            have kg : 0 < j := by omega
            have kd : decide (0 < j) = true := by simpa using kg
            have kg' : (0 : Int) < (j : Int) := by omega
            have wk : IntKind.i64.wrap (k : Int) = (k : Int) := IntWalk.i64_in _ (by omega)
            rw [hst] at HS HN
            rw [hac] at c0 hx IL
            rw [hac'] at d0 hy
            have x0 := hx.at 0 (by simp)
            have x1 := hx.at 1 (by simp)
            have y0 := hy.at 0 (by simp)
            have y1 := hy.at 1 (by simp)
            simp only [List.length_cons, List.length_nil, List.getElem_cons_zero, List.getElem_cons_succ, Nat.zero_add, Nat.reduceAdd] at c0 d0 IL x0 x1 y0 y1
            have CP := Lib.hid (fun q => comparePair_any (bs k) (bs j) a' c' a c 2 2 (wr.drewN q) y0 y1 x0 x1)
            have hlt0 := cmpP_lt a' c' a c
            generalize cmpP a' c' a c = q at *
            generalize lessP [a', c'] [a, c] = lt at *
            clear hz hR GD hg hst hk hx hy hac hac' hp1 x0 x1 y0 y1
            cases lt with
            | true =>
              have hn : ¬ (0 : Int) ≤ q := by have := hlt0.2 rfl; omega
              have hn' : decide ((0 : Int) ≤ q) = false := by simpa using hn
              have HT : Hid (okF n ls (j + 1) = true) := Lib.hid (by rw [HN.out, HO.out]; rfl)
              clear hlt0 HS HN KS KN
              go_wp2_with fail
              refine IL.out.mono ?_
              rintro e w1 ⟨rfl, q1, rfl⟩
              go_wp2_with fail
              refine (CP.out _).mono ?_
              rintro e w2 ⟨rfl, rfl⟩
              go_wp2_with fail
              go_roundg (ls.length + 1 - (j + 1))
              case measure => omega
              case rel => exact ⟨j + 1, by go_num, by omega, by omega, HT, Lib.hid (bel_dF HB.out q1)⟩
            | false =>
              have hn : (0 : Int) ≤ q := by
                rcases (show q < 0 ∨ 0 ≤ q by omega) with h | h
                · have := hlt0.1 h; cases this
                · exact h
              have hn' : decide ((0 : Int) ≤ q) = true := by simpa using hn
              have hr : r = false := HS.out rfl
              subst hr
              clear hlt0 HS HN KS KN
              go_wp2_with fail
              refine IL.out.mono ?_
              rintro e w1 ⟨rfl, q1, rfl⟩
              go_wp2_with fail
              refine (CP.out _).mono ?_
              rintro e w2 ⟨rfl, rfl⟩
              go_wp2_with fail
              go_ret
              exact ⟨rfl, bel_dF HB.out q1⟩
      · obtain rfl : j = ls.length := by omega
        go_wp2_with fail
        go_ret
        refine ⟨ret_bool ?_, HB.out⟩
        rw [HE.out, HO.out]

def figB (n : Int) (s : ByteArray) (ls : List (List Int)) : Bool := nameB s.data.toList && linesB n ls
set_option maxRecDepth 100000 in
set_option maxHeartbeats 1000000 in
theorem isValidFor_any (s : ByteArray) (hs : s.size ≤ maxLen) (n : Int) (h0 : 0 ≤ n) (h1 : n ≤ 1048577) (g cap : Nat) (ls : List (List Int)) (bs : Nat → Nat) (w : World) (hb : ls.length ≤ 1048577) (hls : ∀ j, (h : j < ls.length) → ls[j].length ≤ 1048577) (hr : LRow w g ls bs) :
    Calls Try.prog 38 #[.agg #[.string s, .slice (some ⟨g, 0, none⟩) ls.length cap], .int .i64 n] w fun e w' => e = .returned (.bool (figB n s ls)) ∧ Below w.heap.size w w' := by
  have I1 := Lib.hid (fun w => implName_any s w (by unfold maxLen at hs; omega))
  have I2 := Lib.hid (fun (W : World) (hB : Below w.heap.size w W) (p : Nat) hp => incrL_any n h0 h1 g cap p ls bs W hb hls (hr.below hB) hp)
  unfold figB
  clear hr hls
  generalize nameB s.data.toList = p1 at *
  generalize linesB n ls = p2 at *
  cases p1 with
  | false =>
    rw [Bool.false_and]
    go_enter Try.func38, Try.ntmps38
    go_wp2_with fail
    refine (I1.out _).mono ?_
    rintro e w1 ⟨rfl, hb1⟩
    have HB1 : Hid (Below w.heap.size w w1) := Lib.hid (by
      refine Below.trans ?_ (hb1.mono ?_)
      · repeat (first | exact Below.refl _ _ | refine Below.setCell ?_ (by first | (simp; done) | omega | (simp; omega)) _ | refine Below.alloc ?_ (by first | (simp; done) | omega | (simp; omega)) _ | refine bel_drew ?_)
      · simp; omega)
    clear hb1
    go_wp2_with fail
    go_ret
    exact ⟨rfl, HB1.out⟩
  | true =>
    rw [Bool.true_and]
    go_enter Try.func38, Try.ntmps38
    go_wp2_with fail
    refine (I1.out _).mono ?_
    rintro e w1 ⟨rfl, hb1⟩
    have HB1 : Hid (Below w.heap.size w w1) := Lib.hid (by
      refine Below.trans ?_ (hb1.mono ?_)
      · repeat (first | exact Below.refl _ _ | refine Below.setCell ?_ (by first | (simp; done) | omega | (simp; omega)) _ | refine Below.alloc ?_ (by first | (simp; done) | omega | (simp; omega)) _ | refine bel_drew ?_)
      · simp; omega)
    have q0 : w1.cell? ⟨w.heap.size, 1, none⟩ = some (.slice (some ⟨g, 0, none⟩) ls.length cap) := (hb1.cell (p := ⟨w.heap.size, 1, none⟩) (by simp; omega)).trans (by first | (simp; done) | (rw [World.cell?_alloc_lt _ _ _ (by first | (simp; done) | (simp; omega))]; simp))
    have q1 : w1.cell? ⟨w.heap.size + 1, 0, none⟩ = some (.int .i64 n) := (hb1.cell (p := ⟨w.heap.size + 1, 0, none⟩) (by simp)).trans (by first | (simp; done) | (rw [World.cell?_alloc_at _ _ _ _ (by simp)]; rfl))
    clear hb1
    go_wp2_with fail
    refine (I2.out _ HB1.out (w.heap.size + 1) q1).mono ?_
    rintro e w2 ⟨rfl, hb2⟩
    have HB2 := Lib.hid (HB1.out.trans (hb2.mono HB1.out.size))
    clear hb2
    go_wp2_with fail
    go_ret
    exact ⟨rfl, HB2.out⟩
end Go.Proofs.Ytoellkbmhpekdaa
