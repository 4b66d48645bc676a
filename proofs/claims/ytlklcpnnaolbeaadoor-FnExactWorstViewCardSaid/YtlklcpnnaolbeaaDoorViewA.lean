/-
  Separations: the contracts of Separation (package impl), l04Away, Separation (package spec).
  Separations in package spec: the contracts of l04Away, Separation.
  The angle between two directions: what both packages reckon.
  The distance between two directions: the contract of distanceOf at two directions (package impl).
  A vector times a number: the contract of times (package impl).
  Points of a dome: the contracts of checkUp, times, point, DomePoint (package impl), l09Point, DomePoint (package spec).
  Arcs on a dome: the contracts of distanceOf at two directions, ArcOnDome (package impl), l09Apart, ArcOnDome (package spec).
  What a seat sees of a dome: the contracts of isInside, minus (package impl), l09Seat, l09View, ViewFrom (package spec).
  WorstView (package spec): the greatest error of what a seat sees.
  All directions that are up whose angles are multiples of a step, as a list: altitude by altitude.
  directionsUp (package impl): all directions that are up, by a step.
  What a seat sees of a dome (package impl): the contracts of wayTo and ViewFrom.
  The worst view from a seat (package impl): WorstView.
-/
import Derived.Test.YtlklcpnnaolbeaaDoorArct
import Derived.Test.YtlklcpnnaolbeaaDoorSArc
import Derived.Test.YtlklcpnnaolbeaaDoorVecS
import Derived.Test.YtlklcpnnaolbeaaDoorAng
import Derived.Deep.RegionHeld3
import Derived.Test.YtlklcpnnaolbeaaDoorHorM
import Derived.Test.YtlklcpnnaolbeaaDoorTow
import Derived.Handy
import Derived.Test.YtlklcpnnaolbeaaDoorCore
import Derived.Test.YtlklcpnnaolbeaaDoorVec0
import Derived.IntWalk
import Derived.Test.YtlklcpnnaolbeaaDoorDome5
import Derived.StillTailTactics
import Derived.Deep.AppendLies
import Derived.Deep.LoopGhost
import Derived.RegionTactic
import Derived.WideMake
namespace Go.Proofs.YtlklcpnnaolbeaaDoor
section
open Go.RowKit
set_option linter.unusedVariables false

theorem dotI_bd (x y z x' y' z' : Int) (h : inV 2000000 x y z) (h' : inV 2000000 x' y' z') : -100000000 ≤ dotI x y z x' y' z' ∧ dotI x y z x' y' z' ≤ 100000000 := by
  obtain ⟨⟨a0, a1⟩, ⟨b0, b1⟩, c0, c1⟩ := prods_bd _ _ x y z x' y' z' h h'
  unfold dotI
  by_cases c : x * x' + y * y' + z * z' < 0
  · rw [nearQ_np _ _ c (by omega)]; omega
  · rw [nearQ_pp _ _ (by omega) (by omega)]; omega
def crL (x y z x' y' z' : Int) : Int := len3 (crI y z' z y') (crI z x' x z') (crI x y' y x')
theorem crL_bd (x y z x' y' z' : Int) (h : inV 2000000 x y z) (h' : inV 2000000 x' y' z') : 0 ≤ crL x y z x' y' z' ∧ crL x y z x' y' z' ≤ 100000000 := by
  obtain ⟨⟨a, b⟩, ⟨c, d⟩, e, f⟩ := cross_in x y z x' y' z' h h'
  have := len3_bd (crI y z' z y') (crI z x' x z') (crI x y' y x') 8000000 (by omega) a b c d e f
  unfold crL
  omega
/-- What Separation answers. -/
def sepV (x y z x' y' z' : Int) : Value := if okV x y z = true then (if okV x' y' z' = true then atanV (crL x y z x' y' z') (dotI x y z x' y' z') else .tuple #[.int .i64 0, .int .i64 1]) else .tuple #[.int .i64 0, .int .i64 1]
theorem sepV_form (x y z x' y' z' : Int) : ∃ a b : Int, sepV x y z x' y' z' = .tuple #[.int .i64 a, .int .i64 b] := by
  unfold sepV
  split
  · split
    · exact atanV_form _ _
    · exact ⟨_, _, rfl⟩
  · exact ⟨_, _, rfl⟩
theorem keepS {w W W' : World} {x y z x' y' z' : Int} (h : W.cell? ⟨w.heap.size, 0, none⟩ = some (.int .i64 x) ∧ W.cell? ⟨w.heap.size, 1, none⟩ = some (.int .i64 y) ∧ W.cell? ⟨w.heap.size, 2, none⟩ = some (.int .i64 z) ∧ W.cell? ⟨w.heap.size + 1, 0, none⟩ = some (.int .i64 x') ∧ W.cell? ⟨w.heap.size + 1, 1, none⟩ = some (.int .i64 y') ∧ W.cell? ⟨w.heap.size + 1, 2, none⟩ = some (.int .i64 z') ∧ Below w.heap.size w W) (hb : Below W.heap.size W W') :
    W'.cell? ⟨w.heap.size, 0, none⟩ = some (.int .i64 x) ∧ W'.cell? ⟨w.heap.size, 1, none⟩ = some (.int .i64 y) ∧ W'.cell? ⟨w.heap.size, 2, none⟩ = some (.int .i64 z) ∧ W'.cell? ⟨w.heap.size + 1, 0, none⟩ = some (.int .i64 x') ∧ W'.cell? ⟨w.heap.size + 1, 1, none⟩ = some (.int .i64 y') ∧ W'.cell? ⟨w.heap.size + 1, 2, none⟩ = some (.int .i64 z') ∧ Below w.heap.size w W' := by
  obtain ⟨h0, h1, h2, h3, h4, h5, h6⟩ := h
  have hg := World.block_lt_of_cell? W ⟨w.heap.size, 0, none⟩ h0
  have hg' := World.block_lt_of_cell? W ⟨w.heap.size + 1, 0, none⟩ h3
  obtain ⟨k1, _⟩ := bcell hb
  exact ⟨(k1 _ _ hg).trans h0, (k1 _ _ hg).trans h1, (k1 _ _ hg).trans h2, (k1 _ _ hg').trans h3, (k1 _ _ hg').trans h4, (k1 _ _ hg').trans h5, h6.trans (hb.mono h6.size)⟩

set_option maxHeartbeats 1000000 in
theorem implSep_any (x y z x' y' z' : Int) (w : World) (hs : SinesOK w) :
    Calls Tryd.prog 64 #[.agg #[.int .i64 x, .int .i64 y, .int .i64 z], .agg #[.int .i64 x', .int .i64 y', .int .i64 z']] w fun e w' => e = .returned (sepV x y z x' y' z') ∧ Below w.heap.size w w' := by
  have I := Lib.hid (fun w => validV_any x y z w)
  have J := Lib.hid (fun w => validV_any x' y' z' w)
  unfold sepV
  cases ho : okV x y z with
  | false =>
    rw [if_neg (by simp)]
    rw [ho] at I
    clear ho hs
    go_enter Tryd.func64, Tryd.ntmps64
    go_wp2_with fail
    refine (I.out _).mono ?_
    rintro e w1 ⟨rfl, hb⟩
    have hsw1 := hb.size
    try simp at hsw1
    obtain ⟨hcw1, hfw1⟩ := bcell hb
    have HBw1 : Hid (Below w.heap.size w w1) := by
      apply Lib.hid
      refine Below.trans ?_ (hb.mono ?_)
      · repeat (first | exact Below.refl _ _ | refine Below.setCell ?_ (by first | (simp; done) | omega | (simp; omega)) _ | refine Below.alloc ?_ (by first | (simp; done) | omega | (simp; omega)) _)
      · first | (simp; done) | omega | (simp; omega)
    have hzw1 : w.heap.size + 1 < w1.heap.size := by have := hb.size; (try simp at this); omega
    have hyw1 : w.heap.size < w1.heap.size := by have := hb.size; (try simp at this); omega
    clear hb
    go_wp2_with fail
    go_ret2
    refine ⟨rfl, ?_⟩
    repeat (first | exact Below.refl _ _ | exact HBw1.out | refine Below.setCell ?_ (by first | (simp; done) | omega | (simp; omega)) _ | refine Below.alloc ?_ (by first | (simp; done) | omega | (simp; omega)) _ | refine bel_drew ?_)
  | true =>
    rw [if_pos rfl]
    rw [ho] at I
    cases ho' : okV x' y' z' with
    | false =>
      rw [if_neg (by simp)]
      rw [ho'] at J
      clear ho ho' hs
      go_enter Tryd.func64, Tryd.ntmps64
      go_wp2_with fail
      refine (I.out _).mono ?_
      rintro e w1 ⟨rfl, hb⟩
      have hsw1 := hb.size
      try simp at hsw1
      obtain ⟨hcw1, hfw1⟩ := bcell hb
      have HBw1 : Hid (Below w.heap.size w w1) := by
        apply Lib.hid
        refine Below.trans ?_ (hb.mono ?_)
        · repeat (first | exact Below.refl _ _ | refine Below.setCell ?_ (by first | (simp; done) | omega | (simp; omega)) _ | refine Below.alloc ?_ (by first | (simp; done) | omega | (simp; omega)) _)
        · first | (simp; done) | omega | (simp; omega)
      have hzw1 : w.heap.size + 1 < w1.heap.size := by have := hb.size; (try simp at this); omega
      have hyw1 : w.heap.size < w1.heap.size := by have := hb.size; (try simp at this); omega
      clear hb
      go_wp2_with fail
      refine (J.out _).mono ?_
      rintro e w2 ⟨rfl, hb⟩
      have hsw2 := hb.size
      try simp at hsw2
      obtain ⟨hcw2, hfw2⟩ := bcell hb
      have HBw2 : Hid (Below w.heap.size w w2) := by
        apply Lib.hid
        refine Below.trans ?_ (hb.mono ?_)
        · repeat (first | exact Below.refl _ _ | exact HBw1.out | refine Below.setCell ?_ (by first | (simp; done) | omega | (simp; omega)) _ | refine Below.alloc ?_ (by first | (simp; done) | omega | (simp; omega)) _)
        · first | (simp; done) | omega | (simp; omega)
      have hzw2 : w.heap.size + 1 < w2.heap.size := by have := hb.size; (try simp at this); omega
      have hyw2 : w.heap.size < w2.heap.size := by have := hb.size; (try simp at this); omega
      clear hb
      first | (have gsw2w1 : w1.heap.size < w2.heap.size := by omega) | skip
      go_wp2_with fail
      go_ret2
      refine ⟨rfl, ?_⟩
      repeat (first | exact Below.refl _ _ | exact HBw2.out | refine Below.setCell ?_ (by first | (simp; done) | omega | (simp; omega)) _ | refine Below.alloc ?_ (by first | (simp; done) | omega | (simp; omega)) _ | refine bel_drew ?_)
    | true =>
      rw [if_pos rfl]
      rw [ho'] at J
      have hv := inV_ok _ _ _ ho
      have hv' := inV_ok _ _ _ ho'
      have E := Lib.hid hs
      have C := Lib.hid (fun w => cross_any x y z x' y' z' hv hv' w)
      have L := Lib.hid (fun w => length_any (crI y z' z y') (crI z x' x z') (crI x y' y x') (inV_up (cross_in x y z x' y' z' hv hv') (by omega)) w)
      have D := Lib.hid (fun w => dot_any x y z x' y' z' hv hv' w)
      have T := Lib.hid (fun w hs => implATan_any (crL x y z x' y' z') (dotI x y z x' y' z') w hs)
      obtain ⟨r, s, hz⟩ := atanV_form (crL x y z x' y' z') (dotI x y z x' y' z')
      rw [hz] at T ⊢
      clear ho ho' hs hv hv' hz
      unfold crL at T
      generalize len3 (crI y z' z y') (crI z x' x z') (crI x y' y x') = l at *
      generalize dotI x y z x' y' z' = d at *
      generalize crI y z' z y' = p at *
      generalize crI z x' x z' = q at *
      generalize crI x y' y x' = t at *
      obtain ⟨W0, hW0⟩ : ∃ W0, W0 = (w.alloc (.cells #[.int .i64 x, .int .i64 y, .int .i64 z] 31)).alloc (.cells #[.int .i64 x', .int .i64 y', .int .i64 z'] 31) := ⟨_, rfl⟩
      have S0 : Hid (W0.cell? ⟨w.heap.size, 0, none⟩ = some (.int .i64 x) ∧ W0.cell? ⟨w.heap.size, 1, none⟩ = some (.int .i64 y) ∧ W0.cell? ⟨w.heap.size, 2, none⟩ = some (.int .i64 z) ∧ W0.cell? ⟨w.heap.size + 1, 0, none⟩ = some (.int .i64 x') ∧ W0.cell? ⟨w.heap.size + 1, 1, none⟩ = some (.int .i64 y') ∧ W0.cell? ⟨w.heap.size + 1, 2, none⟩ = some (.int .i64 z') ∧ Below w.heap.size w W0) := Lib.hid (by
        have A0 : C3 W0 w.heap.size x y z := by rw [hW0]; exact (C3.new _ _ _ _ _).alloc (by simp) _
        have A1 : C3 W0 (w.heap.size + 1) x' y' z' := by rw [hW0]; simpa using C3.new (w.alloc (.cells #[.int .i64 x, .int .i64 y, .int .i64 z] 31)) 31 x' y' z'
        exact ⟨A0.c0, A0.c1, A0.c2, A1.c0, A1.c1, A1.c2, by rw [hW0]; exact ((Below.refl _ _).alloc (Nat.le_refl _) _).alloc (by simp) _⟩)
      have HW := Lib.hid hW0
      clear hW0
      obtain ⟨k0, k1, k2, k3, k4, k5, _⟩ := S0.out
      go_enter Tryd.func64, Tryd.ntmps64
      go_wp2_with fail
      rw [← HW.out]
      clear HW
      refine (I.out _).mono ?_
      rintro e w1 ⟨rfl, hb⟩
      have S1 := Lib.hid (keepS S0.out hb)
      clear hb S0 k0 k1 k2 k3 k4 k5
      obtain ⟨k0, k1, k2, k3, k4, k5, _⟩ := S1.out
      go_wp2_with fail
      refine (J.out _).mono ?_
      rintro e w2 ⟨rfl, hb⟩
      have S2 := Lib.hid (keepS S1.out hb)
      clear hb S1 k0 k1 k2 k3 k4 k5
      obtain ⟨k0, k1, k2, k3, k4, k5, k6⟩ := S2.out
      have ED := Lib.hid (E.out.below (bel_drew k6))
      clear k6
      go_wp2_with fail
      go_region_held3 (fun w' => w'.cell? ⟨w.heap.size, 0, none⟩ = some (.int .i64 x) ∧ w'.cell? ⟨w.heap.size, 1, none⟩ = some (.int .i64 y) ∧ w'.cell? ⟨w.heap.size, 2, none⟩ = some (.int .i64 z) ∧ w'.cell? ⟨w.heap.size + 1, 0, none⟩ = some (.int .i64 x') ∧ w'.cell? ⟨w.heap.size + 1, 1, none⟩ = some (.int .i64 y') ∧ w'.cell? ⟨w.heap.size + 1, 2, none⟩ = some (.int .i64 z') ∧ Below w.heap.size w w') (first | (exact keepS S2.out (bel_drew (Below.refl _ _))) | (exact keepS S2.out y4) | (exact keepS S2.out y3) | (exact keepS S2.out y2) | (exact keepS S2.out y1) | go_keep) ((first
        | (go_at_call 98; refine (C.out _).mono ?_; rintro e x1 ⟨rfl, hx1⟩; have y1 := undrewV hx1)
        | (go_at_call 27; refine (L.out _).mono ?_; rintro e x2 ⟨rfl, hx2⟩; have y2 := y1.trans (hx2.mono y1.size))
        | (go_at_call 99; refine (D.out _).mono ?_; rintro e x3 ⟨rfl, hx3⟩; have y3 := y2.trans (hx3.mono y2.size))
        | (go_at_call 97; refine (T.out _ (E.out.below (keepS S2.out y3).2.2.2.2.2.2)).mono ?_; rintro e x4 ⟨rfl, hx4⟩; have y4 := y3.trans (hx4.mono y3.size))))
      rename_i held
      have HB := Lib.hid held.2.2.2.2.2.2
      clear held
      go_wp2_with fail
      go_ret2
      exact ⟨rfl, HB.out⟩
theorem fin_Sep : True := trivial
end

section
open Go.RowKit
set_option linter.unusedVariables false

theorem cross_zero (x y z x' y' z' : Int) (h : (x = 0 ∧ y = 0 ∧ z = 0) ∨ (x' = 0 ∧ y' = 0 ∧ z' = 0)) : crL x y z x' y' z' = 0 ∧ dotI x y z x' y' z' = 0 := by
  have e : nearQ 0 1000000 = 0 := nearQ_0 _
  unfold crL dotI crI
  rcases h with ⟨rfl, rfl, rfl⟩ | ⟨rfl, rfl, rfl⟩
  · simp only [Int.zero_mul, Int.mul_zero, Int.sub_zero, Int.add_zero, e]
    exact ⟨rfl, trivial⟩
  · simp only [Int.zero_mul, Int.mul_zero, Int.sub_zero, Int.add_zero, e]
    exact ⟨rfl, trivial⟩
def awayV (c d : Int) : Value := if c = 0 ∧ d = 0 then .tuple #[.int .i64 0, .bool false] else .tuple #[.int .i64 (dirI c d), .bool true]
theorem away_zero : awayV 0 0 = .tuple #[.int .i64 0, .bool false] := by unfold awayV; rw [if_pos ⟨rfl, rfl⟩]

set_option maxHeartbeats 2000000 in
theorem l04Away_any (x y z x' y' z' : Int) (hv : inV 2000000 x y z) (hv' : inV 2000000 x' y' z') (w : World) :
    Calls Tryd.prog 67 #[.agg #[.int .i64 x, .int .i64 y, .int .i64 z], .agg #[.int .i64 x', .int .i64 y', .int .i64 z']] w fun e w' => e = .returned (awayV (crL x y z x' y' z') (dotI x y z x' y' z')) ∧ Below w.heap.size w w' := by
  have C := Lib.hid (fun w => l04Cross_any x y z x' y' z' hv hv' w)
  have L := Lib.hid (fun w => l04Length_any (crI y z' z y') (crI z x' x z') (crI x y' y x') (inV_up (cross_in x y z x' y' z' hv hv') (by omega)) w)
  have D := Lib.hid (fun w => l04Dot_any x y z x' y' z' hv hv' w)
  have cb := crL_bd x y z x' y' z' hv hv'
  have db := dotI_bd x y z x' y' z' hv hv'
  have T := Lib.hid (fun w => l02Arc_any (crL x y z x' y' z') (dotI x y z x' y' z') (by omega) (by omega) (by omega) (by omega) w)
  have HZ := Lib.hid (cross_zero x y z x' y' z')
  have HC : crL x y z x' y' z' = len3 (crI y z' z y') (crI z x' x z') (crI x y' y x') := rfl
  rw [← HC] at L
  clear HC hv hv' cb db
  generalize crL x y z x' y' z' = c at *
  generalize dotI x y z x' y' z' = d at *
  generalize crI y z' z y' = p at *
  generalize crI z x' x z' = q at *
  generalize crI x y' y x' = t at *
  by_cases h0 : c = 0 ∧ d = 0
  · obtain ⟨rfl, rfl⟩ := h0
    rw [away_zero]
    clear T HZ
    go_enter Tryd.func67, Tryd.ntmps67
    go_wp2_with fail
    refine (C.out _).mono ?_
    rintro e w1 ⟨rfl, hb⟩
    have hsw1 := hb.size
    try simp at hsw1
    obtain ⟨hcw1, hfw1⟩ := bcell hb
    have HBw1 : Hid (Below w.heap.size w w1) := by
      apply Lib.hid
      refine Below.trans ?_ (hb.mono ?_)
      · repeat (first | exact Below.refl _ _ | refine Below.setCell ?_ (by first | (simp; done) | omega | (simp; omega)) _ | refine Below.alloc ?_ (by first | (simp; done) | omega | (simp; omega)) _)
      · first | (simp; done) | omega | (simp; omega)
    have hzw1 : w.heap.size + 1 < w1.heap.size := by have := hb.size; (try simp at this); omega
    have hyw1 : w.heap.size < w1.heap.size := by have := hb.size; (try simp at this); omega
    clear hb
    go_wp2_with fail
    refine (L.out _).mono ?_
    rintro e w2 ⟨rfl, hb⟩
    have hsw2 := hb.size
    try simp at hsw2
    obtain ⟨hcw2, hfw2⟩ := bcell hb
    have HBw2 : Hid (Below w.heap.size w w2) := by
      apply Lib.hid
      refine Below.trans ?_ (hb.mono ?_)
      · repeat (first | exact Below.refl _ _ | exact HBw1.out | refine Below.setCell ?_ (by first | (simp; done) | omega | (simp; omega)) _ | refine Below.alloc ?_ (by first | (simp; done) | omega | (simp; omega)) _)
      · first | (simp; done) | omega | (simp; omega)
    have hzw2 : w.heap.size + 1 < w2.heap.size := by have := hb.size; (try simp at this); omega
    have hyw2 : w.heap.size < w2.heap.size := by have := hb.size; (try simp at this); omega
    clear hb
    first | (have gsw2w1 : w1.heap.size < w2.heap.size := by omega) | skip
    go_wp2_with fail
    refine (D.out _).mono ?_
    rintro e w3 ⟨rfl, hb⟩
    have hsw3 := hb.size
    try simp at hsw3
    obtain ⟨hcw3, hfw3⟩ := bcell hb
    have HBw3 : Hid (Below w.heap.size w w3) := by
      apply Lib.hid
      refine Below.trans ?_ (hb.mono ?_)
      · repeat (first | exact Below.refl _ _ | exact HBw2.out | refine Below.setCell ?_ (by first | (simp; done) | omega | (simp; omega)) _ | refine Below.alloc ?_ (by first | (simp; done) | omega | (simp; omega)) _)
      · first | (simp; done) | omega | (simp; omega)
    have hzw3 : w.heap.size + 1 < w3.heap.size := by have := hb.size; (try simp at this); omega
    have hyw3 : w.heap.size < w3.heap.size := by have := hb.size; (try simp at this); omega
    clear hb
    first | (have gsw3w1 : w1.heap.size < w3.heap.size := by omega) | skip
    first | (have gsw3w2 : w2.heap.size < w3.heap.size := by omega) | skip
    go_wp2_with fail
    all_goals
      go_ret2
      refine ⟨rfl, ?_⟩
      repeat (first | exact Below.refl _ _ | exact HBw3.out | refine Below.setCell ?_ (by first | (simp; done) | omega | (simp; omega)) _ | refine Below.alloc ?_ (by first | (simp; done) | omega | (simp; omega)) _ | refine bel_drew ?_)
  · have HA : awayV c d = .tuple #[.int .i64 (dirI c d), .bool true] := by unfold awayV; rw [if_neg h0]
    rw [HA]
    clear HA
    have nx : ¬ (x = 0 ∧ y = 0 ∧ z = 0) := fun h => h0 (HZ.out (.inl h))
    have nx' : ¬ (x' = 0 ∧ y' = 0 ∧ z' = 0) := fun h => h0 (HZ.out (.inr h))
    have NX := Lib.hid nx
    have NX' := Lib.hid nx'
    clear HZ nx nx'
    by_cases cc : c = 0
    · subst cc
      have hd : (d == 0) = false := by simp; exact fun h => h0 ⟨rfl, h⟩
      clear h0
      generalize dirI 0 d = r at *
      go_enter Tryd.func67, Tryd.ntmps67
      go_wp2_with fail
      refine (C.out _).mono ?_
      rintro e w1 ⟨rfl, hb⟩
      have hsw1 := hb.size
      try simp at hsw1
      obtain ⟨hcw1, hfw1⟩ := bcell hb
      have HBw1 : Hid (Below w.heap.size w w1) := by
        apply Lib.hid
        refine Below.trans ?_ (hb.mono ?_)
        · repeat (first | exact Below.refl _ _ | refine Below.setCell ?_ (by first | (simp; done) | omega | (simp; omega)) _ | refine Below.alloc ?_ (by first | (simp; done) | omega | (simp; omega)) _)
        · first | (simp; done) | omega | (simp; omega)
      have hzw1 : w.heap.size + 1 < w1.heap.size := by have := hb.size; (try simp at this); omega
      have hyw1 : w.heap.size < w1.heap.size := by have := hb.size; (try simp at this); omega
      clear hb
      go_wp2_with fail
      refine (L.out _).mono ?_
      rintro e w2 ⟨rfl, hb⟩
      have hsw2 := hb.size
      try simp at hsw2
      obtain ⟨hcw2, hfw2⟩ := bcell hb
      have HBw2 : Hid (Below w.heap.size w w2) := by
        apply Lib.hid
        refine Below.trans ?_ (hb.mono ?_)
        · repeat (first | exact Below.refl _ _ | exact HBw1.out | refine Below.setCell ?_ (by first | (simp; done) | omega | (simp; omega)) _ | refine Below.alloc ?_ (by first | (simp; done) | omega | (simp; omega)) _)
        · first | (simp; done) | omega | (simp; omega)
      have hzw2 : w.heap.size + 1 < w2.heap.size := by have := hb.size; (try simp at this); omega
      have hyw2 : w.heap.size < w2.heap.size := by have := hb.size; (try simp at this); omega
      clear hb
      first | (have gsw2w1 : w1.heap.size < w2.heap.size := by omega) | skip
      go_wp2_with fail
      refine (D.out _).mono ?_
      rintro e w3 ⟨rfl, hb⟩
      have hsw3 := hb.size
      try simp at hsw3
      obtain ⟨hcw3, hfw3⟩ := bcell hb
      have HBw3 : Hid (Below w.heap.size w w3) := by
        apply Lib.hid
        refine Below.trans ?_ (hb.mono ?_)
        · repeat (first | exact Below.refl _ _ | exact HBw2.out | refine Below.setCell ?_ (by first | (simp; done) | omega | (simp; omega)) _ | refine Below.alloc ?_ (by first | (simp; done) | omega | (simp; omega)) _)
        · first | (simp; done) | omega | (simp; omega)
      have hzw3 : w.heap.size + 1 < w3.heap.size := by have := hb.size; (try simp at this); omega
      have hyw3 : w.heap.size < w3.heap.size := by have := hb.size; (try simp at this); omega
      clear hb
      first | (have gsw3w1 : w1.heap.size < w3.heap.size := by omega) | skip
      first | (have gsw3w2 : w2.heap.size < w3.heap.size := by omega) | skip
      go_wp2_with fail
      all_goals first
        | (exfalso; apply NX.out; exact ⟨by assumption, by assumption, by assumption⟩)
        | (exfalso; apply NX'.out; exact ⟨by assumption, by assumption, by assumption⟩)
        | (refine (T.out _).mono ?_
           rintro e w4 ⟨rfl, hb⟩
           have HB4 := Lib.hid (HBw3.out.trans (hb.mono HBw3.out.size))
           clear hb
           go_wp2_with fail
           go_ret2
           exact ⟨rfl, HB4.out⟩)
    · have hc : (c == 0) = false := by simpa using cc
      clear h0 cc
      generalize dirI c d = r at *
      go_enter Tryd.func67, Tryd.ntmps67
      go_wp2_with fail
      refine (C.out _).mono ?_
      rintro e w1 ⟨rfl, hb⟩
      have hsw1 := hb.size
      try simp at hsw1
      obtain ⟨hcw1, hfw1⟩ := bcell hb
      have HBw1 : Hid (Below w.heap.size w w1) := by
        apply Lib.hid
        refine Below.trans ?_ (hb.mono ?_)
        · repeat (first | exact Below.refl _ _ | refine Below.setCell ?_ (by first | (simp; done) | omega | (simp; omega)) _ | refine Below.alloc ?_ (by first | (simp; done) | omega | (simp; omega)) _)
        · first | (simp; done) | omega | (simp; omega)
      have hzw1 : w.heap.size + 1 < w1.heap.size := by have := hb.size; (try simp at this); omega
      have hyw1 : w.heap.size < w1.heap.size := by have := hb.size; (try simp at this); omega
      clear hb
      go_wp2_with fail
      refine (L.out _).mono ?_
      rintro e w2 ⟨rfl, hb⟩
      have hsw2 := hb.size
      try simp at hsw2
      obtain ⟨hcw2, hfw2⟩ := bcell hb
      have HBw2 : Hid (Below w.heap.size w w2) := by
        apply Lib.hid
        refine Below.trans ?_ (hb.mono ?_)
        · repeat (first | exact Below.refl _ _ | exact HBw1.out | refine Below.setCell ?_ (by first | (simp; done) | omega | (simp; omega)) _ | refine Below.alloc ?_ (by first | (simp; done) | omega | (simp; omega)) _)
        · first | (simp; done) | omega | (simp; omega)
      have hzw2 : w.heap.size + 1 < w2.heap.size := by have := hb.size; (try simp at this); omega
      have hyw2 : w.heap.size < w2.heap.size := by have := hb.size; (try simp at this); omega
      clear hb
      first | (have gsw2w1 : w1.heap.size < w2.heap.size := by omega) | skip
      go_wp2_with fail
      refine (D.out _).mono ?_
      rintro e w3 ⟨rfl, hb⟩
      have hsw3 := hb.size
      try simp at hsw3
      obtain ⟨hcw3, hfw3⟩ := bcell hb
      have HBw3 : Hid (Below w.heap.size w w3) := by
        apply Lib.hid
        refine Below.trans ?_ (hb.mono ?_)
        · repeat (first | exact Below.refl _ _ | exact HBw2.out | refine Below.setCell ?_ (by first | (simp; done) | omega | (simp; omega)) _ | refine Below.alloc ?_ (by first | (simp; done) | omega | (simp; omega)) _)
        · first | (simp; done) | omega | (simp; omega)
      have hzw3 : w.heap.size + 1 < w3.heap.size := by have := hb.size; (try simp at this); omega
      have hyw3 : w.heap.size < w3.heap.size := by have := hb.size; (try simp at this); omega
      clear hb
      first | (have gsw3w1 : w1.heap.size < w3.heap.size := by omega) | skip
      first | (have gsw3w2 : w2.heap.size < w3.heap.size := by omega) | skip
      go_wp2_with fail
      all_goals first
        | (exfalso; apply NX.out; exact ⟨by assumption, by assumption, by assumption⟩)
        | (exfalso; apply NX'.out; exact ⟨by assumption, by assumption, by assumption⟩)
        | (refine (T.out _).mono ?_
           rintro e w4 ⟨rfl, hb⟩
           have HB4 := Lib.hid (HBw3.out.trans (hb.mono HBw3.out.size))
           clear hb
           go_wp2_with fail
           go_ret2
           exact ⟨rfl, HB4.out⟩)

theorem atan_of (c d : Int) (hc : 0 ≤ c ∧ c ≤ 100000000) (hd : -100000000 ≤ d ∧ d ≤ 100000000) : atanV c d = if c = 0 ∧ d = 0 then .tuple #[.int .i64 0, .int .i64 6] else .tuple #[.int .i64 (dirI c d), .int .i64 0] := by
  unfold atanV
  rw [if_pos ((inR_two _ _ _ _).2 ⟨⟨by omega, by omega⟩, by omega, by omega⟩)]

theorem fin_SSep : True := trivial
end

section
open Go.RowKit
set_option linter.unusedVariables false

def sepX (x y z x' y' z' : Int) : Int := if crL x y z x' y' z' = 0 ∧ dotI x y z x' y' z' = 0 then 0 else dirI (crL x y z x' y' z') (dotI x y z x' y' z')
theorem sepX_bd (x y z x' y' z' : Int) : 0 ≤ sepX x y z x' y' z' ∧ sepX x y z x' y' z' < 360000 := by
  unfold sepX
  have := dirI_bd (crL x y z x' y' z') (dotI x y z x' y' z')
  split <;> omega
/-- The angle between two directions. -/
def sep9 (a h a' h' : Int) : Int := sepX (dX a h) (dY a h) (sinI h) (dX a' h') (dY a' h') (sinI h')
theorem sepX_impl (x y z x' y' z' : Int) (h : inV 2000000 x y z) (h' : inV 2000000 x' y' z') : ∃ d : Int, sepV x y z x' y' z' = .tuple #[.int .i64 (sepX x y z x' y' z'), .int .i64 d] := by
  unfold sepV sepX
  rw [(okV_bd _ _ _).2 h, (okV_bd _ _ _).2 h', if_pos rfl, if_pos rfl, atan_of _ _ (crL_bd _ _ _ _ _ _ h h') (dotI_bd _ _ _ _ _ _ h h')]
  split
  · exact ⟨_, rfl⟩
  · exact ⟨_, rfl⟩
theorem sepX_spec (x y z x' y' z' : Int) : ∃ t : Bool, awayV (crL x y z x' y' z') (dotI x y z x' y' z') = .tuple #[.int .i64 (sepX x y z x' y' z'), .bool t] := by
  unfold awayV sepX
  split
  · exact ⟨false, rfl⟩
  · exact ⟨true, rfl⟩
theorem fin_Sep9 : True := trivial
end

section
open Go.RowKit
set_option linter.unusedVariables false

theorem dirT_inS (lon d : Int) (d0 : -90000 ≤ d) (d1 : d ≤ 90000) : dirT lon d = (dX lon d, dY lon d, sinI d) := by
  unfold dirT
  rw [if_pos ((inR_1 _ _ _).2 ⟨d0, d1⟩)]
  rfl
def sightB (a b : Int) : Value := .iface 54 (.agg #[.int .i64 a, .int .i64 b])
set_option maxHeartbeats 1000000 in
theorem distDD_any (a h p q : Int) (fa : fits a) (fp : fits p) (h0 : -90000 ≤ h) (h1 : h ≤ 90000) (q0 : -90000 ≤ q) (q1 : q ≤ 90000) (w : World) (hs : SinesOK w) :
    Calls Tryd.prog 34 #[sightB a h, sightB p q] w fun r w' => r = .returned (.int .i64 (sep9 a h p q)) ∧ Below w.heap.size w w' := by
  unfold sep9
  obtain ⟨d, hd⟩ := sepX_impl (dX a h) (dY a h) (sinI h) (dX p q) (dY p q) (sinI q) (inV_2 (dir_in _ _)) (inV_2 (dir_in _ _))
  have S := Lib.hid (fun w hs => dirTow_any a h fa w hs)
  have T := Lib.hid (fun w hs => dirTow_any p q fp w hs)
  rw [dirT_inS _ _ h0 h1] at S
  rw [dirT_inS _ _ q0 q1] at T
  have F := Lib.hid (fun w hs => implSep_any (dX a h) (dY a h) (sinI h) (dX p q) (dY p q) (sinI q) w hs)
  rw [hd] at F
  have E := Lib.hid hs
  clear hs hd fa fp
  simp only at S T
  generalize sepX (dX a h) (dY a h) (sinI h) (dX p q) (dY p q) (sinI q) = n at *
  generalize dX a h = x at *
  generalize dY a h = y at *
  generalize sinI h = z at *
  generalize dX p q = x' at *
  generalize dY p q = y' at *
  generalize sinI q = z' at *
  unfold sightB
  go_enter Tryd.func34, Tryd.ntmps34
  go_wp2_with fail
  refine (S.out _ E.out).mono ?_
  rintro r w1 ⟨rfl, hb⟩
  have H1 := Lib.hid hb
  clear hb S
  go_wp2_with fail
  refine (T.out _ (E.out.below H1.out)).mono ?_
  rintro r w2 ⟨rfl, hb⟩
  have H2 := Lib.hid (H1.out.trans (hb.mono H1.out.size))
  clear hb T
  go_wp2_with fail
  refine (F.out _ (E.out.below H2.out)).mono ?_
  rintro r w3 ⟨rfl, hb⟩
  have H3 := Lib.hid (H2.out.trans (hb.mono H2.out.size))
  clear hb F
  go_wp2_with fail
  exact bodyPost_ret (v := .int .i64 n) (by simp [results, Tryd.results34, go_sem]) rfl ⟨rfl, H3.out⟩
theorem fin_DistD : True := trivial
end

section
open Go.RowKit
set_option linter.unusedVariables false

set_option maxHeartbeats 1000000 in
theorem times_any (x y z f : Int) (hx : -100000000000000 ≤ x * f ∧ x * f ≤ 100000000000000) (hy : -100000000000000 ≤ y * f ∧ y * f ≤ 100000000000000) (hz : -100000000000000 ≤ z * f ∧ z * f ≤ 100000000000000) (w : World) :
    Calls Tryd.prog 85 #[.agg #[.int .i64 x, .int .i64 y, .int .i64 z], .int .i64 f] w fun e w' => e = .returned (.agg #[.int .i64 (x * f), .int .i64 (y * f), .int .i64 (z * f)]) ∧ Below w.heap.size w w' := by
  have e1 : wrap64 (x * f) = x * f := IntWalk.wrap64_in _ (by omega)
  have e2 : wrap64 (y * f) = y * f := IntWalk.wrap64_in _ (by omega)
  have e3 : wrap64 (z * f) = z * f := IntWalk.wrap64_in _ (by omega)
  go_enter Tryd.func85, Tryd.ntmps85
  go_wp2_with fail
  refine bodyPost_ret (v := .agg #[.int .i64 (x * f), .int .i64 (y * f), .int .i64 (z * f)]) (by first | (simp [results, Tryd.results85, go_sem]; done) | (simp [results, Tryd.results85, go_sem, *]; done)) rfl ⟨rfl, ?_⟩
  repeat (first | exact Below.refl _ _ | refine Below.setCell ?_ (by first | (simp; done) | omega | (simp; omega)) _ | refine Below.alloc ?_ (by first | (simp; done) | omega | (simp; omega)) _ | refine bel_drew ?_)
theorem fin_TimesV : True := trivial
end

section
open Go.RowKit
set_option linter.unusedVariables false

def upL (ds : List (Int × Int)) : Bool := ds.all fun d => upB d.1 d.2
/-- The code for a dome and directions. -/
def check9 (s : ByteArray) (r b : Int) (ds : List (Int × Int)) : Int := if domeB s r b = true then (if upL ds = true then 0 else 2) else 1
theorem check9_one (s : ByteArray) (r b u v : Int) : check9 s r b [(u, v)] = ask9 s r b u v := by
  unfold check9 ask9 upL
  simp
def DirsAt (w : World) (g : Nat) (ds : List (Int × Int)) : Prop := ∀ j, (h : j < ds.length) → w.cell? ⟨g, j * 2, none⟩ = some (.int .i64 ds[j].1) ∧ w.cell? ⟨g, j * 2 + 1, none⟩ = some (.int .i64 ds[j].2)
theorem DirsAt.below {w w' : World} {g : Nat} {ds : List (Int × Int)} (h : DirsAt w g ds) (hb : Below w.heap.size w w') : DirsAt w' g ds := by
  intro j hj
  obtain ⟨h0, h1⟩ := h j hj
  have hl := World.block_lt_of_cell? w ⟨g, j * 2, none⟩ h0
  exact ⟨((bcell hb).1 _ _ hl).trans h0, ((bcell hb).1 _ _ hl).trans h1⟩
theorem upL_next (ds : List (Int × Int)) (j : Nat) (h : j < ds.length) (h1 : upL (ds.take j) = true) (h2 : upB ds[j].1 ds[j].2 = true) : upL (ds.take (j + 1)) = true := by
  unfold upL at h1 ⊢
  rw [List.take_add_one, List.getElem?_eq_getElem h, List.all_append, h1]
  simp [h2]
theorem upL_stop (ds : List (Int × Int)) (j : Nat) (h : j < ds.length) (h2 : upB ds[j].1 ds[j].2 = false) : upL ds = false := by
  unfold upL
  cases hx : ds.all fun d => upB d.1 d.2 with
  | false => rfl
  | true =>
    have := List.all_eq_true.1 hx ds[j] (List.getElem_mem h)
    rw [h2] at this
    cases this

set_option maxRecDepth 100000 in
set_option maxHeartbeats 2000000 in
theorem checkUp_any (s : ByteArray) (r b : Int) (hmax : s.size ≤ maxLen) (g cap : Nat) (ds : List (Int × Int)) (hn : ds.length ≤ 1000) (w : World) (hd : DirsAt w g ds) :
    Calls Tryd.prog 23 #[.agg #[.string s, .int .i64 r, .int .i64 b], .slice (some ⟨g, 0, none⟩) ds.length cap] w fun e w' => e = .returned (.int .i64 (check9 s r b ds)) ∧ Below w.heap.size w w' := by
  unfold check9
  have V := Lib.hid (fun w => validDome_any s r b hmax w)
  have HD := Lib.hid hd
  clear hmax hd
  cases hv : domeB s r b with
  | false =>
    rw [if_neg (by simp)]
    rw [hv] at V
    clear hv
    go_enter Tryd.func23, Tryd.ntmps23
    go_wp2_with fail
    refine (V.out _).mono ?_
    rintro e w1 ⟨rfl, hb⟩
    have hsw1 := hb.size
    try simp at hsw1
    obtain ⟨hcw1, hfw1⟩ := bcell hb
    have HBw1 : Hid (Below w.heap.size w w1) := by
      apply Lib.hid
      refine Below.trans ?_ (hb.mono ?_)
      · repeat (first | exact Below.refl _ _ | refine Below.setCell ?_ (by first | (simp; done) | omega | (simp; omega)) _ | refine Below.alloc ?_ (by first | (simp; done) | omega | (simp; omega)) _)
      · first | (simp; done) | omega | (simp; omega)
    have hzw1 : w.heap.size < w1.heap.size := by have := hb.size; (try simp at this); omega
    clear hb
    go_wp2_with fail
    go_ret
    refine ⟨rfl, ?_⟩
    repeat (first | exact Below.refl _ _ | exact HBw1.out | refine Below.setCell ?_ (by first | (simp; done) | omega | (simp; omega)) _ | refine Below.alloc ?_ (by first | (simp; done) | omega | (simp; omega)) _ | refine bel_drew ?_)
  | true =>
    rw [if_pos rfl]
    rw [hv] at V
    clear hv
    obtain ⟨C, hC⟩ : ∃ C : Int, C = if upL ds = true then 0 else 2 := ⟨_, rfl⟩
    rw [← hC]
    have HC := Lib.hid hC
    clear hC
    go_enter Tryd.func23, Tryd.ntmps23
    go_wp2_with fail
    refine (V.out _).mono ?_
    rintro e w1 ⟨rfl, hb⟩
    have HB1 := Lib.hid (((Below.refl _ w).alloc (Nat.le_refl _) _).trans (hb.mono (by simp)))
    clear hb V
    go_wp2_with fail
    go_loopg [12] (ds.length + 1) (fun kx s12 wr => ∃ j : Nat, s12 = .int .i64 (j : Int) ∧ j ≤ ds.length ∧ kx = ds.length + 1 - j ∧ Hid (upL (ds.take j) = true) ∧ Hid (Below w.heap.size w wr))
    case atStart => exact ⟨0, rfl, Nat.zero_le _, rfl, Lib.hid rfl, HB1⟩
    case round =>
      obtain ⟨j, rfl, hj, rfl, HO, HB⟩ := hrel
      by_cases hlt : j < ds.length
      · obtain ⟨c0, c1⟩ := (HD.out.below HB.out) j hlt
        have U := Lib.hid (fun w => isUp_any ds[j].1 ds[j].2 w)
        have NX := Lib.hid (upL_next ds j hlt HO.out)
        have ST := Lib.hid (upL_stop ds j hlt)
        have j0 : (0 : Int) ≤ (j : Int) := by omega
        have j1 : (j : Int) < (ds.length : Int) := by omega
        cases hu : upB ds[j].1 ds[j].2 with
        | false =>
          rw [hu] at U
          have hC2 : C = 2 := by rw [HC.out, ST.out hu]; rfl
          subst hC2
          clear hu NX ST
          generalize ds[j].1 = u at *
          generalize ds[j].2 = v at *
          go_wp2_with fail
          refine (U.out _).mono ?_
          rintro e w2 ⟨rfl, hb⟩
          have HB2 := Lib.hid ((HB.out.alloc HB.out.size _).trans (hb.mono (HB.out.alloc HB.out.size _).size))
          clear hb
          go_wp2_with fail
          go_ret
          exact ⟨rfl, HB2.out⟩
        | true =>
          rw [hu] at U
          have HN := Lib.hid (NX.out hu)
          clear hu NX ST
          generalize ds[j].1 = u at *
          generalize ds[j].2 = v at *
          go_wp2_with fail
          refine (U.out _).mono ?_
          rintro e w2 ⟨rfl, hb⟩
          have HB2 := Lib.hid ((HB.out.alloc HB.out.size _).trans (hb.mono (HB.out.alloc HB.out.size _).size))
          clear hb
          go_wp2_with fail
          go_roundg (ds.length + 1 - (j + 1))
          case measure => omega
          case rel => exact ⟨j + 1, by go_num, by omega, by omega, HN, HB2⟩
      · obtain rfl : j = ds.length := by omega
        have hC2 : C = 0 := by rw [HC.out, show upL ds = true by have := HO.out; rwa [List.take_length] at this]; rfl
        subst hC2
        go_wp2_with fail
        go_ret
        exact ⟨rfl, HB.out⟩

/-- The point of a dome in a direction. -/
def poX (r a h : Int) : Int := nearQ (r * dX (90000 - a) h) 1000000
def poY (r a h : Int) : Int := nearQ (r * dY (90000 - a) h) 1000000
def poZ (r a h : Int) : Int := nearQ (r * sinI h) 1000000
theorem po_bd (r x : Int) (r0 : 1000 ≤ r) (r1 : r ≤ 30000) (x0 : -1000000 ≤ x) (x1 : x ≤ 1000000) : -30000000000 ≤ r * x ∧ r * x ≤ 30000000000 := by
  have := pr_bd r x 30000 1000000 (by omega) (by omega) x0 x1
  omega
/-- What DomePoint returns. -/
def pointV (s : ByteArray) (r b u v : Int) : Value := if ask9 s r b u v = 0 then .tuple #[.agg #[.int .i64 (poX r u v), .int .i64 (poY r u v), .int .i64 (poZ r u v)], .int .i64 0] else .tuple #[.agg #[.int .i64 0, .int .i64 0, .int .i64 0], .int .i64 (ask9 s r b u v)]
theorem pointV_form (s : ByteArray) (r b u v : Int) : ∃ x y z c : Int, pointV s r b u v = .tuple #[.agg #[.int .i64 x, .int .i64 y, .int .i64 z], .int .i64 c] := by unfold pointV; split <;> exact ⟨_, _, _, _, rfl⟩

set_option maxRecDepth 100000 in
set_option maxHeartbeats 2000000 in
theorem point_any (s : ByteArray) (r b a h : Int) (r0 : 1000 ≤ r) (r1 : r ≤ 30000) (a0 : 0 ≤ a) (a1 : a ≤ 359999) (h0 : -90000 ≤ h) (h1 : h ≤ 90000) (w : World) (hs : SinesOK w) :
    Calls Tryd.prog 52 #[.agg #[.string s, .int .i64 r, .int .i64 b], .agg #[.int .i64 a, .int .i64 h]] w fun e w' => e = .returned (.agg #[.int .i64 (poX r a h), .int .i64 (poY r a h), .int .i64 (poZ r a h)]) ∧ Below w.heap.size w w' := by
  have O := Lib.hid (fun w hs => overFloor_any a h a0 a1 h0 h1 w hs)
  have bx := po_bd r (dX (90000 - a) h) r0 r1 (dX_bd _ _).1 (dX_bd _ _).2
  have by' := po_bd r (dY (90000 - a) h) r0 r1 (dY_bd _ _).1 (dY_bd _ _).2
  have bz := po_bd r (sinI h) r0 r1 (sinI_bd _).1 (sinI_bd _).2
  unfold poX poY poZ
  rw [Int.mul_comm r (dX (90000 - a) h)] at bx ⊢
  rw [Int.mul_comm r (dY (90000 - a) h)] at by' ⊢
  rw [Int.mul_comm r (sinI h)] at bz ⊢
  have TI := Lib.hid (fun w => times_any (dX (90000 - a) h) (dY (90000 - a) h) (sinI h) r (by omega) (by omega) (by omega) w)
  have Q := Lib.hid (fun w => quotients_any (dX (90000 - a) h * r) (dY (90000 - a) h * r) (sinI h * r) 1000000 w (by omega) (by omega) (by omega) (by omega) (by omega) (by omega) (by omega) (by omega))
  have VC := Lib.hid (fun w => vector_any (nearQ (dX (90000 - a) h * r) 1000000) (nearQ (dY (90000 - a) h * r) 1000000) (nearQ (sinI h * r) 1000000) w)
  clear bx by' bz
  generalize nearQ (dX (90000 - a) h * r) 1000000 = X at *
  generalize nearQ (dY (90000 - a) h * r) 1000000 = Y at *
  generalize nearQ (sinI h * r) 1000000 = Z at *
  generalize dX (90000 - a) h * r = p at *
  generalize dY (90000 - a) h * r = q at *
  generalize sinI h * r = k at *
  generalize dX (90000 - a) h = x at *
  generalize dY (90000 - a) h = y at *
  generalize sinI h = z at *
  obtain ⟨W0, hW0⟩ : ∃ W0, W0 = (((w.alloc (.cells #[.string s, .int .i64 r, .int .i64 b] 29)).alloc (.cells #[.int .i64 a, .int .i64 h] 54)).alloc (.cells #[.int .i64 0, .int .i64 0, .int .i64 0] 31)) := ⟨_, rfl⟩
  have K0 : Hid (W0.cell? ⟨w.heap.size, 1, none⟩ = some (.int .i64 r) ∧ W0.cell? ⟨w.heap.size + 1, 0, none⟩ = some (.int .i64 a) ∧ W0.cell? ⟨w.heap.size + 1, 1, none⟩ = some (.int .i64 h) ∧ Below w.heap.size w W0) := Lib.hid (by rw [hW0]; exact ⟨by rw [World.cell?_alloc_lt _ _ _ (by first | (simp; done) | (simp; omega)), World.cell?_alloc_lt _ _ _ (by first | (simp; done) | (simp; omega))]; first | (simp; done) | (rw [World.cell?_alloc_at _ _ _ _ (by first | (simp; done) | (simp; omega))]; rfl), by rw [World.cell?_alloc_lt _ _ _ (by first | (simp; done) | (simp; omega))]; first | (simp; done) | (rw [World.cell?_alloc_at _ _ _ _ (by first | (simp; done) | (simp; omega))]; rfl), by rw [World.cell?_alloc_lt _ _ _ (by first | (simp; done) | (simp; omega))]; first | (simp; done) | (rw [World.cell?_alloc_at _ _ _ _ (by first | (simp; done) | (simp; omega))]; rfl), by repeat (first | exact Below.refl _ _ | refine Below.alloc ?_ (by first | (simp; done) | (simp; omega)) _)⟩)
  have SZ : Hid (W0.heap.size = w.heap.size + 1 + 1 + 1) := Lib.hid (by rw [hW0]; simp)
  have R0 : Hid (C3 W0 (w.heap.size + 1 + 1) 0 0 0) := Lib.hid (by rw [hW0]; simpa using C3.new ((w.alloc (.cells #[.string s, .int .i64 r, .int .i64 b] 29)).alloc (.cells #[.int .i64 a, .int .i64 h] 54)) 31 0 0 0)
  have HW := Lib.hid hW0
  clear hW0
  have FD := fldF
  have E0 := Lib.hid (hs.below K0.out.2.2.2)
  clear hs r0 r1 a0 a1 h0 h1
  go_enter Tryd.func52, Tryd.ntmps52
  obtain ⟨k0, k1, k2, k3⟩ := K0.out
  go_wp2_with fail
  rw [← HW.out]
  clear HW
  go_region_held3 (fun w' => w'.cell? ⟨w.heap.size, 1, none⟩ = some (.int .i64 r) ∧ w'.cell? ⟨w.heap.size + 1, 0, none⟩ = some (.int .i64 a) ∧ w'.cell? ⟨w.heap.size + 1, 1, none⟩ = some (.int .i64 h) ∧ Below w.heap.size w w') (first | (exact keepW3 K0.out (bel_drew (Below.refl _ _))) | (exact keepW3 K0.out y4) | (exact keepW3 K0.out y3) | (exact keepW3 K0.out y2) | (exact keepW3 K0.out y1) | (exact setW3 (setW3 (setW3 (keepW3 K0.out y4) (by omega) (by omega) (by omega) (by omega)) (by omega) (by omega) (by omega) (by omega)) (by omega) (by omega) (by omega) (by omega)) | go_keep) ((first
    | (go_at_call 84; (with_reducible refine (O.out _ (E0.out.below (bel_drew (Below.refl _ _)))).mono ?_); rintro e x1 ⟨rfl, hx1⟩; have y1 := undrewG hx1)
    | (go_at_call 85; (with_reducible refine (TI.out _).mono ?_); rintro e x2 ⟨rfl, hx2⟩; have y2 := y1.trans (hx2.mono y1.size))
    | (go_at_call 86; (with_reducible refine (Q.out _).mono ?_); rintro e x3 ⟨rfl, hx3⟩; have y3 := y2.trans (hx3.mono y2.size))
    | (go_at_call 87; (with_reducible refine (VC.out _).mono ?_); rintro e x4 ⟨rfl, hx4⟩; have y4 := y3.trans (hx4.mono y3.size); have rr := R0.out.on y4; obtain ⟨r0, r1, r2, r3, r4, r5⟩ := rr)))
  rename_i held
  have HB := Lib.hid held.2.2.2
  clear held
  go_wp2_with fail
  refine bodyPost_ret (v := .agg #[.int .i64 X, .int .i64 Y, .int .i64 Z]) (by first | (simp [results, Tryd.results52, go_sem]; done) | (simp [results, Tryd.results52, go_sem, *]; done)) rfl ⟨rfl, ?_⟩
  repeat (first | exact Below.refl _ _ | exact HB.out | refine Below.setCell ?_ (by first | (simp; done) | omega | (simp; omega)) _ | refine Below.alloc ?_ (by first | (simp; done) | omega | (simp; omega)) _ | refine bel_drew ?_)

set_option maxRecDepth 100000 in
set_option maxHeartbeats 2000000 in
theorem l09Point_at (g : Nat) (r a h : Int) (r0 : 1000 ≤ r) (r1 : r ≤ 30000) (a0 : 0 ≤ a) (a1 : a ≤ 359999) (h0 : -90000 ≤ h) (h1 : h ≤ 90000) (w : World) (c1 : w.cell? ⟨g, 1, none⟩ = some (.int .i64 r)) :
    Calls Tryd.prog 47 #[.pointer (some ⟨g, 0, none⟩), .int .i64 a, .int .i64 h] w fun e w' => e = .returned (.agg #[.int .i64 (poX r a h), .int .i64 (poY r a h), .int .i64 (poZ r a h)]) ∧ Below w.heap.size w w' := by
  have nb := nrm_bd (90000 - a)
  have N1 := Lib.hid (fun w => l02Normal_any (90000 - a) w (by omega) (by omega))
  have D := Lib.hid (fun w => l04Direction_any (nrm (90000 - a)) h (by omega) (by omega) (by omega) (by omega) w)
  change Hid (∀ w, Calls Tryd.prog 38 #[.int .i64 (nrm (90000 - a)), .int .i64 h] w fun e w' => e = .returned (.agg #[.int .i64 (dX (nrm (90000 - a)) h), .int .i64 (dY (nrm (90000 - a)) h), .int .i64 (sinI h)]) ∧ Below w.heap.size w w') at D
  rw [dX_nrm, dY_nrm] at D
  have bx := po_bd r (dX (90000 - a) h) r0 r1 (dX_bd _ _).1 (dX_bd _ _).2
  have by' := po_bd r (dY (90000 - a) h) r0 r1 (dY_bd _ _).1 (dY_bd _ _).2
  have bz := po_bd r (sinI h) r0 r1 (sinI_bd _).1 (sinI_bd _).2
  unfold poX poY poZ
  have Q1 := Lib.hid (fun w => l01Div_any (r * dX (90000 - a) h) 1000000 w (by omega) (by omega) (by omega) (by omega) (by omega))
  have Q2 := Lib.hid (fun w => l01Div_any (r * dY (90000 - a) h) 1000000 w (by omega) (by omega) (by omega) (by omega) (by omega))
  have Q3 := Lib.hid (fun w => l01Div_any (r * sinI h) 1000000 w (by omega) (by omega) (by omega) (by omega) (by omega))
  have m1 : IntKind.i64.wrap (r * dX (90000 - a) h) = r * dX (90000 - a) h := IntWalk.i64_in _ (by omega)
  have m2 : IntKind.i64.wrap (r * dY (90000 - a) h) = r * dY (90000 - a) h := IntWalk.i64_in _ (by omega)
  have m3 : IntKind.i64.wrap (r * sinI h) = r * sinI h := IntWalk.i64_in _ (by omega)
  clear bx by' bz
  generalize nearQ (r * dX (90000 - a) h) 1000000 = X at *
  generalize nearQ (r * dY (90000 - a) h) 1000000 = Y at *
  generalize nearQ (r * sinI h) 1000000 = Z at *
  generalize dX (90000 - a) h = x at *
  generalize dY (90000 - a) h = y at *
  generalize sinI h = z at *
  generalize nrm (90000 - a) = n at *
  have R0 := Lib.hid (C3.new w 31 0 0 0)
  have K0 : Hid ((w.alloc (.cells #[.int .i64 0, .int .i64 0, .int .i64 0] 31)).cell? ⟨g, 1, none⟩ = some (.int .i64 r)) := Lib.hid (by rw [World.cell?_alloc_lt _ _ _ (World.block_lt_of_cell? w ⟨g, 1, none⟩ c1)]; exact c1)
  clear c1 r0 r1
  go_enter Tryd.func47, Tryd.ntmps47
  go_wp2_with fail
  refine (N1.out _).mono ?_
  rintro e w' ⟨rfl, rfl⟩
  go_wp2_with fail
  refine (D.out _).mono ?_
  rintro e w1 ⟨rfl, hb⟩
  have HB1 : Hid (Below w.heap.size w w1) := Lib.hid (((Below.refl _ _).alloc (Nat.le_refl _) _).trans (hb.mono (by simp)))
  have R1 := Lib.hid ((R0.out.on hb).alloc (R0.out.on hb).lt (.cells #[.int .i64 x, .int .i64 y, .int .i64 z] 31))
  have V1 := Lib.hid (C3.new w1 31 x y z)
  have k0 := ((bcell hb).1 _ _ (World.block_lt_of_cell? _ _ K0.out)).trans K0.out
  have k1 : (w1.alloc (.cells #[.int .i64 x, .int .i64 y, .int .i64 z] 31)).cell? ⟨g, 1, none⟩ = some (.int .i64 r) := by rw [World.cell?_alloc_lt _ _ _ (World.block_lt_of_cell? _ _ k0)]; exact k0
  have HB2 := Lib.hid (HB1.out.alloc HB1.out.size (.cells #[.int .i64 x, .int .i64 y, .int .i64 z] 31))
  have hgl := World.block_lt_of_cell? w1 ⟨w.heap.size, 0, none⟩ (R0.out.on hb).c0
  clear hb k0
  obtain ⟨W2, hW2⟩ : ∃ W2, W2 = w1.alloc (.cells #[.int .i64 x, .int .i64 y, .int .i64 z] 31) := ⟨_, rfl⟩
  rw [← hW2] at R1 V1 k1 HB2
  have HW := Lib.hid hW2
  clear hW2
  obtain ⟨v0, v1, v2, _, _, _⟩ := V1.out
  obtain ⟨q0, q1, q2, q3, q4, q5⟩ := R1.out
  go_wp2_with fail
  rw [← HW.out]
  refine wp_region_still_tail 25 (by kernel_rfl) (by kernel_rfl) ?_
  simp only [List.take_succ_cons, List.take_zero, List.drop_succ_cons, List.drop_zero]
  repeat still_step
  still_call (quiet_w (Q1.out _))
  repeat still_step
  still_call (quiet_w (Q2.out _))
  repeat still_step
  still_call (quiet_w (Q3.out _))
  repeat still_step
  refine wpStill_nil ?_
  clear k1 v0 v1 v2 Q1 Q2 Q3 m1 m2 m3
  go_wp2_with fail
  refine bodyPost_ret (v := .agg #[.int .i64 X, .int .i64 Y, .int .i64 Z]) (by first | (simp [results, Tryd.results47, go_sem]; done) | (simp [results, Tryd.results47, go_sem, *]; done)) rfl ⟨rfl, ?_⟩
  repeat (first | exact Below.refl _ _ | exact HB2.out | refine Below.setCell ?_ (by first | (simp; done) | omega | (simp; omega)) _ | refine Below.alloc ?_ (by first | (simp; done) | omega | (simp; omega)) _ | refine bel_drew ?_)

theorem fin_Dome7 : True := trivial
end

section
open Go.RowKit
set_option linter.unusedVariables false

set_option maxHeartbeats 1000000 in
theorem l09Apart_any (a h p q : Int) (a0 : 0 ≤ a) (a1 : a ≤ 359999) (h0 : -90000 ≤ h) (h1 : h ≤ 90000) (p0 : 0 ≤ p) (p1 : p ≤ 359999) (q0 : -90000 ≤ q) (q1 : q ≤ 90000) (w : World) :
    Calls Tryd.prog 60 #[.int .i64 a, .int .i64 h, .int .i64 p, .int .i64 q] w fun r w' => r = .returned (.int .i64 (sep9 a h p q)) ∧ Below w.heap.size w w' := by
  unfold sep9
  obtain ⟨d, hd⟩ := sepX_spec (dX a h) (dY a h) (sinI h) (dX p q) (dY p q) (sinI q)
  have S := Lib.hid (fun w => l04Direction_any a h (by omega) (by omega) (by omega) (by omega) w)
  have T := Lib.hid (fun w => l04Direction_any p q (by omega) (by omega) (by omega) (by omega) w)
  change Hid (∀ w, Calls Tryd.prog 38 #[.int .i64 a, .int .i64 h] w fun e w' => e = .returned (.agg #[.int .i64 (dX a h), .int .i64 (dY a h), .int .i64 (sinI h)]) ∧ Below w.heap.size w w') at S
  change Hid (∀ w, Calls Tryd.prog 38 #[.int .i64 p, .int .i64 q] w fun e w' => e = .returned (.agg #[.int .i64 (dX p q), .int .i64 (dY p q), .int .i64 (sinI q)]) ∧ Below w.heap.size w w') at T
  have F := Lib.hid (fun w => l04Away_any (dX a h) (dY a h) (sinI h) (dX p q) (dY p q) (sinI q) (inV_2 (dir_in _ _)) (inV_2 (dir_in _ _)) w)
  rw [hd] at F
  clear hd
  generalize sepX (dX a h) (dY a h) (sinI h) (dX p q) (dY p q) (sinI q) = n at *
  generalize dX a h = x at *
  generalize dY a h = y at *
  generalize sinI h = z at *
  generalize dX p q = x' at *
  generalize dY p q = y' at *
  generalize sinI q = z' at *
  go_enter Tryd.func60, Tryd.ntmps60
  go_wp2_with fail
  refine (S.out _).mono ?_
  rintro e w1 ⟨rfl, hb⟩
  have hsw1 := hb.size
  try simp at hsw1
  obtain ⟨hcw1, hfw1⟩ := bcell hb
  have HBw1 : Hid (Below w.heap.size w w1) := by
    apply Lib.hid
    refine Below.trans ?_ (hb.mono ?_)
    · repeat (first | exact Below.refl _ _ | refine Below.setCell ?_ (by first | (simp; done) | omega | (simp; omega)) _ | refine Below.alloc ?_ (by first | (simp; done) | omega | (simp; omega)) _)
    · first | (simp; done) | omega | (simp; omega)
  clear hb
  go_wp2_with fail
  refine (T.out _).mono ?_
  rintro e w2 ⟨rfl, hb⟩
  have hsw2 := hb.size
  try simp at hsw2
  obtain ⟨hcw2, hfw2⟩ := bcell hb
  have HBw2 : Hid (Below w.heap.size w w2) := by
    apply Lib.hid
    refine Below.trans ?_ (hb.mono ?_)
    · repeat (first | exact Below.refl _ _ | exact HBw1.out | refine Below.setCell ?_ (by first | (simp; done) | omega | (simp; omega)) _ | refine Below.alloc ?_ (by first | (simp; done) | omega | (simp; omega)) _)
    · first | (simp; done) | omega | (simp; omega)
  clear hb
  first | (have gsw2w1 : w1.heap.size < w2.heap.size := by omega) | skip
  go_wp2_with fail
  refine (F.out _).mono ?_
  rintro e w3 ⟨rfl, hb⟩
  have hsw3 := hb.size
  try simp at hsw3
  obtain ⟨hcw3, hfw3⟩ := bcell hb
  have HBw3 : Hid (Below w.heap.size w w3) := by
    apply Lib.hid
    refine Below.trans ?_ (hb.mono ?_)
    · repeat (first | exact Below.refl _ _ | exact HBw2.out | refine Below.setCell ?_ (by first | (simp; done) | omega | (simp; omega)) _ | refine Below.alloc ?_ (by first | (simp; done) | omega | (simp; omega)) _)
    · first | (simp; done) | omega | (simp; omega)
  clear hb
  first | (have gsw3w1 : w1.heap.size < w3.heap.size := by omega) | skip
  first | (have gsw3w2 : w2.heap.size < w3.heap.size := by omega) | skip
  go_wp2_with fail
  go_ret
  exact ⟨rfl, HBw3.out⟩

theorem check9_two (s : ByteArray) (r b u v p q : Int) : check9 s r b [(u, v), (p, q)] = if ask9 s r b u v = 0 then (if upB p q = true then 0 else 2) else ask9 s r b u v := by
  unfold check9 ask9 upL
  by_cases h1 : domeB s r b = true <;> by_cases h2 : upB u v = true <;> by_cases h3 : upB p q = true <;> simp [h1, h2, h3]
/-- What ArcOnDome returns. -/
def arcdV (s : ByteArray) (r b u v p q : Int) : Value := if ask9 s r b u v = 0 then (if upB p q = true then .tuple #[.int .i64 (nearQ (r * sep9 u v p q * 314159) 18000000000), .int .i64 0] else .tuple #[.int .i64 0, .int .i64 2]) else .tuple #[.int .i64 0, .int .i64 (ask9 s r b u v)]
theorem arcdV_form (s : ByteArray) (r b u v p q : Int) : ∃ x c : Int, arcdV s r b u v p q = .tuple #[.int .i64 x, .int .i64 c] := by
  unfold arcdV
  split
  · split <;> exact ⟨_, _, rfl⟩
  · exact ⟨_, _, rfl⟩
theorem arc_bd (r n : Int) (r0 : 1000 ≤ r) (r1 : r ≤ 30000) (n0 : 0 ≤ n) (n1 : n < 360000) : 0 ≤ r * n ∧ r * n ≤ 10800000000 := by
  have h1 := Int.mul_nonneg (show 0 ≤ r by omega) n0
  have h2 := pr_bd r n 30000 360000 (by omega) (by omega) (by omega) (by omega)
  omega

theorem fin_Dome8 : True := trivial
end

section
open Go.RowKit
set_option linter.unusedVariables false

/-- A seat that is inside. -/
def inside9 (r X Y Z : Int) : Bool := inR (-(r - 1)) (r - 1) [X, Y, Z] && decide (X * X + Y * Y + Z * Z < (r - 1) * (r - 1))
theorem inR_3D (lo hi a b c : Int) : inR lo hi [a, b, c] = (inR lo hi [a] && (inR lo hi [b] && inR lo hi [c])) := by simp [inR]
theorem inside9_bd {r X Y Z : Int} (h : inside9 r X Y Z = true) : (-(r - 1) ≤ X ∧ X ≤ r - 1) ∧ (-(r - 1) ≤ Y ∧ Y ≤ r - 1) ∧ (-(r - 1) ≤ Z ∧ Z ≤ r - 1) := by
  unfold inside9 at h
  rw [inR_3D] at h
  simp only [Bool.and_eq_true, inR_1] at h
  exact ⟨h.1.1, h.1.2.1, h.1.2.2⟩
theorem po_in (r a h : Int) (r0 : 1000 ≤ r) (r1 : r ≤ 30000) : inV 30000 (poX r a h) (poY r a h) (poZ r a h) := by
  have bx := po_bd r (dX (90000 - a) h) r0 r1 (dX_bd _ _).1 (dX_bd _ _).2
  have by' := po_bd r (dY (90000 - a) h) r0 r1 (dY_bd _ _).1 (dY_bd _ _).2
  have bz := po_bd r (sinI h) r0 r1 (sinI_bd _).1 (sinI_bd _).2
  exact ⟨nq6_bd _ 30000 (by omega) (by omega) (by omega), nq6_bd _ 30000 (by omega) (by omega) (by omega), nq6_bd _ 30000 (by omega) (by omega) (by omega)⟩
theorem way_in {r X Y Z : Int} (a h : Int) (r0 : 1000 ≤ r) (r1 : r ≤ 30000) (hi : inside9 r X Y Z = true) : inV 2000000 (poX r a h - X) (poY r a h - Y) (poZ r a h - Z) := by
  obtain ⟨⟨p1, p2⟩, ⟨p3, p4⟩, p5, p6⟩ := po_in r a h r0 r1
  obtain ⟨⟨q1, q2⟩, ⟨q3, q4⟩, q5, q6⟩ := inside9_bd hi
  exact ⟨⟨by omega, by omega⟩, ⟨by omega, by omega⟩, by omega, by omega⟩
theorem inV_10 {x y z : Int} (h : inV 2000000 x y z) : inV 10000000 x y z := by
  obtain ⟨⟨a, b⟩, ⟨c, d⟩, e, f⟩ := h
  exact ⟨⟨by omega, by omega⟩, ⟨by omega, by omega⟩, by omega, by omega⟩
/-- What a seat sees: the azimuth, the altitude and the distance. -/
def seeA (r X Y Z a h : Int) : Int := azI (poX r a h - X) (poY r a h - Y)
def seeB (r X Y Z a h : Int) : Int := latI (poX r a h - X) (poY r a h - Y) (poZ r a h - Z)
def seeN (r X Y Z a h : Int) : Int := len3 (poX r a h - X) (poY r a h - Y) (poZ r a h - Z)
/-- What ViewFrom returns. -/
def viewV (s : ByteArray) (r b X Y Z u v : Int) : Value := if ask9 s r b u v = 0 then (if inside9 r X Y Z = true then .tuple #[.int .i64 (seeA r X Y Z u v), .int .i64 (seeB r X Y Z u v), .int .i64 (seeN r X Y Z u v), .int .i64 0] else .tuple #[.int .i64 0, .int .i64 0, .int .i64 0, .int .i64 6]) else .tuple #[.int .i64 0, .int .i64 0, .int .i64 0, .int .i64 (ask9 s r b u v)]
theorem viewV_form (s : ByteArray) (r b X Y Z u v : Int) : ∃ p q n c : Int, viewV s r b X Y Z u v = .tuple #[.int .i64 p, .int .i64 q, .int .i64 n, .int .i64 c] := by
  unfold viewV
  split
  · split <;> exact ⟨_, _, _, _, rfl⟩
  · exact ⟨_, _, _, _, rfl⟩

set_option maxRecDepth 100000 in
set_option maxHeartbeats 1000000 in
theorem minus_any (x y z x' y' z' : Int) (h : inV 10000000 x y z) (h' : inV 10000000 x' y' z') (w : World) :
    Calls Tryd.prog 53 #[.agg #[.int .i64 x, .int .i64 y, .int .i64 z], .agg #[.int .i64 x', .int .i64 y', .int .i64 z']] w fun e w' => e = .returned (.agg #[.int .i64 (x - x'), .int .i64 (y - y'), .int .i64 (z - z')]) ∧ Below w.heap.size w w' := by
  obtain ⟨⟨a1, a2⟩, ⟨a3, a4⟩, a5, a6⟩ := h
  obtain ⟨⟨b1, b2⟩, ⟨b3, b4⟩, b5, b6⟩ := h'
  have e1 : wrap64 (x - x') = x - x' := IntWalk.wrap64_in _ (by omega)
  have e2 : wrap64 (y - y') = y - y' := IntWalk.wrap64_in _ (by omega)
  have e3 : wrap64 (z - z') = z - z' := IntWalk.wrap64_in _ (by omega)
  clear a1 a2 a3 a4 a5 a6 b1 b2 b3 b4 b5 b6
  go_enter Tryd.func53, Tryd.ntmps53
  go_wp2_with fail
  refine bodyPost_ret (v := .agg #[.int .i64 (x - x'), .int .i64 (y - y'), .int .i64 (z - z')]) (by first | (simp [results, Tryd.results53, go_sem]; done) | (simp [results, Tryd.results53, go_sem, *]; done)) rfl ⟨rfl, ?_⟩
  repeat (first | exact Below.refl _ _ | refine Below.setCell ?_ (by first | (simp; done) | omega | (simp; omega)) _ | refine Below.alloc ?_ (by first | (simp; done) | omega | (simp; omega)) _ | refine bel_drew ?_)

set_option maxRecDepth 100000 in
set_option maxHeartbeats 2000000 in
theorem isInside_any (s : ByteArray) (r b X Y Z : Int) (r0 : 1000 ≤ r) (r1 : r ≤ 30000) (w : World) :
    Calls Tryd.prog 24 #[.agg #[.string s, .int .i64 r, .int .i64 b, .int .i64 X, .int .i64 Y, .int .i64 Z]] w fun e w' => e = .returned (.bool (inside9 r X Y Z)) ∧ Below w.heap.size w w' := by
  unfold inside9
  obtain ⟨W0, hW0⟩ : ∃ W0, W0 = (w.alloc (.cells #[.string s, .int .i64 r, .int .i64 b, .int .i64 X, .int .i64 Y, .int .i64 Z] 52)) := ⟨_, rfl⟩
  have K0 : Hid (W0.cell? ⟨w.heap.size, 1, none⟩ = some (.int .i64 r) ∧ W0.cell? ⟨w.heap.size, 3, none⟩ = some (.int .i64 X) ∧ W0.cell? ⟨w.heap.size, 4, none⟩ = some (.int .i64 Y) ∧ W0.cell? ⟨w.heap.size, 5, none⟩ = some (.int .i64 Z) ∧ Below w.heap.size w W0) := Lib.hid (by rw [hW0]; exact ⟨by first | (simp; done) | (rw [World.cell?_alloc_at _ _ _ _ (by first | (simp; done) | (simp; omega))]; rfl), by first | (simp; done) | (rw [World.cell?_alloc_at _ _ _ _ (by first | (simp; done) | (simp; omega))]; rfl), by first | (simp; done) | (rw [World.cell?_alloc_at _ _ _ _ (by first | (simp; done) | (simp; omega))]; rfl), by first | (simp; done) | (rw [World.cell?_alloc_at _ _ _ _ (by first | (simp; done) | (simp; omega))]; rfl), by repeat (first | exact Below.refl _ _ | refine Below.alloc ?_ (by first | (simp; done) | (simp; omega)) _)⟩)
  have SZ : Hid (W0.heap.size = w.heap.size + 1) := Lib.hid (by rw [hW0]; simp)
  have HW := Lib.hid hW0
  clear hW0
  cases hin : inR (-(r - 1)) (r - 1) [X, Y, Z] with
  | false =>
    rw [Bool.false_and]
    have HI := Lib.hid hin
    clear hin
    go_enter Tryd.func24, Tryd.ntmps24
    obtain ⟨k0, k1, k2, k3, k4⟩ := K0.out
    go_wp2_with fail
    rw [← HW.out]
    clear HW
    refine (within3 _ _ X Y Z _ _ _ (by rw [World.cell?_alloc_at _ _ _ _ (by first | (simp [SZ.out]; done) | (rw [SZ.out]))]; rfl) (by rw [World.cell?_alloc_at _ _ _ _ (by first | (simp [SZ.out]; done) | (rw [SZ.out]))]; rfl) (by rw [World.cell?_alloc_at _ _ _ _ (by first | (simp [SZ.out]; done) | (rw [SZ.out]))]; rfl)).mono ?_
    rintro e w' ⟨rfl, rfl⟩
    rw [HI.out]
    have K1 := Lib.hid (keepW4 K0.out ((Below.refl _ W0).alloc (Nat.le_refl _) (.cells #[.int .i64 X, .int .i64 Y, .int .i64 Z] 2)))
    clear k0 k1 k2 k3 k4
    obtain ⟨k0, k1, k2, k3, k4⟩ := K1.out
    have HB1 := Lib.hid k4
    go_wp2_with fail
    go_ret
    exact ⟨rfl, HB1.out⟩
  | true =>
    rw [Bool.true_and]
    have HI := Lib.hid hin
    have hb := hin
    rw [inR_3D] at hb
    simp only [Bool.and_eq_true, inR_1] at hb
    obtain ⟨⟨p1, p2⟩, ⟨p3, p4⟩, p5, p6⟩ := hb
    have x2 := sq_bd X 30000 (by omega) (by omega)
    have y2 := sq_bd Y 30000 (by omega) (by omega)
    have z2 := sq_bd Z 30000 (by omega) (by omega)
    have m2 := sq_bd (r - 1) 30000 (by omega) (by omega)
    have P := Lib.hid (fun w => products_any X Y Z X Y Z w (by omega) (by omega) (by omega) (by omega) (by omega) (by omega))
    have wm : wrap64 ((r - 1) * (r - 1)) = (r - 1) * (r - 1) := IntWalk.wrap64_in _ (by omega)
    clear hin p1 p2 p3 p4 p5 p6 x2 y2 z2 m2
    generalize X * X + Y * Y + Z * Z = sq at *
    go_enter Tryd.func24, Tryd.ntmps24
    obtain ⟨k0, k1, k2, k3, k4⟩ := K0.out
    go_wp2_with fail
    rw [← HW.out]
    clear HW
    refine (within3 _ _ X Y Z _ _ _ (by rw [World.cell?_alloc_at _ _ _ _ (by first | (simp [SZ.out]; done) | (rw [SZ.out]))]; rfl) (by rw [World.cell?_alloc_at _ _ _ _ (by first | (simp [SZ.out]; done) | (rw [SZ.out]))]; rfl) (by rw [World.cell?_alloc_at _ _ _ _ (by first | (simp [SZ.out]; done) | (rw [SZ.out]))]; rfl)).mono ?_
    rintro e w' ⟨rfl, rfl⟩
    rw [HI.out]
    have K1 := Lib.hid (keepW4 K0.out ((Below.refl _ W0).alloc (Nat.le_refl _) (.cells #[.int .i64 X, .int .i64 Y, .int .i64 Z] 2)))
    clear k0 k1 k2 k3 k4
    obtain ⟨k0, k1, k2, k3, k4⟩ := K1.out
    have HB1 := Lib.hid k4
    go_wp2_with fail
    refine (P.out _).mono ?_
    rintro e w2 ⟨rfl, hb⟩
    have HB2 := Lib.hid (HB1.out.trans (hb.mono HB1.out.size))
    clear hb k0 k1 k2 k3 k4
    go_wp2_with fail
    go_ret
    exact ⟨ret_bool (by first | rfl | (simp [wm])), HB2.out⟩

set_option maxRecDepth 100000 in
set_option maxHeartbeats 2000000 in
theorem l09Seat_at (g : Nat) (r X Y Z : Int) (r0 : 1000 ≤ r) (r1 : r ≤ 30000) (w : World) (c1 : w.cell? ⟨g, 1, none⟩ = some (.int .i64 r)) :
    Calls Tryd.prog 21 #[.pointer (some ⟨g, 0, none⟩), .agg #[.int .i64 X, .int .i64 Y, .int .i64 Z]] w fun e w' => e = .returned (.bool (inside9 r X Y Z)) ∧ Below w.heap.size w w' := by
  unfold inside9
  rw [inR_3D]
  have hg := World.block_lt_of_cell? w ⟨g, 1, none⟩ c1
  have K1 : (w.alloc (.cells #[.int .i64 X, .int .i64 Y, .int .i64 Z] 31)).cell? ⟨g, 1, none⟩ = some (.int .i64 r) := by rw [World.cell?_alloc_lt _ _ _ hg]; exact c1
  clear c1 hg
  have I1 := Lib.hid (fun w => l00In_any X (-(r - 1)) (r - 1) w)
  have I2 := Lib.hid (fun w => l00In_any Y (-(r - 1)) (r - 1) w)
  have I3 := Lib.hid (fun w => l00In_any Z (-(r - 1)) (r - 1) w)
  cases h1 : inR (-(r - 1)) (r - 1) [X] with
  | false =>
    rw [Bool.false_and, Bool.false_and]
    rw [h1] at I1
    clear h1
    go_enter Tryd.func21, Tryd.ntmps21
    go_wp2_with fail
    refine (I1.out _).mono ?_
    rintro e w' ⟨rfl, rfl⟩
    go_wp2_with fail
    go_ret
    refine ⟨rfl, ?_⟩
    repeat (first | exact Below.refl _ _ | refine Below.setCell ?_ (by first | (simp; done) | omega | (simp; omega)) _ | refine Below.alloc ?_ (by first | (simp; done) | omega | (simp; omega)) _ | refine bel_drew ?_)
  | true =>
    rw [Bool.true_and]
    rw [h1] at I1
    cases h2 : inR (-(r - 1)) (r - 1) [Y] with
    | false =>
      rw [Bool.false_and, Bool.false_and]
      rw [h2] at I2
      clear h1 h2
      go_enter Tryd.func21, Tryd.ntmps21
      go_wp2_with fail
      refine (I1.out _).mono ?_
      rintro e w' ⟨rfl, rfl⟩
      go_wp2_with fail
      refine (I2.out _).mono ?_
      rintro e w' ⟨rfl, rfl⟩
      go_wp2_with fail
      go_ret
      refine ⟨rfl, ?_⟩
      repeat (first | exact Below.refl _ _ | refine Below.setCell ?_ (by first | (simp; done) | omega | (simp; omega)) _ | refine Below.alloc ?_ (by first | (simp; done) | omega | (simp; omega)) _ | refine bel_drew ?_)
    | true =>
      rw [Bool.true_and]
      rw [h2] at I2
      cases h3 : inR (-(r - 1)) (r - 1) [Z] with
      | false =>
        rw [Bool.false_and]
        rw [h3] at I3
        clear h1 h2 h3
        go_enter Tryd.func21, Tryd.ntmps21
        go_wp2_with fail
        refine (I1.out _).mono ?_
        rintro e w' ⟨rfl, rfl⟩
        go_wp2_with fail
        refine (I2.out _).mono ?_
        rintro e w' ⟨rfl, rfl⟩
        go_wp2_with fail
        refine (I3.out _).mono ?_
        rintro e w' ⟨rfl, rfl⟩
        go_wp2_with fail
        go_ret
        refine ⟨rfl, ?_⟩
        repeat (first | exact Below.refl _ _ | refine Below.setCell ?_ (by first | (simp; done) | omega | (simp; omega)) _ | refine Below.alloc ?_ (by first | (simp; done) | omega | (simp; omega)) _ | refine bel_drew ?_)
      | true =>
        rw [Bool.true_and]
        rw [h3] at I3
        rw [inR_1] at h1 h2 h3
        have x2 := sq_bd X 30000 (by omega) (by omega)
        have y2 := sq_bd Y 30000 (by omega) (by omega)
        have z2 := sq_bd Z 30000 (by omega) (by omega)
        have m2 := sq_bd (r - 1) 30000 (by omega) (by omega)
        have e1 : wrap64 (X * X) = X * X := IntWalk.wrap64_in _ (by omega)
        have e2 : wrap64 (Y * Y) = Y * Y := IntWalk.wrap64_in _ (by omega)
        have e3 : wrap64 (Z * Z) = Z * Z := IntWalk.wrap64_in _ (by omega)
        have e4 : wrap64 (X * X + Y * Y) = X * X + Y * Y := IntWalk.wrap64_in _ (by omega)
        have e5 : wrap64 (X * X + Y * Y + Z * Z) = X * X + Y * Y + Z * Z := IntWalk.wrap64_in _ (by omega)
        have e6 : wrap64 ((r - 1) * (r - 1)) = (r - 1) * (r - 1) := IntWalk.wrap64_in _ (by omega)
        have E1 := Lib.hid e1
        have E2 := Lib.hid e2
        have E3 := Lib.hid e3
        have E4 := Lib.hid e4
        have E5 := Lib.hid e5
        have E6 := Lib.hid e6
        clear h1 h2 h3 x2 y2 z2 m2 e1 e2 e3 e4 e5 e6
        go_enter Tryd.func21, Tryd.ntmps21
        go_wp2_with fail
        refine (I1.out _).mono ?_
        rintro e w' ⟨rfl, rfl⟩
        go_wp2_with fail
        refine (I2.out _).mono ?_
        rintro e w' ⟨rfl, rfl⟩
        go_wp2_with fail
        refine (I3.out _).mono ?_
        rintro e w' ⟨rfl, rfl⟩
        go_wp2_with fail
        go_ret
        refine ⟨ret_bool (by simp only [E1.out, E2.out, E3.out, E4.out, E5.out, E6.out]), ?_⟩
        repeat (first | exact Below.refl _ _ | refine Below.setCell ?_ (by first | (simp; done) | omega | (simp; omega)) _ | refine Below.alloc ?_ (by first | (simp; done) | omega | (simp; omega)) _ | refine bel_drew ?_)

set_option maxRecDepth 100000 in
set_option maxHeartbeats 2000000 in
theorem l09View_at (g : Nat) (r X Y Z a h : Int) (r0 : 1000 ≤ r) (r1 : r ≤ 30000) (hi : inside9 r X Y Z = true) (a0 : 0 ≤ a) (a1 : a ≤ 359999) (h0 : -90000 ≤ h) (h1 : h ≤ 90000) (w : World) (c1 : w.cell? ⟨g, 1, none⟩ = some (.int .i64 r)) :
    Calls Tryd.prog 22 #[.pointer (some ⟨g, 0, none⟩), .agg #[.int .i64 X, .int .i64 Y, .int .i64 Z], .int .i64 a, .int .i64 h] w fun e w' => e = .returned (.tuple #[.int .i64 (seeA r X Y Z a h), .int .i64 (seeB r X Y Z a h), .int .i64 (seeN r X Y Z a h)]) ∧ Below w.heap.size w w' := by
  have hg := World.block_lt_of_cell? w ⟨g, 1, none⟩ c1
  have P := Lib.hid (fun (w : World) c => l09Point_at g r a h r0 r1 a0 a1 h0 h1 w c)
  have hw := way_in a h r0 r1 hi
  obtain ⟨⟨p1, p2⟩, ⟨p3, p4⟩, p5, p6⟩ := hw
  have e1 : wrap64 (poX r a h - X) = poX r a h - X := IntWalk.wrap64_in _ (by omega)
  have e2 : wrap64 (poY r a h - Y) = poY r a h - Y := IntWalk.wrap64_in _ (by omega)
  have e3 : wrap64 (poZ r a h - Z) = poZ r a h - Z := IntWalk.wrap64_in _ (by omega)
  have G := Lib.hid (fun w => l04Angles_any (poX r a h - X) (poY r a h - Y) (poZ r a h - Z) ⟨⟨p1, p2⟩, ⟨p3, p4⟩, p5, p6⟩ w)
  have L := Lib.hid (fun w => l04Length_any (poX r a h - X) (poY r a h - Y) (poZ r a h - Z) (inV_10 ⟨⟨p1, p2⟩, ⟨p3, p4⟩, p5, p6⟩) w)
  unfold seeA seeB seeN
  have lb := lonI_bd (poX r a h - X) (poY r a h - Y)
  have N := Lib.hid (fun w => l02Normal_any (90000 - lonI (poX r a h - X) (poY r a h - Y)) w (by omega) (by omega))
  change Hid (∀ w, Calls Tryd.prog 49 #[.int .i64 (90000 - lonI (poX r a h - X) (poY r a h - Y))] w fun e w' => e = .returned (.int .i64 (azI (poX r a h - X) (poY r a h - Y))) ∧ w = w') at N
  have m1 : IntKind.i64.wrap (90000 - lonI (poX r a h - X) (poY r a h - Y)) = 90000 - lonI (poX r a h - X) (poY r a h - Y) := IntWalk.i64_in _ (by omega)
  generalize azI (poX r a h - X) (poY r a h - Y) = A at *
  generalize lonI (poX r a h - X) (poY r a h - Y) = lo at *
  generalize latI (poX r a h - X) (poY r a h - Y) (poZ r a h - Z) = B at *
  generalize len3 (poX r a h - X) (poY r a h - Y) (poZ r a h - Z) = n at *
  clear p1 p2 p3 p4 p5 p6 hi r0 r1 a0 a1 h0 h1
  generalize poX r a h = x at *
  generalize poY r a h = y at *
  generalize poZ r a h = z at *
  have K1 : Hid ((w.alloc (.cells #[.int .i64 X, .int .i64 Y, .int .i64 Z] 31)).cell? ⟨g, 1, none⟩ = some (.int .i64 r)) := Lib.hid (by rw [World.cell?_alloc_lt _ _ _ hg]; exact c1)
  have S0 := Lib.hid (C3.new w 31 X Y Z)
  clear c1 hg
  go_enter Tryd.func22, Tryd.ntmps22
  go_wp2_with fail
  refine (P.out _ K1.out).mono ?_
  rintro e w1 ⟨rfl, hb⟩
  have HB1 : Hid (Below w.heap.size w w1) := Lib.hid (((Below.refl _ _).alloc (Nat.le_refl _) _).trans (hb.mono (by simp)))
  have S1 := (S0.out.on hb).alloc (S0.out.on hb).lt (.cells #[.int .i64 x, .int .i64 y, .int .i64 z] 31)
  have hsl : w.heap.size < w1.heap.size := (S0.out.on hb).lt
  clear hb
  obtain ⟨s0, s1, s2, _, _, _⟩ := S1
  go_wp2_with fail
  obtain ⟨W2, hW2⟩ : ∃ W2, W2 = (w1.alloc (.cells #[.int .i64 x, .int .i64 y, .int .i64 z] 31)).alloc (.cells #[.int .i64 (x - X), .int .i64 (y - Y), .int .i64 (z - Z)] 31) := ⟨_, rfl⟩
  have K2 : Hid (W2.cell? ⟨w1.heap.size + 1, 0, none⟩ = some (.int .i64 (x - X)) ∧ W2.cell? ⟨w1.heap.size + 1, 1, none⟩ = some (.int .i64 (y - Y)) ∧ W2.cell? ⟨w1.heap.size + 1, 2, none⟩ = some (.int .i64 (z - Z)) ∧ Below w.heap.size w W2) := Lib.hid (by rw [hW2]; exact ⟨by rw [World.cell?_alloc_at _ _ _ _ (by simp)]; rfl, by rw [World.cell?_alloc_at _ _ _ _ (by simp)]; rfl, by rw [World.cell?_alloc_at _ _ _ _ (by simp)]; rfl, (HB1.out.alloc HB1.out.size _).alloc (by simp; omega) _⟩)
  rw [← hW2]
  clear hW2 s0 s1 s2
  refine (G.out _).mono ?_
  rintro e w3 ⟨rfl, hb⟩
  have K3 := Lib.hid (keepW3 K2.out hb)
  clear hb
  obtain ⟨k0, k1, k2, k3⟩ := K3.out
  go_wp2_with fail
  go_region_held3 (fun w' => w'.cell? ⟨w1.heap.size + 1, 0, none⟩ = some (.int .i64 (x - X)) ∧ w'.cell? ⟨w1.heap.size + 1, 1, none⟩ = some (.int .i64 (y - Y)) ∧ w'.cell? ⟨w1.heap.size + 1, 2, none⟩ = some (.int .i64 (z - Z)) ∧ Below w.heap.size w w') (first | (exact keepW3 K3.out (bel_drew (Below.refl _ _))) | (exact keepW3 K3.out y2) | go_keep) ((first
    | (go_at_call 49; refine (N.out _).mono ?_; rintro e x1 ⟨rfl, rfl⟩)
    | (go_at_call 50; (with_reducible refine (L.out _).mono ?_); rintro e x2 ⟨rfl, hx2⟩; have y2 := undrewG hx2)))
  rename_i held
  have HB := Lib.hid held.2.2.2
  clear held
  go_wp2_with fail
  refine bodyPost_ret (v := .tuple #[.int .i64 A, .int .i64 B, .int .i64 n]) (by first | (simp [results, Tryd.results22, go_sem]; done) | (simp [results, Tryd.results22, go_sem]; done)) rfl ⟨rfl, ?_⟩
  repeat (first | exact Below.refl _ _ | exact HB.out | refine Below.setCell ?_ (by first | (simp; done) | omega | (simp; omega)) _ | refine Below.alloc ?_ (by first | (simp; done) | omega | (simp; omega)) _ | refine bel_drew ?_)

set_option maxRecDepth 100000 in
set_option maxHeartbeats 2000000 in
theorem specView_any (s : ByteArray) (r b X Y Z u v : Int) (w : World) :
    Calls Tryd.prog 8 #[.agg #[.string s, .int .i64 r, .int .i64 b], .agg #[.int .i64 X, .int .i64 Y, .int .i64 Z], .int .i64 u, .int .i64 v] w fun e w' => e = .returned (viewV s r b X Y Z u v) ∧ Below w.heap.size w w' := by
  unfold viewV
  have CK := Lib.hid (fun (w : World) g c0 c1 c2 => l09Ask_at g 0 s r b u v w c0 c1 c2)
  obtain ⟨W0, hW0⟩ : ∃ W0, W0 = ((w.alloc (.cells #[.string s, .int .i64 r, .int .i64 b] 29)).alloc (.cells #[.int .i64 X, .int .i64 Y, .int .i64 Z] 31)) := ⟨_, rfl⟩
  have K0 : Hid (W0.cell? ⟨w.heap.size, 0, none⟩ = some (.string s) ∧ W0.cell? ⟨w.heap.size, 1, none⟩ = some (.int .i64 r) ∧ W0.cell? ⟨w.heap.size, 2, none⟩ = some (.int .i64 b) ∧ W0.cell? ⟨w.heap.size + 1, 0, none⟩ = some (.int .i64 X) ∧ W0.cell? ⟨w.heap.size + 1, 1, none⟩ = some (.int .i64 Y) ∧ W0.cell? ⟨w.heap.size + 1, 2, none⟩ = some (.int .i64 Z) ∧ Below w.heap.size w W0) := Lib.hid (by rw [hW0]; exact ⟨by rw [World.cell?_alloc_lt _ _ _ (by first | (simp; done) | (simp; omega))]; first | (simp; done) | (rw [World.cell?_alloc_at _ _ _ _ (by first | (simp; done) | (simp; omega))]; rfl), by rw [World.cell?_alloc_lt _ _ _ (by first | (simp; done) | (simp; omega))]; first | (simp; done) | (rw [World.cell?_alloc_at _ _ _ _ (by first | (simp; done) | (simp; omega))]; rfl), by rw [World.cell?_alloc_lt _ _ _ (by first | (simp; done) | (simp; omega))]; first | (simp; done) | (rw [World.cell?_alloc_at _ _ _ _ (by first | (simp; done) | (simp; omega))]; rfl), by first | (simp; done) | (rw [World.cell?_alloc_at _ _ _ _ (by first | (simp; done) | (simp; omega))]; rfl), by first | (simp; done) | (rw [World.cell?_alloc_at _ _ _ _ (by first | (simp; done) | (simp; omega))]; rfl), by first | (simp; done) | (rw [World.cell?_alloc_at _ _ _ _ (by first | (simp; done) | (simp; omega))]; rfl), by repeat (first | exact Below.refl _ _ | refine Below.alloc ?_ (by first | (simp; done) | (simp; omega)) _)⟩)
  have SZ : Hid (W0.heap.size = w.heap.size + 1 + 1) := Lib.hid (by rw [hW0]; simp)
  have HW := Lib.hid hW0
  clear hW0
  by_cases hk : ask9 s r b u v = 0
  · rw [if_pos hk]
    obtain ⟨hd, hu⟩ := (ask9_0 _ _ _ _ _).1 hk
    rw [hk] at CK
    obtain ⟨⟨u0, u1⟩, v0, v1⟩ := upB_bd hu
    have hr := (domeB_bd hd).1
    have SE := Lib.hid (fun (W : World) c1 => l09Seat_at w.heap.size r X Y Z hr.1 hr.2 W c1)
    cases hi : inside9 r X Y Z with
    | false =>
      rw [if_neg (by simp)]
      rw [hi] at SE
      clear hk hd hu hi
      go_enter Tryd.func8, Tryd.ntmps8
      obtain ⟨k0, k1, k2, k3, k4, k5, k6⟩ := K0.out
      go_wp2_with fail
      rw [← HW.out]
      clear HW
      refine (CK.out _ _ k0 k1 k2).mono ?_
      rintro e w' ⟨rfl, rfl⟩
      go_wp2_with fail
      refine (SE.out _ k1).mono ?_
      rintro e w1 ⟨rfl, hb⟩
      have K1 := Lib.hid (keepW6 K0.out hb)
      clear hb k0 k1 k2 k3 k4 k5 k6
      obtain ⟨k0, k1, k2, k3, k4, k5, k6⟩ := K1.out
      have HB1 := Lib.hid k6
      go_wp2_with fail
      refine bodyPost_ret (v := .tuple #[.int .i64 0, .int .i64 0, .int .i64 0, .int .i64 6]) (by first | (simp [results, Tryd.results8, go_sem]; done) | (simp [results, Tryd.results8, go_sem]; done)) rfl ⟨rfl, ?_⟩
      repeat (first | exact Below.refl _ _ | exact HB1.out | refine Below.setCell ?_ (by first | (simp; done) | omega | (simp; omega)) _ | refine Below.alloc ?_ (by first | (simp; done) | omega | (simp; omega)) _ | refine bel_drew ?_)
    | true =>
      rw [if_pos rfl]
      rw [hi] at SE
      have V := Lib.hid (fun (W : World) c1 => l09View_at w.heap.size r X Y Z u v hr.1 hr.2 hi u0 u1 (by omega) v1 W c1)
      clear hk hd hu hi
      generalize seeA r X Y Z u v = A at *
      generalize seeB r X Y Z u v = B at *
      generalize seeN r X Y Z u v = n at *
      go_enter Tryd.func8, Tryd.ntmps8
      obtain ⟨k0, k1, k2, k3, k4, k5, k6⟩ := K0.out
      go_wp2_with fail
      rw [← HW.out]
      clear HW
      refine (CK.out _ _ k0 k1 k2).mono ?_
      rintro e w' ⟨rfl, rfl⟩
      go_wp2_with fail
      refine (SE.out _ k1).mono ?_
      rintro e w1 ⟨rfl, hb⟩
      have K1 := Lib.hid (keepW6 K0.out hb)
      clear hb k0 k1 k2 k3 k4 k5 k6
      obtain ⟨k0, k1, k2, k3, k4, k5, k6⟩ := K1.out
      have HB1 := Lib.hid k6
      go_wp2_with fail
      refine (V.out _ k1).mono ?_
      rintro e w2 ⟨rfl, hb⟩
      have HB2 := Lib.hid (HB1.out.trans (hb.mono HB1.out.size))
      clear hb k0 k1 k2 k3 k4 k5 k6
      go_wp2_with fail
      refine bodyPost_ret (v := .tuple #[.int .i64 A, .int .i64 B, .int .i64 n, .int .i64 0]) (by first | (simp [results, Tryd.results8, go_sem]; done) | (simp [results, Tryd.results8, go_sem]; done)) rfl ⟨rfl, ?_⟩
      repeat (first | exact Below.refl _ _ | exact HB2.out | refine Below.setCell ?_ (by first | (simp; done) | omega | (simp; omega)) _ | refine Below.alloc ?_ (by first | (simp; done) | omega | (simp; omega)) _ | refine bel_drew ?_)
  · rw [if_neg hk]
    generalize ask9 s r b u v = k at *
    have hc : (k != 0) = true := by simpa using hk
    have hc2 : (k == 0) = false := by simpa using hk
    have HB0 := Lib.hid K0.out.2.2.2.2.2.2
    clear hk
    go_enter Tryd.func8, Tryd.ntmps8
    obtain ⟨k0, k1, k2, k3, k4, k5, k6⟩ := K0.out
    go_wp2_with fail
    rw [← HW.out]
    clear HW
    refine (CK.out _ _ k0 k1 k2).mono ?_
    rintro e w' ⟨rfl, rfl⟩
    go_wp2_with fail
    refine bodyPost_ret (v := .tuple #[.int .i64 0, .int .i64 0, .int .i64 0, .int .i64 k]) (by first | (simp [results, Tryd.results8, go_sem]; done) | (simp [results, Tryd.results8, go_sem]; done)) rfl ⟨rfl, ?_⟩
    repeat (first | exact Below.refl _ _ | exact HB0.out | refine Below.setCell ?_ (by first | (simp; done) | omega | (simp; omega)) _ | refine Below.alloc ?_ (by first | (simp; done) | omega | (simp; omega)) _ | refine bel_drew ?_)
theorem fin_Dome9 : True := trivial
end

section
open Go.RowKit
set_option linter.unusedVariables false

/-- m is the greatest of some numbers and 0. -/
def IsMost (P : Int → Prop) (m : Int) : Prop := 0 ≤ m ∧ (m = 0 ∨ P m) ∧ ∀ x, P x → x ≤ m
theorem IsMost.uniq {P : Int → Prop} {m n : Int} (h : IsMost P m) (h' : IsMost P n) : m = n := by
  obtain ⟨a0, a1, a2⟩ := h
  obtain ⟨b0, b1, b2⟩ := h'
  have h1 : m ≤ n := by
    rcases a1 with h | h
    · omega
    · exact b2 _ h
  have h2 : n ≤ m := by
    rcases b1 with h | h
    · omega
    · exact a2 _ h
  omega
theorem IsMost.zero {P : Int → Prop} (h : ∀ x, ¬ P x) : IsMost P 0 := ⟨Int.le_refl _, Or.inl rfl, fun x hx => absurd hx (h x)⟩
theorem IsMost.same {P Q : Int → Prop} {m : Int} (h : IsMost P m) (hq : ∀ x, Q x ↔ P x) : IsMost Q m := ⟨h.1, h.2.1.imp id (hq m).2, fun x hx => h.2.2 x ((hq x).1 hx)⟩
theorem IsMost.add {P Q : Int → Prop} {m y : Int} (h : IsMost P m) (y0 : 0 ≤ y) (hq : ∀ x, Q x ↔ P x ∨ x = y) : IsMost Q (if y < m then m else y) := by
  obtain ⟨a0, a1, a2⟩ := h
  split
  · next c =>
    refine ⟨a0, a1.imp id (fun h => (hq _).2 (Or.inl h)), fun x hx => ?_⟩
    rcases (hq x).1 hx with h | rfl
    · exact a2 _ h
    · omega
  · next c =>
    refine ⟨y0, Or.inr ((hq _).2 (Or.inr rfl)), fun x hx => ?_⟩
    rcases (hq x).1 hx with h | rfl
    · have := a2 _ h
      omega
    · omega
open Classical in
/-- The greatest one. -/
noncomputable def mostOf (P : Int → Prop) : Int := if h : ∃ m, IsMost P m then h.choose else 0
theorem IsMost.eq {P : Int → Prop} {m : Int} (h : IsMost P m) : mostOf P = m := by
  unfold mostOf
  have e : ∃ m, IsMost P m := ⟨m, h⟩
  rw [dif_pos e]
  exact IsMost.uniq e.choose_spec h

/-- A multiple of a step. -/
def IsStep (t a : Int) : Prop := ∃ i : Nat, a = (i : Int) * t
theorem IsStep.zero (t : Int) : IsStep t 0 := ⟨0, by simp⟩
theorem IsStep.nn {t a : Int} (h : IsStep t a) (t0 : 0 < t) : 0 ≤ a := by
  obtain ⟨i, rfl⟩ := h
  exact Int.mul_nonneg (by omega) (by omega)
theorem IsStep.next {t a : Int} (h : IsStep t a) : IsStep t (a + t) := by
  obtain ⟨i, rfl⟩ := h
  exact ⟨i + 1, by rw [Int.natCast_add, Int.add_mul]; simp⟩
theorem IsStep.lt {t a b : Int} (h : IsStep t a) (h' : IsStep t b) (t0 : 0 < t) (hl : a < b + t) : a < b ∨ a = b := by
  obtain ⟨i, rfl⟩ := h
  obtain ⟨k, rfl⟩ := h'
  have e : (k : Int) * t + t = ((k + 1 : Nat) : Int) * t := by rw [Int.natCast_add, Int.add_mul]; simp
  rw [e] at hl
  have := Int.lt_of_mul_lt_mul_right hl (by omega)
  rcases (show i < k ∨ i = k by omega) with h | rfl
  · exact Or.inl (Int.mul_lt_mul_of_pos_right (by omega) t0)
  · exact Or.inr rfl

/-- The numbers of all directions that are up, by a step. -/
def AllUp (f : Int → Int → Int) (t x : Int) : Prop := ∃ a h : Int, IsStep t a ∧ IsStep t h ∧ a < 360000 ∧ h ≤ 90000 ∧ x = f a h
/-- Those behind which a walk stands, azimuth first. -/
def UpTo (f : Int → Int → Int) (t a h x : Int) : Prop := ∃ a' h' : Int, IsStep t a' ∧ IsStep t h' ∧ a' < 360000 ∧ h' ≤ 90000 ∧ (a' < a ∨ (a' = a ∧ h' < h)) ∧ x = f a' h'
theorem upTo_none (f : Int → Int → Int) (t : Int) (t0 : 0 < t) (x : Int) : ¬ UpTo f t 0 0 x := by
  rintro ⟨a', h', ha, hh, _, _, hl, _⟩
  have := ha.nn t0
  have := hh.nn t0
  omega
theorem upTo_step (f : Int → Int → Int) (t a h : Int) (t0 : 0 < t) (sa : IsStep t a) (sh : IsStep t h) (al : a < 360000) (hl : h ≤ 90000) (x : Int) : UpTo f t a (h + t) x ↔ UpTo f t a h x ∨ x = f a h := by
  constructor
  · rintro ⟨a', h', ha, hh, la, lh, hc, rfl⟩
    rcases hc with c | ⟨rfl, c⟩
    · exact Or.inl ⟨a', h', ha, hh, la, lh, Or.inl c, rfl⟩
    · rcases hh.lt sh t0 c with c' | rfl
      · exact Or.inl ⟨a', h', ha, hh, la, lh, Or.inr ⟨rfl, c'⟩, rfl⟩
      · exact Or.inr rfl
  · rintro (⟨a', h', ha, hh, la, lh, hc, rfl⟩ | rfl)
    · exact ⟨a', h', ha, hh, la, lh, by omega, rfl⟩
    · exact ⟨a, h, sa, sh, al, hl, Or.inr ⟨rfl, by omega⟩, rfl⟩
theorem upTo_turn (f : Int → Int → Int) (t a h : Int) (t0 : 0 < t) (sa : IsStep t a) (hl : 90000 < h) (x : Int) : UpTo f t (a + t) 0 x ↔ UpTo f t a h x := by
  constructor
  · rintro ⟨a', h', ha, hh, la, lh, hc, rfl⟩
    have := hh.nn t0
    rcases ha.lt sa t0 (by omega) with c | rfl
    · exact ⟨a', h', ha, hh, la, lh, Or.inl c, rfl⟩
    · exact ⟨a', h', ha, hh, la, lh, Or.inr ⟨rfl, by omega⟩, rfl⟩
  · rintro ⟨a', h', ha, hh, la, lh, hc, rfl⟩
    exact ⟨a', h', ha, hh, la, lh, by omega, rfl⟩
theorem upTo_all (f : Int → Int → Int) (t a : Int) (hl : 360000 ≤ a) (x : Int) : AllUp f t x ↔ UpTo f t a 0 x := by
  constructor
  · rintro ⟨a', h', ha, hh, la, lh, rfl⟩
    exact ⟨a', h', ha, hh, la, lh, by omega, rfl⟩
  · rintro ⟨a', h', ha, hh, la, lh, hc, rfl⟩
    exact ⟨a', h', ha, hh, la, lh, rfl⟩

theorem azI_bd (x y : Int) : 0 ≤ azI x y ∧ azI x y ≤ 359999 := by
  have := nrm_bd (90000 - lonI x y)
  unfold azI
  omega
theorem latI_bd (x y z : Int) : -90000 ≤ latI x y z ∧ latI x y z ≤ 90000 := by
  unfold latI
  have hr : 0 ≤ rootI (x * x + y * y) := by
    unfold rootI
    omega
  generalize rootI (x * x + y * y) = q at *
  have hb := base_bd z q
  unfold dirI
  have hn : nrm (-base z q) = if base z q = 0 then 0 else 360000 - base z q := by
    unfold nrm
    split <;> omega
  rw [hn]
  split
  · split <;> omega
  · split
    · omega
    · split <;> split <;> omega

/-- The error of what a seat sees. -/
def err9 (r X Y Z a h : Int) : Int := sep9 a h (seeA r X Y Z a h) (seeB r X Y Z a h)
theorem err9_bd (r X Y Z a h : Int) : 0 ≤ err9 r X Y Z a h ∧ err9 r X Y Z a h < 360000 := sepX_bd _ _ _ _ _ _
/-- The greatest one. -/
noncomputable def worst9 (r X Y Z t : Int) : Int := mostOf (AllUp (err9 r X Y Z) t)

set_option maxRecDepth 100000 in
set_option maxHeartbeats 4000000 in
theorem l09Worst_at (g : Nat) (r X Y Z t : Int) (r0 : 1000 ≤ r) (r1 : r ≤ 30000) (hi : inside9 r X Y Z = true) (t0 : 15000 ≤ t) (t1 : t ≤ 90000) (w : World) (c1 : w.cell? ⟨g, 1, none⟩ = some (.int .i64 r)) :
    Calls Tryd.prog 30 #[.pointer (some ⟨g, 0, none⟩), .agg #[.int .i64 X, .int .i64 Y, .int .i64 Z], .int .i64 t] w fun e w' => e = .returned (.int .i64 (worst9 r X Y Z t)) ∧ Below w.heap.size w w' := by
  have hg := World.block_lt_of_cell? w ⟨g, 1, none⟩ c1
  have V := Lib.hid (fun (W : World) a h a0 a1 h0 h1 c => l09View_at g r X Y Z a h r0 r1 hi a0 a1 h0 h1 W c)
  have AP := Lib.hid (fun (W : World) a h a0 a1 h0 h1 => l09Apart_any a h (seeA r X Y Z a h) (seeB r X Y Z a h) a0 a1 h0 h1 (azI_bd _ _).1 (azI_bd _ _).2 (latI_bd _ _ _).1 (latI_bd _ _ _).2 W)
  have EB := Lib.hid (err9_bd r X Y Z)
  have EF : Hid (∀ a h, sep9 a h (seeA r X Y Z a h) (seeB r X Y Z a h) = err9 r X Y Z a h) := Lib.hid (fun a h => rfl)
  have WE : Hid (∀ m, IsMost (AllUp (err9 r X Y Z) t) m → worst9 r X Y Z t = m) := Lib.hid (fun m h => h.eq)
  generalize worst9 r X Y Z t = wv at *
  generalize err9 r X Y Z = f at *
  generalize seeA r X Y Z = A at *
  generalize seeB r X Y Z = B at *
  generalize seeN r X Y Z = n at *
  obtain ⟨W0, hW0⟩ : ∃ W0, W0 = (w.alloc (.cells #[.int .i64 X, .int .i64 Y, .int .i64 Z] 31)) := ⟨_, rfl⟩
  have K0 : Hid (W0.cell? ⟨g, 1, none⟩ = some (.int .i64 r) ∧ W0.cell? ⟨w.heap.size, 0, none⟩ = some (.int .i64 X) ∧ W0.cell? ⟨w.heap.size, 1, none⟩ = some (.int .i64 Y) ∧ W0.cell? ⟨w.heap.size, 2, none⟩ = some (.int .i64 Z) ∧ Below w.heap.size w W0) := Lib.hid (by rw [hW0]; exact ⟨by rw [World.cell?_alloc_lt _ _ _ hg]; exact c1, by rw [World.cell?_alloc_at _ _ _ _ (by simp)]; rfl, by rw [World.cell?_alloc_at _ _ _ _ (by simp)]; rfl, by rw [World.cell?_alloc_at _ _ _ _ (by simp)]; rfl, (Below.refl _ _).alloc (Nat.le_refl _) _⟩)
  have HW := Lib.hid hW0
  clear hW0 c1 hg hi r0 r1
  go_enter Tryd.func30, Tryd.ntmps30
  go_wp2_with fail
  rw [← HW.out]
  clear HW
  go_loopg [7, 8, 9, 10, 11, 12] 450000 (fun kx s7 s8 s9 s10 s11 s12 wr => ∃ m a : Int, s7 = .int .i64 m ∧ s8 = .int .i64 a ∧ IsStep t a ∧ IsMost (UpTo f t a 0) m ∧ 0 ≤ m ∧ m < 360000 ∧ a < 450000 ∧ kx = (450000 - a).toNat ∧ Hid (wr.cell? ⟨g, 1, none⟩ = some (.int .i64 r) ∧ wr.cell? ⟨w.heap.size, 0, none⟩ = some (.int .i64 X) ∧ wr.cell? ⟨w.heap.size, 1, none⟩ = some (.int .i64 Y) ∧ wr.cell? ⟨w.heap.size, 2, none⟩ = some (.int .i64 Z) ∧ Below w.heap.size w wr))
  case atStart => exact ⟨0, 0, rfl, rfl, IsStep.zero t, IsMost.zero (upTo_none f t (by omega)), by omega, by omega, by omega, rfl, K0⟩
  case round =>
    obtain ⟨m, a, rfl, rfl, sa, hm, m0, m1, al, rfl, KA⟩ := hrel
    have a0 := sa.nn (by omega)
    by_cases hlt : a < 360000
    · go_wp2_with fail
      go_loopg [7, 9, 10, 11, 12] 200000 (fun kx s7 s9 s10 s11 s12 wr => ∃ m h : Int, s7 = .int .i64 m ∧ s9 = .int .i64 h ∧ IsStep t h ∧ IsMost (UpTo f t a h) m ∧ 0 ≤ m ∧ m < 360000 ∧ h < 200000 ∧ kx = (200000 - h).toNat ∧ Hid (wr.cell? ⟨g, 1, none⟩ = some (.int .i64 r) ∧ wr.cell? ⟨w.heap.size, 0, none⟩ = some (.int .i64 X) ∧ wr.cell? ⟨w.heap.size, 1, none⟩ = some (.int .i64 Y) ∧ wr.cell? ⟨w.heap.size, 2, none⟩ = some (.int .i64 Z) ∧ Below w.heap.size w wr))
      case atStart => exact ⟨m, 0, rfl, rfl, IsStep.zero t, hm, m0, m1, by omega, rfl, KA⟩
      case round =>
        clear hm m0 m1 KA
        obtain ⟨m, h, rfl, rfl, sh, hm, m0, m1, hl, rfl, KA⟩ := hrel
        have h0 := sh.nn (by omega)
        by_cases hlt2 : h ≤ 90000
        · have VV := Lib.hid (fun (W : World) c => V.out W a h a0 (by omega) (by omega) hlt2 c)
          have AA := Lib.hid (fun (W : World) => AP.out W a h a0 (by omega) (by omega) hlt2)
          rw [EF.out] at AA
          have fb := EB.out a h
          have hm' := Lib.hid (hm.add fb.1 (upTo_step f t a h (by omega) sa sh hlt hlt2))
          have MX := Lib.hid (fun w => l00Max_any m (f a h) w)
          have wh : IntKind.i64.wrap (h + t) = h + t := IntWalk.i64_in _ (by omega)
          have nm : 0 ≤ (if f a h < m then m else f a h) ∧ (if f a h < m then m else f a h) < 360000 := by split <;> omega
          generalize (if f a h < m then m else f a h) = m' at *
          generalize f a h = fr at *
          generalize A a h = p at *
          generalize B a h = q at *
          generalize n a h = nn at *
          obtain ⟨k0, k1, k2, k3, k4⟩ := KA.out
          have HB := Lib.hid k4
          go_wp2_with fail
          refine (VV.out _ k0).mono ?_
          rintro e w1 ⟨rfl, hb⟩
          have K1 := Lib.hid (keepW4 KA.out hb)
          clear hb k0 k1 k2 k3 k4
          obtain ⟨k0, k1, k2, k3, k4⟩ := K1.out
          go_wp2_with fail
          refine (AA.out _).mono ?_
          rintro e w2 ⟨rfl, hb⟩
          have HH := Lib.hid (keepW4 K1.out hb)
          clear hb k0 k1 k2 k3 k4 K1
          go_wp2_with fail
          refine (MX.out _).mono ?_
          rintro e w3 ⟨rfl, rfl⟩
          go_wp2_with fail
          go_roundg ((200000 - (h + t)).toNat)
          case measure => omega
          case rel => exact ⟨m', h + t, by first | rfl | (rw [wh]; rfl) | simp [wh], by first | rfl | (rw [wh]) | simp [wh], sh.next, hm'.out, nm.1, nm.2, by omega, rfl, HH⟩
        · have wa : IntKind.i64.wrap (a + t) = a + t := IntWalk.i64_in _ (by omega)
          have hm' := hm.same (upTo_turn f t a h (by omega) sa (by omega))
          go_wp2_with fail
          go_roundg ((450000 - (a + t)).toNat)
          case measure => omega
          case rel => exact ⟨m, a + t, by first | rfl | simp [wa], by first | rfl | (rw [wa]) | simp [wa], sa.next, hm', m0, m1, by omega, rfl, KA⟩
    · have hw := WE.out m (hm.same (upTo_all f t a (by omega)))
      obtain ⟨k0, k1, k2, k3, k4⟩ := KA.out
      have HB := Lib.hid k4
      go_wp2_with fail
      go_ret
      exact ⟨by subst hw; rfl, HB.out⟩
/-- What WorstView returns. -/
noncomputable def worstV9 (s : ByteArray) (r b X Y Z t : Int) : Value := if domeB s r b = true then (if inR 15000 90000 [t] = true then (if inside9 r X Y Z = true then .tuple #[.int .i64 (worst9 r X Y Z t), .int .i64 0] else .tuple #[.int .i64 0, .int .i64 6]) else .tuple #[.int .i64 0, .int .i64 2]) else .tuple #[.int .i64 0, .int .i64 1]
theorem worstV9_form (s : ByteArray) (r b X Y Z t : Int) : ∃ x c : Int, worstV9 s r b X Y Z t = .tuple #[.int .i64 x, .int .i64 c] := by
  unfold worstV9
  split
  · split
    · split <;> exact ⟨_, _, rfl⟩
    · exact ⟨_, _, rfl⟩
  · exact ⟨_, _, rfl⟩
set_option maxRecDepth 100000 in
set_option maxHeartbeats 2000000 in
theorem specWorst_any (s : ByteArray) (r b X Y Z t : Int) (w : World) :
    Calls Tryd.prog 12 #[.agg #[.string s, .int .i64 r, .int .i64 b], .agg #[.int .i64 X, .int .i64 Y, .int .i64 Z], .int .i64 t] w fun e w' => e = .returned (worstV9 s r b X Y Z t) ∧ Below w.heap.size w w' := by
  unfold worstV9
  have CK := Lib.hid (fun (w : World) g c0 c1 c2 => l09Ok_at g 0 s r b w c0 c1 c2)
  have IR := Lib.hid (fun w => l00In_any t 15000 90000 w)
  obtain ⟨W0, hW0⟩ : ∃ W0, W0 = ((w.alloc (.cells #[.string s, .int .i64 r, .int .i64 b] 29)).alloc (.cells #[.int .i64 X, .int .i64 Y, .int .i64 Z] 31)) := ⟨_, rfl⟩
  have K0 : Hid (W0.cell? ⟨w.heap.size, 0, none⟩ = some (.string s) ∧ W0.cell? ⟨w.heap.size, 1, none⟩ = some (.int .i64 r) ∧ W0.cell? ⟨w.heap.size, 2, none⟩ = some (.int .i64 b) ∧ W0.cell? ⟨w.heap.size + 1, 0, none⟩ = some (.int .i64 X) ∧ W0.cell? ⟨w.heap.size + 1, 1, none⟩ = some (.int .i64 Y) ∧ W0.cell? ⟨w.heap.size + 1, 2, none⟩ = some (.int .i64 Z) ∧ Below w.heap.size w W0) := Lib.hid (by rw [hW0]; exact ⟨by rw [World.cell?_alloc_lt _ _ _ (by first | (simp; done) | (simp; omega))]; first | (simp; done) | (rw [World.cell?_alloc_at _ _ _ _ (by first | (simp; done) | (simp; omega))]; rfl), by rw [World.cell?_alloc_lt _ _ _ (by first | (simp; done) | (simp; omega))]; first | (simp; done) | (rw [World.cell?_alloc_at _ _ _ _ (by first | (simp; done) | (simp; omega))]; rfl), by rw [World.cell?_alloc_lt _ _ _ (by first | (simp; done) | (simp; omega))]; first | (simp; done) | (rw [World.cell?_alloc_at _ _ _ _ (by first | (simp; done) | (simp; omega))]; rfl), by first | (simp; done) | (rw [World.cell?_alloc_at _ _ _ _ (by first | (simp; done) | (simp; omega))]; rfl), by first | (simp; done) | (rw [World.cell?_alloc_at _ _ _ _ (by first | (simp; done) | (simp; omega))]; rfl), by first | (simp; done) | (rw [World.cell?_alloc_at _ _ _ _ (by first | (simp; done) | (simp; omega))]; rfl), by repeat (first | exact Below.refl _ _ | refine Below.alloc ?_ (by first | (simp; done) | (simp; omega)) _)⟩)
  have HW := Lib.hid hW0
  clear hW0
  cases hd : domeB s r b with
  | false =>
    rw [if_neg (by simp)]
    rw [hd] at CK
    have HB0 := Lib.hid K0.out.2.2.2.2.2.2
    clear hd IR
    go_enter Tryd.func12, Tryd.ntmps12
    obtain ⟨k0, k1, k2, k3, k4, k5, k6⟩ := K0.out
    go_wp2_with fail
    rw [← HW.out]
    clear HW
    refine (CK.out _ _ k0 k1 k2).mono ?_
    rintro e w' ⟨rfl, rfl⟩
    go_wp2_with fail
    refine bodyPost_ret (v := .tuple #[.int .i64 0, .int .i64 1]) (by first | (simp [results, Tryd.results12, go_sem]; done) | (simp [results, Tryd.results12, go_sem]; done)) rfl ⟨rfl, ?_⟩
    repeat (first | exact Below.refl _ _ | exact HB0.out | refine Below.setCell ?_ (by first | (simp; done) | omega | (simp; omega)) _ | refine Below.alloc ?_ (by first | (simp; done) | omega | (simp; omega)) _ | refine bel_drew ?_)
  | true =>
    rw [if_pos rfl]
    rw [hd] at CK
    have hr := (domeB_bd hd).1
    clear hd
    cases ht : inR 15000 90000 [t] with
    | false =>
      rw [if_neg (by simp)]
      rw [ht] at IR
      have HB0 := Lib.hid K0.out.2.2.2.2.2.2
      clear ht hr
      go_enter Tryd.func12, Tryd.ntmps12
      obtain ⟨k0, k1, k2, k3, k4, k5, k6⟩ := K0.out
      go_wp2_with fail
      rw [← HW.out]
      clear HW
      refine (CK.out _ _ k0 k1 k2).mono ?_
      rintro e w' ⟨rfl, rfl⟩
      go_wp2_with fail
      refine (IR.out _).mono ?_
      rintro e w' ⟨rfl, rfl⟩
      go_wp2_with fail
      refine bodyPost_ret (v := .tuple #[.int .i64 0, .int .i64 2]) (by first | (simp [results, Tryd.results12, go_sem]; done) | (simp [results, Tryd.results12, go_sem]; done)) rfl ⟨rfl, ?_⟩
      repeat (first | exact Below.refl _ _ | exact HB0.out | refine Below.setCell ?_ (by first | (simp; done) | omega | (simp; omega)) _ | refine Below.alloc ?_ (by first | (simp; done) | omega | (simp; omega)) _ | refine bel_drew ?_)
    | true =>
      rw [if_pos rfl]
      rw [ht] at IR
      rw [inR_1] at ht
      have SE := Lib.hid (fun (W : World) c1 => l09Seat_at w.heap.size r X Y Z hr.1 hr.2 W c1)
      cases hi : inside9 r X Y Z with
      | false =>
        rw [if_neg (by simp)]
        rw [hi] at SE
        clear ht hr hi
        go_enter Tryd.func12, Tryd.ntmps12
        obtain ⟨k0, k1, k2, k3, k4, k5, k6⟩ := K0.out
        go_wp2_with fail
        rw [← HW.out]
        clear HW
        refine (CK.out _ _ k0 k1 k2).mono ?_
        rintro e w' ⟨rfl, rfl⟩
        go_wp2_with fail
        refine (IR.out _).mono ?_
        rintro e w' ⟨rfl, rfl⟩
        go_wp2_with fail
        refine (SE.out _ k1).mono ?_
        rintro e w1 ⟨rfl, hb⟩
        have K1 := Lib.hid (keepW6 K0.out hb)
        clear hb k0 k1 k2 k3 k4 k5 k6
        have HB1 := Lib.hid K1.out.2.2.2.2.2.2
        go_wp2_with fail
        refine bodyPost_ret (v := .tuple #[.int .i64 0, .int .i64 6]) (by first | (simp [results, Tryd.results12, go_sem]; done) | (simp [results, Tryd.results12, go_sem]; done)) rfl ⟨rfl, ?_⟩
        repeat (first | exact Below.refl _ _ | exact HB1.out | refine Below.setCell ?_ (by first | (simp; done) | omega | (simp; omega)) _ | refine Below.alloc ?_ (by first | (simp; done) | omega | (simp; omega)) _ | refine bel_drew ?_)
      | true =>
        rw [if_pos rfl]
        rw [hi] at SE
        have V := Lib.hid (fun (W : World) c1 => l09Worst_at w.heap.size r X Y Z t hr.1 hr.2 hi ht.1 ht.2 W c1)
        clear ht hr hi
        generalize worst9 r X Y Z t = A at *
        go_enter Tryd.func12, Tryd.ntmps12
        obtain ⟨k0, k1, k2, k3, k4, k5, k6⟩ := K0.out
        go_wp2_with fail
        rw [← HW.out]
        clear HW
        refine (CK.out _ _ k0 k1 k2).mono ?_
        rintro e w' ⟨rfl, rfl⟩
        go_wp2_with fail
        refine (IR.out _).mono ?_
        rintro e w' ⟨rfl, rfl⟩
        go_wp2_with fail
        refine (SE.out _ k1).mono ?_
        rintro e w1 ⟨rfl, hb⟩
        have K1 := Lib.hid (keepW6 K0.out hb)
        clear hb k0 k1 k2 k3 k4 k5 k6
        obtain ⟨k0, k1, k2, k3, k4, k5, k6⟩ := K1.out
        have HB1 := Lib.hid k6
        go_wp2_with fail
        refine (V.out _ k1).mono ?_
        rintro e w2 ⟨rfl, hb⟩
        have HB2 := Lib.hid (HB1.out.trans (hb.mono HB1.out.size))
        clear hb k0 k1 k2 k3 k4 k5 k6
        go_wp2_with fail
        refine bodyPost_ret (v := .tuple #[.int .i64 A, .int .i64 0]) (by first | (simp [results, Tryd.results12, go_sem]; done) | (simp [results, Tryd.results12, go_sem]; done)) rfl ⟨rfl, ?_⟩
        repeat (first | exact Below.refl _ _ | exact HB2.out | refine Below.setCell ?_ (by first | (simp; done) | omega | (simp; omega)) _ | refine Below.alloc ?_ (by first | (simp; done) | omega | (simp; omega)) _ | refine bel_drew ?_)
theorem fin_Dome10 : True := trivial
end

section
open Go.RowKit
set_option linter.unusedVariables false

/-- How many azimuths there are, and how many altitudes. -/
def azN (t : Int) : Nat := (359999 / t + 1).toNat
def alN (t : Int) : Nat := (90000 / t + 1).toNat
def rowU (t h : Int) (n : Nat) : List (Int × Int) := (List.range n).map (fun i : Nat => ((i : Int) * t, h))
def upsN (t : Int) (k : Nat) : List (Int × Int) := (List.range k).flatMap (fun j : Nat => rowU t ((j : Int) * t) (azN t))
def upsL (t : Int) : List (Int × Int) := upsN t (alN t)
theorem rowU_next (t h : Int) (n : Nat) : rowU t h (n + 1) = rowU t h n ++ [((n : Int) * t, h)] := by
  unfold rowU
  rw [List.range_succ, List.map_append]
  rfl
theorem upsN_next (t : Int) (k : Nat) : upsN t (k + 1) = upsN t k ++ rowU t ((k : Int) * t) (azN t) := by
  unfold upsN
  rw [List.range_succ, List.flatMap_append]
  simp
theorem rowU_len (t h : Int) (n : Nat) : (rowU t h n).length = n := by simp [rowU]
theorem upsN_len (t : Int) (k : Nat) : (upsN t k).length = k * azN t := by
  induction k with
  | zero => simp [upsN]
  | succ k ih => rw [upsN_next, List.length_append, ih, rowU_len, Nat.succ_mul]
theorem mul_next (t : Int) (i : Nat) : (i : Int) * t + t = ((i + 1 : Nat) : Int) * t := by rw [Int.natCast_add, Int.add_mul]; simp
theorem az_lt (t : Int) (t0 : 0 < t) (i : Nat) : (i : Int) * t < 360000 ↔ i < azN t := by
  have h := Int.le_ediv_iff_mul_le (a := (i : Int)) (b := 359999) t0
  have h0 : 0 ≤ 359999 / t := Int.ediv_nonneg (by omega) (by omega)
  unfold azN
  generalize (i : Int) * t = a at *
  generalize 359999 / t = q at *
  constructor
  · intro hl
    have := h.2 (by omega)
    omega
  · intro hl
    have := h.1 (by omega)
    omega
theorem al_le (t : Int) (t0 : 0 < t) (i : Nat) : (i : Int) * t ≤ 90000 ↔ i < alN t := by
  have h := Int.le_ediv_iff_mul_le (a := (i : Int)) (b := 90000) t0
  have h0 : 0 ≤ 90000 / t := Int.ediv_nonneg (by omega) (by omega)
  unfold alN
  generalize (i : Int) * t = a at *
  generalize 90000 / t = q at *
  constructor
  · intro hl
    have := h.2 (by omega)
    omega
  · intro hl
    have := h.1 (by omega)
    omega
theorem azN_bd (t : Int) (t0 : 10000 ≤ t) : 0 < azN t ∧ azN t ≤ 36 := by
  have h0 : 0 ≤ 359999 / t := Int.ediv_nonneg (by omega) (by omega)
  have h1 : 359999 / t ≤ 35 := by
    have := Int.ediv_lt_of_lt_mul (a := 359999) (b := 36) (c := t) (by omega) (by omega)
    omega
  unfold azN
  omega
theorem alN_bd (t : Int) (t0 : 10000 ≤ t) : 0 < alN t ∧ alN t ≤ 10 := by
  have h0 : 0 ≤ 90000 / t := Int.ediv_nonneg (by omega) (by omega)
  have h1 : 90000 / t ≤ 9 := by
    have := Int.ediv_lt_of_lt_mul (a := 90000) (b := 10) (c := t) (by omega) (by omega)
    omega
  unfold alN
  omega
theorem az_bd (t : Int) (t0 : 0 < t) (t1 : t ≤ 90000) (i : Nat) (hi : i ≤ azN t) : 0 ≤ (i : Int) * t ∧ (i : Int) * t < 450000 := by
  refine ⟨Int.mul_nonneg (by omega) (by omega), ?_⟩
  rcases Nat.eq_zero_or_pos i with rfl | hp
  · simp
  · obtain ⟨k, rfl⟩ : ∃ k, i = k + 1 := ⟨i - 1, by omega⟩
    have := (az_lt t t0 k).2 (by omega)
    rw [← mul_next]
    omega
theorem al_bd (t : Int) (t0 : 0 < t) (t1 : t ≤ 90000) (i : Nat) (hi : i ≤ alN t) : 0 ≤ (i : Int) * t ∧ (i : Int) * t ≤ 180000 := by
  refine ⟨Int.mul_nonneg (by omega) (by omega), ?_⟩
  rcases Nat.eq_zero_or_pos i with rfl | hp
  · simp
  · obtain ⟨k, rfl⟩ : ∃ k, i = k + 1 := ⟨i - 1, by omega⟩
    have := (al_le t t0 k).2 (by omega)
    rw [← mul_next]
    omega
theorem upsN_bd (t : Int) (t0 : 10000 ≤ t) (k : Nat) (hk : k ≤ alN t) : (upsN t k).length ≤ 360 := by
  have h1 := azN_bd t t0
  have h2 := alN_bd t t0
  rw [upsN_len]
  have := Nat.mul_le_mul (show k ≤ 10 by omega) h1.2
  omega
theorem upsL_pos (t : Int) (t0 : 10000 ≤ t) : 0 < (upsL t).length := by
  have h1 := azN_bd t t0
  have h2 := alN_bd t t0
  unfold upsL
  rw [upsN_len]
  exact Nat.mul_pos h2.1 h1.1
/-- Where they lie. -/
theorem upsL_in (t : Int) (t0 : 0 < t) (p : Int × Int) (hp : p ∈ upsL t) : (0 ≤ p.1 ∧ p.1 ≤ 359999) ∧ 0 ≤ p.2 ∧ p.2 ≤ 90000 := by
  unfold upsL upsN rowU at hp
  simp only [List.mem_flatMap, List.mem_range, List.mem_map] at hp
  obtain ⟨k, hk, i, hi, rfl⟩ := hp
  have h1 := (az_lt t t0 i).2 hi
  have h2 := (al_le t t0 k).2 hk
  have h3 : 0 ≤ (i : Int) * t := Int.mul_nonneg (by omega) (by omega)
  have h4 : 0 ≤ (k : Int) * t := Int.mul_nonneg (by omega) (by omega)
  exact ⟨⟨h3, by show (i : Int) * t ≤ 359999; omega⟩, h4, h2⟩
theorem mem_upsL (t : Int) (t0 : 0 < t) (p : Int × Int) : p ∈ upsL t ↔ (∃ i : Nat, p.1 = (i : Int) * t) ∧ (∃ i : Nat, p.2 = (i : Int) * t) ∧ p.1 < 360000 ∧ p.2 ≤ 90000 := by
  unfold upsL upsN rowU
  simp only [List.mem_flatMap, List.mem_range, List.mem_map]
  constructor
  · rintro ⟨k, hk, i, hi, rfl⟩
    exact ⟨⟨i, rfl⟩, ⟨k, rfl⟩, (az_lt t t0 i).2 hi, (al_le t t0 k).2 hk⟩
  · obtain ⟨a, h⟩ := p
    rintro ⟨⟨i, ha⟩, ⟨k, hh⟩, hl, hm⟩
    simp only at ha hh hl hm
    subst ha hh
    exact ⟨k, (al_le t t0 k).1 hm, i, (az_lt t t0 i).1 hl, rfl⟩
theorem fin_UpsM : True := trivial
end

section
open Go.RowKit
set_option linter.unusedVariables false

theorem info_dirn : (Tryd.prog.info? 54).map (fun i => (i.zero, i.size, i.bytes)) = some (some (.agg #[.int .i64 0, .int .i64 0]), 2, 16) := by kernel_rfl
/-- The cells of directions in a row. -/
def flatD : List (Int × Int) → List Value
  | [] => []
  | p :: L => .int .i64 p.1 :: .int .i64 p.2 :: flatD L
theorem flatD_app (L M : List (Int × Int)) : flatD (L ++ M) = flatD L ++ flatD M := by
  induction L with
  | nil => rfl
  | cons p L ih => simp [flatD, ih]
theorem flatD_at (L : List (Int × Int)) (j : Nat) (hj : j < L.length) : (flatD L)[j * 2]? = some (.int .i64 L[j].1) ∧ (flatD L)[j * 2 + 1]? = some (.int .i64 L[j].2) := by
  induction L generalizing j with
  | nil => simp at hj
  | cons p L ih =>
    match j, hj with
    | 0, _ => exact ⟨rfl, rfl⟩
    | j + 1, hj =>
      have := ih j (by simpa using hj)
      rw [show (j + 1) * 2 = j * 2 + 1 + 1 by omega]
      exact ⟨this.1, this.2⟩
theorem own_belowD {B : Nat} {w0 w w1 : World} {e : TypeId} {v : Value} {n : Nat} {xs : List Value} {o : Obj} (hown : w.ownsRow B e 2 v n xs) (hb : Below B w0 w) (hB : B ≤ w.heap.size)
    (hg : (w.alloc o).grownBy w1 v.ownBlock) : Below B w0 w1 ∧ B ≤ w1.heap.size := by
  refine ⟨(hb.alloc hB o).grown hg (by simp; omega) (fun k hk => (hown.lt k hk).1), ?_⟩
  have := hg.size
  simp at this
  omega
theorem two_cellsD (w : World) (T : TypeId) (a h : Int) : ∀ (j : Nat) u, [Value.int .i64 a, Value.int .i64 h][j]? = some u → (w.alloc (.cells #[.int .i64 a, .int .i64 h] T)).cell? ((⟨w.heap.size, 0, none⟩ : Addr).add j) = some u := by
  intro j u hj
  match j, hj with
  | 0, hj => simp at hj; subst hj; simp [Addr.add]
  | 1, hj => simp at hj; subst hj; simp [Addr.add]
theorem two_plainD (a h : Int) : ∀ u ∈ [Value.int .i64 a, Value.int .i64 h], u.oneCell' = true := by
  intro u hu
  simp at hu
  rcases hu with rfl | rfl <;> rfl

set_option maxRecDepth 100000 in
set_option maxHeartbeats 4000000 in
theorem directionsUp_any (t : Int) (t0 : 10000 ≤ t) (t1 : t ≤ 90000) (w : World) :
    Calls Tryd.prog 33 #[.int .i64 t] w fun e w' => ∃ v : Value, e = .returned v ∧ w'.ownsRow w.heap.size 54 2 v (upsL t).length (flatD (upsL t)) ∧ Below w.heap.size w w' := by
  have ST : Hid ((w.alloc (.cells #[] 54)).ownsRow w.heap.size 54 2 (.slice (some ⟨w.heap.size, 0, none⟩) 0 0) ([] : List (Int × Int)).length (flatD [])) := Lib.hid (World.ownsRow_lit (base := w.heap.size) (e := 54) (size := 2) w #[] 0 (Nat.le_refl _) (by decide) rfl)
  have HB0 : Hid (Below w.heap.size w (w.alloc (.cells #[] 54))) := Lib.hid ((Below.refl _ _).alloc (Nat.le_refl _) _)
  obtain ⟨i0, hi, hzz⟩ := Option.map_eq_some_iff.1 info_dirn
  simp only [Prod.mk.injEq] at hzz
  obtain ⟨hz0, hz1, hz2⟩ := hzz
  have HI0 := Lib.hid hi
  have HZ0 := Lib.hid hz0
  have HZ1 := Lib.hid hz1
  have HZ2 := Lib.hid hz2
  clear hi hz0 hz1 hz2
  go_enter Tryd.func33, Tryd.ntmps33
  go_wp2_with fail
  go_loopg [3, 4, 5] (alN t + 1) (fun kx s3 s4 s5 wr => ∃ k : Nat, s4 = .int .i64 ((k : Int) * t) ∧ k ≤ alN t ∧ kx = alN t + 1 - k ∧ Hid (wr.ownsRow w.heap.size 54 2 s3 (upsN t k).length (flatD (upsN t k))) ∧ Hid (Below w.heap.size w wr))
  case atStart => exact ⟨0, by simp, Nat.zero_le _, rfl, ST, HB0⟩
  case round =>
    obtain ⟨k, rfl, hk, rfl, HO, HB⟩ := hrel
    have hb := al_bd t (by omega) t1 k hk
    have hle := al_le t (by omega) k
    have wh : IntKind.i64.wrap ((k : Int) * t + t) = (k : Int) * t + t := IntWalk.i64_in _ (by omega)
    have NH := Lib.hid (mul_next t k)
    have UN := Lib.hid (upsN_next t k)
    have UB := Lib.hid (upsN_bd t t0 k hk)
    by_cases hlt : (k : Int) * t ≤ 90000
    · have hk2 := hle.1 hlt
      generalize hh : (k : Int) * t = h at *
      go_wp2_with fail
      go_loopg [3, 5] (azN t + 1) (fun kx s3 s5 wr => ∃ i : Nat, s5 = .int .i64 ((i : Int) * t) ∧ i ≤ azN t ∧ kx = azN t + 1 - i ∧ Hid (wr.ownsRow w.heap.size 54 2 s3 (upsN t k ++ rowU t h i).length (flatD (upsN t k ++ rowU t h i))) ∧ Hid (Below w.heap.size w wr))
      case atStart => exact ⟨0, by simp, Nat.zero_le _, rfl, by simpa [rowU] using HO, HB⟩
      case round =>
        clear HO HB
        obtain ⟨i, rfl, hi, rfl, HO, HB⟩ := hrel
        have hb2 := az_bd t (by omega) t1 i hi
        have hle2 := az_lt t (by omega) i
        have wa : IntKind.i64.wrap ((i : Int) * t + t) = (i : Int) * t + t := IntWalk.i64_in _ (by omega)
        have NA := Lib.hid (mul_next t i)
        have RN : Hid (upsN t k ++ rowU t h (i + 1) = (upsN t k ++ rowU t h i) ++ [((i : Int) * t, h)]) := Lib.hid (by rw [rowU_next, List.append_assoc])
        have az := azN_bd t t0
        by_cases hlt2 : (i : Int) * t < 360000
        · have hi2 := hle2.1 hlt2
          have hn : (upsN t k ++ rowU t h i).length ≤ 400 := by
            have := UB.out
            rw [List.length_append, rowU_len]
            omega
          generalize upsN t k ++ rowU t h i = L at *
          generalize ha : (i : Int) * t = a at *
          have hown := HO.out
          have hi' := HI0.out
          have hz0 := HZ0.out
          have hz1 := HZ1.out
          have hz2 := HZ2.out
          go_wp2_with (at_builtin; refine wpList_append_lies _ rfl _ _ 67 rfl w.heap.size 54 i0 (.agg #[.int .i64 0, .int .i64 0]) 2 16 Tryd.underlying67 hi' hz0 hz1 hz2 rfl (by decide) _ _ _ rfl (hown.alloc _) ⟨wr.heap.size, 0, none⟩ 1 1 [.int .i64 a, .int .i64 h] rfl rfl ?c1 ?c2 ?c0 ?c3 ?c4 ?c5 (wr.heap.size + 1) ?c6 ?_)
          case c1 => exact two_cellsD _ _ _ _
          case c2 => exact two_plainD _ _
          case c0 => omega
          case c3 => unfold maxLen; omega
          case c4 => omega
          case c5 => have hs4 := HB.out.size; simp; omega
          case c6 => simp
          intro gg cap2 w5 hown' hgrow hlies hlt3
          obtain ⟨hb3, hs2⟩ := own_belowD hown HB.out HB.out.size hgrow
          have ho : w5.ownsRow w.heap.size 54 2 (.slice (some ⟨gg, 0, none⟩) (L.length + 1) cap2) (L ++ [(a, h)]).length (flatD (L ++ [(a, h)])) := by simpa [flatD_app, flatD] using hown'
          have HO2 := Lib.hid ho
          have HB2 := Lib.hid hb3
          clear hown hown' hgrow ho hb3 hs2 hi' hz0 hz1 hz2 hlies
          go_wp2_with fail
          go_roundg (azN t + 1 - (i + 1))
          case measure => omega
          case rel => exact ⟨i + 1, by first | (rw [← NA.out]) | (rw [← NA.out, wa]), by omega, rfl, by rw [RN.out]; exact HO2, HB2⟩
        · obtain rfl : i = azN t := by omega
          go_wp2_with fail
          go_roundg (alN t + 1 - (k + 1))
          case measure => omega
          case rel => exact ⟨k + 1, by rw [← NH.out], by omega, rfl, by rw [UN.out]; exact HO, HB⟩
    · obtain rfl : k = alN t := by omega
      go_wp2_with fail
      go_returns
      exact ⟨_, rfl, HO.out, HB.out⟩
theorem fin_Dome11 : True := trivial
end

section
open Go.RowKit
set_option linter.unusedVariables false

theorem setW8 {w W : World} {b0 o0 b1 o1 b2 o2 b3 o3 b4 o4 b5 o5 b6 o6 b7 o7 : Nat} {v0 v1 v2 v3 v4 v5 v6 v7 : Value} {r o : Nat} {u : Value} (h : W.cell? ⟨b0, o0, none⟩ = some v0 ∧ W.cell? ⟨b1, o1, none⟩ = some v1 ∧ W.cell? ⟨b2, o2, none⟩ = some v2 ∧ W.cell? ⟨b3, o3, none⟩ = some v3 ∧ W.cell? ⟨b4, o4, none⟩ = some v4 ∧ W.cell? ⟨b5, o5, none⟩ = some v5 ∧ W.cell? ⟨b6, o6, none⟩ = some v6 ∧ W.cell? ⟨b7, o7, none⟩ = some v7 ∧ Below w.heap.size w W) (n0 : b0 ≠ r) (n1 : b1 ≠ r) (n2 : b2 ≠ r) (n3 : b3 ≠ r) (n4 : b4 ≠ r) (n5 : b5 ≠ r) (n6 : b6 ≠ r) (n7 : b7 ≠ r) (hr : w.heap.size ≤ r) :
    (W.setCell ⟨r, o, none⟩ u).cell? ⟨b0, o0, none⟩ = some v0 ∧ (W.setCell ⟨r, o, none⟩ u).cell? ⟨b1, o1, none⟩ = some v1 ∧ (W.setCell ⟨r, o, none⟩ u).cell? ⟨b2, o2, none⟩ = some v2 ∧ (W.setCell ⟨r, o, none⟩ u).cell? ⟨b3, o3, none⟩ = some v3 ∧ (W.setCell ⟨r, o, none⟩ u).cell? ⟨b4, o4, none⟩ = some v4 ∧ (W.setCell ⟨r, o, none⟩ u).cell? ⟨b5, o5, none⟩ = some v5 ∧ (W.setCell ⟨r, o, none⟩ u).cell? ⟨b6, o6, none⟩ = some v6 ∧ (W.setCell ⟨r, o, none⟩ u).cell? ⟨b7, o7, none⟩ = some v7 ∧ Below w.heap.size w (W.setCell ⟨r, o, none⟩ u) := by
  obtain ⟨h0, h1, h2, h3, h4, h5, h6, h7, hB⟩ := h
  exact ⟨by rw [World.cell?_setCell_other (h := by simp [n0])]; exact h0, by rw [World.cell?_setCell_other (h := by simp [n1])]; exact h1, by rw [World.cell?_setCell_other (h := by simp [n2])]; exact h2, by rw [World.cell?_setCell_other (h := by simp [n3])]; exact h3, by rw [World.cell?_setCell_other (h := by simp [n4])]; exact h4, by rw [World.cell?_setCell_other (h := by simp [n5])]; exact h5, by rw [World.cell?_setCell_other (h := by simp [n6])]; exact h6, by rw [World.cell?_setCell_other (h := by simp [n7])]; exact h7, hB.setCell hr _⟩

set_option maxRecDepth 100000 in
set_option maxHeartbeats 4000000 in
theorem wayTo_any (s : ByteArray) (r b X Y Z a h : Int) (r0 : 1000 ≤ r) (r1 : r ≤ 30000) (hi : inside9 r X Y Z = true) (a0 : 0 ≤ a) (a1 : a ≤ 359999) (h0 : -90000 ≤ h) (h1 : h ≤ 90000) (w : World) (hs : SinesOK w) :
    Calls Tryd.prog 25 #[.agg #[.string s, .int .i64 r, .int .i64 b, .int .i64 X, .int .i64 Y, .int .i64 Z], .agg #[.int .i64 a, .int .i64 h]] w fun e w' => e = .returned (.agg #[.int .i64 (poX r a h - X), .int .i64 (poY r a h - Y), .int .i64 (poZ r a h - Z)]) ∧ Below w.heap.size w w' := by
  have P := Lib.hid (fun w hs => point_any s r b a h r0 r1 a0 a1 h0 h1 w hs)
  have hp := po_in r a h r0 r1
  have hI := inside9_bd hi
  have M := Lib.hid (fun w => minus_any (poX r a h) (poY r a h) (poZ r a h) X Y Z ⟨⟨by have := hp.1.1; omega, by have := hp.1.2; omega⟩, ⟨by have := hp.2.1.1; omega, by have := hp.2.1.2; omega⟩, by have := hp.2.2.1; omega, by have := hp.2.2.2; omega⟩ ⟨⟨by omega, by omega⟩, ⟨by omega, by omega⟩, by omega, by omega⟩ w)
  clear hp hI hi
  generalize poX r a h = x at *
  generalize poY r a h = y at *
  generalize poZ r a h = z at *
  generalize hX : x - X = px at *
  generalize hY : y - Y = py at *
  generalize hZ : z - Z = pz at *
  clear hX hY hZ
  obtain ⟨W0, hW0⟩ : ∃ W0, W0 = (((w.alloc (.cells #[.string s, .int .i64 r, .int .i64 b, .int .i64 X, .int .i64 Y, .int .i64 Z] 52)).alloc (.cells #[.int .i64 a, .int .i64 h] 54)).alloc (.cells #[.int .i64 0, .int .i64 0, .int .i64 0] 58)) := ⟨_, rfl⟩
  have K0 : Hid (W0.cell? ⟨w.heap.size, 0, none⟩ = some (.string s) ∧ W0.cell? ⟨w.heap.size, 1, none⟩ = some (.int .i64 r) ∧ W0.cell? ⟨w.heap.size, 2, none⟩ = some (.int .i64 b) ∧ W0.cell? ⟨w.heap.size, 3, none⟩ = some (.int .i64 X) ∧ W0.cell? ⟨w.heap.size, 4, none⟩ = some (.int .i64 Y) ∧ W0.cell? ⟨w.heap.size, 5, none⟩ = some (.int .i64 Z) ∧ W0.cell? ⟨w.heap.size + 1, 0, none⟩ = some (.int .i64 a) ∧ W0.cell? ⟨w.heap.size + 1, 1, none⟩ = some (.int .i64 h) ∧ Below w.heap.size w W0) := Lib.hid (by rw [hW0]; exact ⟨by rw [World.cell?_alloc_lt _ _ _ (by first | (simp; done) | (simp; omega)), World.cell?_alloc_lt _ _ _ (by first | (simp; done) | (simp; omega))]; first | (simp; done) | (rw [World.cell?_alloc_at _ _ _ _ (by first | (simp; done) | (simp; omega))]; rfl), by rw [World.cell?_alloc_lt _ _ _ (by first | (simp; done) | (simp; omega)), World.cell?_alloc_lt _ _ _ (by first | (simp; done) | (simp; omega))]; first | (simp; done) | (rw [World.cell?_alloc_at _ _ _ _ (by first | (simp; done) | (simp; omega))]; rfl), by rw [World.cell?_alloc_lt _ _ _ (by first | (simp; done) | (simp; omega)), World.cell?_alloc_lt _ _ _ (by first | (simp; done) | (simp; omega))]; first | (simp; done) | (rw [World.cell?_alloc_at _ _ _ _ (by first | (simp; done) | (simp; omega))]; rfl), by rw [World.cell?_alloc_lt _ _ _ (by first | (simp; done) | (simp; omega)), World.cell?_alloc_lt _ _ _ (by first | (simp; done) | (simp; omega))]; first | (simp; done) | (rw [World.cell?_alloc_at _ _ _ _ (by first | (simp; done) | (simp; omega))]; rfl), by rw [World.cell?_alloc_lt _ _ _ (by first | (simp; done) | (simp; omega)), World.cell?_alloc_lt _ _ _ (by first | (simp; done) | (simp; omega))]; first | (simp; done) | (rw [World.cell?_alloc_at _ _ _ _ (by first | (simp; done) | (simp; omega))]; rfl), by rw [World.cell?_alloc_lt _ _ _ (by first | (simp; done) | (simp; omega)), World.cell?_alloc_lt _ _ _ (by first | (simp; done) | (simp; omega))]; first | (simp; done) | (rw [World.cell?_alloc_at _ _ _ _ (by first | (simp; done) | (simp; omega))]; rfl), by rw [World.cell?_alloc_lt _ _ _ (by first | (simp; done) | (simp; omega))]; first | (simp; done) | (rw [World.cell?_alloc_at _ _ _ _ (by first | (simp; done) | (simp; omega))]; rfl), by rw [World.cell?_alloc_lt _ _ _ (by first | (simp; done) | (simp; omega))]; first | (simp; done) | (rw [World.cell?_alloc_at _ _ _ _ (by first | (simp; done) | (simp; omega))]; rfl), by repeat (first | exact Below.refl _ _ | refine Below.alloc ?_ (by first | (simp; done) | (simp; omega)) _)⟩)
  have SZ : Hid (W0.heap.size = w.heap.size + 1 + 1 + 1) := Lib.hid (by rw [hW0]; simp)
  have R0 : Hid (C3 W0 (w.heap.size + 1 + 1) 0 0 0) := Lib.hid (by rw [hW0]; simpa using C3.new ((w.alloc (.cells #[.string s, .int .i64 r, .int .i64 b, .int .i64 X, .int .i64 Y, .int .i64 Z] 52)).alloc (.cells #[.int .i64 a, .int .i64 h] 54)) 58 0 0 0)
  have HW := Lib.hid hW0
  clear hW0
  have E0 := Lib.hid (hs.below K0.out.2.2.2.2.2.2.2.2)
  clear hs r0 r1 a0 a1 h0 h1
  go_enter Tryd.func25, Tryd.ntmps25
  obtain ⟨k0, k1, k2, k3, k4, k5, k6, k7, k8⟩ := K0.out
  go_wp2_with fail
  rw [← HW.out]
  clear HW
  go_region_held3 (fun w' => w'.cell? ⟨w.heap.size, 0, none⟩ = some (.string s) ∧ w'.cell? ⟨w.heap.size, 1, none⟩ = some (.int .i64 r) ∧ w'.cell? ⟨w.heap.size, 2, none⟩ = some (.int .i64 b) ∧ w'.cell? ⟨w.heap.size, 3, none⟩ = some (.int .i64 X) ∧ w'.cell? ⟨w.heap.size, 4, none⟩ = some (.int .i64 Y) ∧ w'.cell? ⟨w.heap.size, 5, none⟩ = some (.int .i64 Z) ∧ w'.cell? ⟨w.heap.size + 1, 0, none⟩ = some (.int .i64 a) ∧ w'.cell? ⟨w.heap.size + 1, 1, none⟩ = some (.int .i64 h) ∧ Below w.heap.size w w') (first | (exact keepW8 K0.out (bel_drew (Below.refl _ _))) | (exact keepW8 K0.out y2) | (exact keepW8 K0.out y1) | (exact setW8 (setW8 (setW8 (keepW8 K0.out y2) (by omega) (by omega) (by omega) (by omega) (by omega) (by omega) (by omega) (by omega) (by omega)) (by omega) (by omega) (by omega) (by omega) (by omega) (by omega) (by omega) (by omega) (by omega)) (by omega) (by omega) (by omega) (by omega) (by omega) (by omega) (by omega) (by omega) (by omega)) | go_keep) ((first
    | (go_at_call 52; (with_reducible refine (P.out _ (E0.out.below (bel_drew (Below.refl _ _)))).mono ?_); rintro e x1 ⟨rfl, hx1⟩; have y1 := undrewG hx1)
    | (go_at_call 53; (with_reducible refine (M.out _).mono ?_); rintro e x2 ⟨rfl, hx2⟩; have y2 := y1.trans (hx2.mono y1.size); have rr := R0.out.on y2; obtain ⟨r0, r1, r2, r3, r4, r5⟩ := rr)))
  rename_i held
  have HB := Lib.hid held.2.2.2.2.2.2.2.2
  clear held
  go_wp2_with fail
  refine bodyPost_ret (v := .agg #[.int .i64 px, .int .i64 py, .int .i64 pz]) (by first | (simp [results, Tryd.results25, go_sem]; done) | (simp [results, Tryd.results25, go_sem, *]; done)) rfl ⟨rfl, ?_⟩
  repeat (first | exact Below.refl _ _ | exact HB.out | refine Below.setCell ?_ (by first | (simp; done) | omega | (simp; omega)) _ | refine Below.alloc ?_ (by first | (simp; done) | omega | (simp; omega)) _ | refine bel_drew ?_)

set_option maxRecDepth 100000 in
set_option maxHeartbeats 4000000 in
theorem implView_any (s : ByteArray) (r b X Y Z u v : Int) (hmax : s.size ≤ maxLen) (w : World) (hs : SinesOK w) :
    Calls Tryd.prog 11 #[.agg #[.string s, .int .i64 r, .int .i64 b], .agg #[.int .i64 X, .int .i64 Y, .int .i64 Z], .int .i64 u, .int .i64 v] w fun e w' => e = .returned (viewV s r b X Y Z u v) ∧ Below w.heap.size w w' := by
  unfold viewV
  have CK : Hid (∀ (g cap : Nat) (W : World), W.cell? ⟨g, 0, none⟩ = some (.int .i64 u) → W.cell? ⟨g, 1, none⟩ = some (.int .i64 v) → Calls Tryd.prog 23 #[.agg #[.string s, .int .i64 r, .int .i64 b], .slice (some ⟨g, 0, none⟩) 1 cap] W fun e w' => e = .returned (.int .i64 (ask9 s r b u v)) ∧ Below W.heap.size W w') := Lib.hid (fun g cap W c0 c1 => by
    have := checkUp_any s r b hmax g cap [(u, v)] (by simp) W (fun j hj => by
      match j, hj with
      | 0, _ => exact ⟨c0, c1⟩)
    rw [check9_one] at this
    exact this)
  have E := Lib.hid hs
  clear hs hmax
  obtain ⟨W0, hW0⟩ : ∃ W0, W0 = ((((w.alloc (.cells #[.string s, .int .i64 r, .int .i64 b] 29)).alloc (.cells #[.int .i64 X, .int .i64 Y, .int .i64 Z] 31)).alloc (.cells #[.string s, .int .i64 r, .int .i64 b, .int .i64 X, .int .i64 Y, .int .i64 Z] 52)).alloc (.cells #[.int .i64 u, .int .i64 v] 54)) := ⟨_, rfl⟩
  have K0 : Hid (W0.cell? ⟨w.heap.size, 0, none⟩ = some (.string s) ∧ W0.cell? ⟨w.heap.size, 1, none⟩ = some (.int .i64 r) ∧ W0.cell? ⟨w.heap.size, 2, none⟩ = some (.int .i64 b) ∧ W0.cell? ⟨w.heap.size + 1 + 1, 0, none⟩ = some (.string s) ∧ W0.cell? ⟨w.heap.size + 1 + 1, 1, none⟩ = some (.int .i64 r) ∧ W0.cell? ⟨w.heap.size + 1 + 1, 2, none⟩ = some (.int .i64 b) ∧ W0.cell? ⟨w.heap.size + 1 + 1, 3, none⟩ = some (.int .i64 X) ∧ W0.cell? ⟨w.heap.size + 1 + 1, 4, none⟩ = some (.int .i64 Y) ∧ W0.cell? ⟨w.heap.size + 1 + 1, 5, none⟩ = some (.int .i64 Z) ∧ W0.cell? ⟨w.heap.size + 1 + 1 + 1, 0, none⟩ = some (.int .i64 u) ∧ W0.cell? ⟨w.heap.size + 1 + 1 + 1, 1, none⟩ = some (.int .i64 v) ∧ Below w.heap.size w W0) := Lib.hid (by rw [hW0]; exact ⟨by rw [World.cell?_alloc_lt _ _ _ (by first | (simp; done) | (simp; omega)), World.cell?_alloc_lt _ _ _ (by first | (simp; done) | (simp; omega)), World.cell?_alloc_lt _ _ _ (by first | (simp; done) | (simp; omega))]; first | (simp; done) | (rw [World.cell?_alloc_at _ _ _ _ (by first | (simp; done) | (simp; omega))]; rfl), by rw [World.cell?_alloc_lt _ _ _ (by first | (simp; done) | (simp; omega)), World.cell?_alloc_lt _ _ _ (by first | (simp; done) | (simp; omega)), World.cell?_alloc_lt _ _ _ (by first | (simp; done) | (simp; omega))]; first | (simp; done) | (rw [World.cell?_alloc_at _ _ _ _ (by first | (simp; done) | (simp; omega))]; rfl), by rw [World.cell?_alloc_lt _ _ _ (by first | (simp; done) | (simp; omega)), World.cell?_alloc_lt _ _ _ (by first | (simp; done) | (simp; omega)), World.cell?_alloc_lt _ _ _ (by first | (simp; done) | (simp; omega))]; first | (simp; done) | (rw [World.cell?_alloc_at _ _ _ _ (by first | (simp; done) | (simp; omega))]; rfl), by rw [World.cell?_alloc_lt _ _ _ (by first | (simp; done) | (simp; omega))]; first | (simp; done) | (rw [World.cell?_alloc_at _ _ _ _ (by first | (simp; done) | (simp; omega))]; rfl), by rw [World.cell?_alloc_lt _ _ _ (by first | (simp; done) | (simp; omega))]; first | (simp; done) | (rw [World.cell?_alloc_at _ _ _ _ (by first | (simp; done) | (simp; omega))]; rfl), by rw [World.cell?_alloc_lt _ _ _ (by first | (simp; done) | (simp; omega))]; first | (simp; done) | (rw [World.cell?_alloc_at _ _ _ _ (by first | (simp; done) | (simp; omega))]; rfl), by rw [World.cell?_alloc_lt _ _ _ (by first | (simp; done) | (simp; omega))]; first | (simp; done) | (rw [World.cell?_alloc_at _ _ _ _ (by first | (simp; done) | (simp; omega))]; rfl), by rw [World.cell?_alloc_lt _ _ _ (by first | (simp; done) | (simp; omega))]; first | (simp; done) | (rw [World.cell?_alloc_at _ _ _ _ (by first | (simp; done) | (simp; omega))]; rfl), by rw [World.cell?_alloc_lt _ _ _ (by first | (simp; done) | (simp; omega))]; first | (simp; done) | (rw [World.cell?_alloc_at _ _ _ _ (by first | (simp; done) | (simp; omega))]; rfl), by first | (simp; done) | (rw [World.cell?_alloc_at _ _ _ _ (by first | (simp; done) | (simp; omega))]; rfl), by first | (simp; done) | (rw [World.cell?_alloc_at _ _ _ _ (by first | (simp; done) | (simp; omega))]; rfl), by repeat (first | exact Below.refl _ _ | refine Below.alloc ?_ (by first | (simp; done) | (simp; omega)) _)⟩)
  have SZ : Hid (W0.heap.size = w.heap.size + 1 + 1 + 1 + 1) := Lib.hid (by rw [hW0]; simp)
  have HW := Lib.hid hW0
  clear hW0
  by_cases hk : ask9 s r b u v = 0
  · rw [if_pos hk]
    obtain ⟨hd, hu⟩ := (ask9_0 _ _ _ _ _).1 hk
    rw [hk] at CK
    obtain ⟨⟨u0, u1⟩, v0, v1⟩ := upB_bd hu
    have hr := (domeB_bd hd).1
    have IN := Lib.hid (fun w => isInside_any s r b X Y Z hr.1 hr.2 w)
    cases hi : inside9 r X Y Z with
    | false =>
      rw [if_neg (by simp)]
      rw [hi] at IN
      clear hk hd hu hr hi u0 u1 v0 v1
      go_enter Tryd.func11, Tryd.ntmps11
      obtain ⟨k0, k1, k2, k3, k4, k5, k6, k7, k8, k9, k10, k11⟩ := K0.out
      go_wp2_with fail
      rw [← HW.out]
      clear HW
      refine (CK.out _ _ _ (by rw [World.cell?_alloc_at _ _ _ _ (by first | (simp [SZ.out]; done) | (rw [SZ.out]))]; rfl) (by rw [World.cell?_alloc_at _ _ _ _ (by first | (simp [SZ.out]; done) | (rw [SZ.out]))]; rfl)).mono ?_
      rintro e w1 ⟨rfl, hb⟩
      have hb0 := ((Below.refl _ W0).alloc (Nat.le_refl _) _).trans (hb.mono (by simp))
      have K1 := Lib.hid (keepW11 K0.out hb0)
      clear hb hb0 k0 k1 k2 k3 k4 k5 k6 k7 k8 k9 k10 k11
      obtain ⟨k0, k1, k2, k3, k4, k5, k6, k7, k8, k9, k10, k11⟩ := K1.out
      have HB1 := Lib.hid k11
      go_wp2_with fail
      refine (IN.out _).mono ?_
      rintro e w2 ⟨rfl, hb⟩
      have K2 := Lib.hid (keepW11 K1.out hb)
      clear hb k0 k1 k2 k3 k4 k5 k6 k7 k8 k9 k10 k11
      obtain ⟨k0, k1, k2, k3, k4, k5, k6, k7, k8, k9, k10, k11⟩ := K2.out
      have HB2 := Lib.hid k11
      go_wp2_with fail
      refine bodyPost_ret (v := .tuple #[.int .i64 0, .int .i64 0, .int .i64 0, .int .i64 6]) (by first | (simp [results, Tryd.results11, go_sem]; done) | (simp [results, Tryd.results11, go_sem, *]; done)) rfl ⟨rfl, ?_⟩
      repeat (first | exact Below.refl _ _ | exact HB2.out | refine Below.setCell ?_ (by first | (simp; done) | omega | (simp; omega)) _ | refine Below.alloc ?_ (by first | (simp; done) | omega | (simp; omega)) _ | refine bel_drew ?_)
    | true =>
      rw [if_pos rfl]
      rw [hi] at IN
      have WT := Lib.hid (fun w hs => wayTo_any s r b X Y Z u v hr.1 hr.2 hi u0 u1 (by omega) v1 w hs)
      have hw := way_in u v hr.1 hr.2 hi
      unfold seeA seeB seeN
      clear hk hd hu hr hi u0 u1 v0 v1
      generalize poX r u v - X = x at *
      generalize poY r u v - Y = y at *
      generalize poZ r u v - Z = z at *
      have FD := Lib.hid (fun w hs => floorDir_any x y z hw w hs)
      have LE := Lib.hid (fun w => length_any x y z (inV_10 hw) w)
      clear hw
      generalize azI x y = p at *
      generalize latI x y z = q at *
      generalize len3 x y z = n at *
      go_enter Tryd.func11, Tryd.ntmps11
      obtain ⟨k0, k1, k2, k3, k4, k5, k6, k7, k8, k9, k10, k11⟩ := K0.out
      go_wp2_with fail
      rw [← HW.out]
      clear HW
      refine (CK.out _ _ _ (by rw [World.cell?_alloc_at _ _ _ _ (by first | (simp [SZ.out]; done) | (rw [SZ.out]))]; rfl) (by rw [World.cell?_alloc_at _ _ _ _ (by first | (simp [SZ.out]; done) | (rw [SZ.out]))]; rfl)).mono ?_
      rintro e w1 ⟨rfl, hb⟩
      have hb0 := ((Below.refl _ W0).alloc (Nat.le_refl _) _).trans (hb.mono (by simp))
      have K1 := Lib.hid (keepW11 K0.out hb0)
      clear hb hb0 k0 k1 k2 k3 k4 k5 k6 k7 k8 k9 k10 k11
      obtain ⟨k0, k1, k2, k3, k4, k5, k6, k7, k8, k9, k10, k11⟩ := K1.out
      have HB1 := Lib.hid k11
      go_wp2_with fail
      refine (IN.out _).mono ?_
      rintro e w2 ⟨rfl, hb⟩
      have K2 := Lib.hid (keepW11 K1.out hb)
      clear hb k0 k1 k2 k3 k4 k5 k6 k7 k8 k9 k10 k11
      obtain ⟨k0, k1, k2, k3, k4, k5, k6, k7, k8, k9, k10, k11⟩ := K2.out
      have HB2 := Lib.hid k11
      go_wp2_with fail
      refine (WT.out _ (E.out.below HB2.out)).mono ?_
      rintro e w3 ⟨rfl, hb⟩
      have HB3 := Lib.hid (HB2.out.trans (hb.mono HB2.out.size))
      clear hb k0 k1 k2 k3 k4 k5 k6 k7 k8 k9 k10 k11
      have hC3 : C3 (w3.alloc (.cells #[.int .i64 x, .int .i64 y, .int .i64 z] 58)) w3.heap.size x y z := C3.new _ _ _ _ _
      have HB4 : Hid (Below w.heap.size w (w3.alloc (.cells #[.int .i64 x, .int .i64 y, .int .i64 z] 58))) := Lib.hid (HB3.out.alloc HB3.out.size _)
      have HC3 := Lib.hid hC3
      clear hC3
      go_wp2_with fail
      refine (FD.out _ (E.out.below HB4.out)).mono ?_
      rintro e w5 ⟨rfl, hb⟩
      have C5 := HC3.out.on hb
      have HB5 := Lib.hid (HB4.out.trans (hb.mono HB4.out.size))
      clear hb HB4
      have C6 := C5.alloc C5.lt (.cells #[.int .i64 p, .int .i64 q] 54)
      have D6 : D2 (w5.alloc (.cells #[.int .i64 p, .int .i64 q] 54)) w5.heap.size p q := D2.new _ _ _ _
      have HB6 : Hid (Below w.heap.size w (w5.alloc (.cells #[.int .i64 p, .int .i64 q] 54))) := Lib.hid (HB5.out.alloc HB5.out.size _)
      obtain ⟨W6, hW6⟩ : ∃ W6, W6 = w5.alloc (.cells #[.int .i64 p, .int .i64 q] 54) := ⟨_, rfl⟩
      rw [← hW6] at C6 D6 HB6
      have HW6 := Lib.hid hW6
      clear hW6 C5
      have K6 : Hid (W6.cell? ⟨w3.heap.size, 0, none⟩ = some (.int .i64 x) ∧ W6.cell? ⟨w3.heap.size, 1, none⟩ = some (.int .i64 y) ∧ W6.cell? ⟨w3.heap.size, 2, none⟩ = some (.int .i64 z) ∧ W6.cell? ⟨w5.heap.size, 0, none⟩ = some (.int .i64 p) ∧ W6.cell? ⟨w5.heap.size, 1, none⟩ = some (.int .i64 q) ∧ Below w.heap.size w W6) := Lib.hid ⟨C6.c0, C6.c1, C6.c2, D6.c0, D6.c1, HB6.out⟩
      clear C6 D6
      obtain ⟨k0, k1, k2, k3, k4, k5⟩ := K6.out
      go_wp2_with fail
      rw [← HW6.out]
      clear HW6
      go_region_held3 (fun w' => w'.cell? ⟨w3.heap.size, 0, none⟩ = some (.int .i64 x) ∧ w'.cell? ⟨w3.heap.size, 1, none⟩ = some (.int .i64 y) ∧ w'.cell? ⟨w3.heap.size, 2, none⟩ = some (.int .i64 z) ∧ w'.cell? ⟨w5.heap.size, 0, none⟩ = some (.int .i64 p) ∧ w'.cell? ⟨w5.heap.size, 1, none⟩ = some (.int .i64 q) ∧ Below w.heap.size w w') (first | (exact keepW5 K6.out (bel_drew (Below.refl _ _))) | (exact keepW5 K6.out y1) | go_keep) ((first
        | (go_at_call 27; (with_reducible refine (LE.out _).mono ?_); rintro e z1 ⟨rfl, hx1⟩; have y1 := undrewG hx1)))
      all_goals
        rename_i held
        have HB7 := Lib.hid held.2.2.2.2.2
        clear held
        go_wp2_with fail
        refine bodyPost_ret (v := .tuple #[.int .i64 p, .int .i64 q, .int .i64 n, .int .i64 0]) (by first | (simp [results, Tryd.results11, go_sem]; done) | (simp [results, Tryd.results11, go_sem, *]; done)) rfl ⟨rfl, ?_⟩
        repeat (first | exact Below.refl _ _ | exact HB7.out | refine Below.setCell ?_ (by first | (simp; done) | omega | (simp; omega)) _ | refine Below.alloc ?_ (by first | (simp; done) | omega | (simp; omega)) _ | refine bel_drew ?_)
  · rw [if_neg hk]
    generalize ask9 s r b u v = c at *
    have hc : (c != 0) = true := by simpa using hk
    have hc2 : (c == 0) = false := by simpa using hk
    clear hk
    go_enter Tryd.func11, Tryd.ntmps11
    obtain ⟨k0, k1, k2, k3, k4, k5, k6, k7, k8, k9, k10, k11⟩ := K0.out
    go_wp2_with fail
    rw [← HW.out]
    clear HW
    refine (CK.out _ _ _ (by rw [World.cell?_alloc_at _ _ _ _ (by first | (simp [SZ.out]; done) | (rw [SZ.out]))]; rfl) (by rw [World.cell?_alloc_at _ _ _ _ (by first | (simp [SZ.out]; done) | (rw [SZ.out]))]; rfl)).mono ?_
    rintro e w1 ⟨rfl, hb⟩
    have hb0 := ((Below.refl _ W0).alloc (Nat.le_refl _) _).trans (hb.mono (by simp))
    have K1 := Lib.hid (keepW11 K0.out hb0)
    clear hb hb0 k0 k1 k2 k3 k4 k5 k6 k7 k8 k9 k10 k11
    obtain ⟨k0, k1, k2, k3, k4, k5, k6, k7, k8, k9, k10, k11⟩ := K1.out
    have HB1 := Lib.hid k11
    go_wp2_with fail
    refine bodyPost_ret (v := .tuple #[.int .i64 0, .int .i64 0, .int .i64 0, .int .i64 c]) (by first | (simp [results, Tryd.results11, go_sem]; done) | (simp [results, Tryd.results11, go_sem, *]; done)) rfl ⟨rfl, ?_⟩
    repeat (first | exact Below.refl _ _ | exact HB1.out | refine Below.setCell ?_ (by first | (simp; done) | omega | (simp; omega)) _ | refine Below.alloc ?_ (by first | (simp; done) | omega | (simp; omega)) _ | refine bel_drew ?_)
theorem fin_Dome12 : True := trivial
end

section
open Go.RowKit
set_option linter.unusedVariables false

/-- What is seen of the first k directions. -/
def FirstK (f : Int → Int → Int) (L : List (Int × Int)) (k : Nat) (x : Int) : Prop := ∃ j, ∃ h : j < L.length, j < k ∧ x = f L[j].1 L[j].2
theorem firstK_none (f : Int → Int → Int) (L : List (Int × Int)) (x : Int) : ¬ FirstK f L 0 x := by
  rintro ⟨j, _, hj, _⟩
  omega
theorem firstK_next (f : Int → Int → Int) (L : List (Int × Int)) (k : Nat) (hk : k < L.length) (x : Int) : FirstK f L (k + 1) x ↔ FirstK f L k x ∨ x = f L[k].1 L[k].2 := by
  constructor
  · rintro ⟨j, h, hj, e⟩
    by_cases c : j = k
    · subst c; exact Or.inr e
    · exact Or.inl ⟨j, h, by omega, e⟩
  · rintro (⟨j, h, hj, e⟩ | e)
    · exact ⟨j, h, by omega, e⟩
    · exact ⟨k, hk, by omega, e⟩
theorem firstK_all (f : Int → Int → Int) (t : Int) (t0 : 0 < t) (x : Int) : AllUp f t x ↔ FirstK f (upsL t) (upsL t).length x := by
  constructor
  · rintro ⟨a, h, ha, hh, la, lh, rfl⟩
    obtain ⟨j, hj, e⟩ := List.getElem_of_mem ((mem_upsL t t0 (a, h)).2 ⟨ha, hh, la, lh⟩)
    exact ⟨j, hj, hj, by rw [e]⟩
  · rintro ⟨j, hj, _, rfl⟩
    obtain ⟨h1, h2, h3, h4⟩ := (mem_upsL t t0 (upsL t)[j]).1 (List.getElem_mem hj)
    exact ⟨_, _, h1, h2, h3, h4, rfl⟩

set_option maxRecDepth 100000 in
set_option maxHeartbeats 8000000 in
theorem implWorst_any (s : ByteArray) (r b X Y Z t : Int) (hmax : s.size ≤ maxLen) (w : World) (hs : SinesOK w) :
    Calls Tryd.prog 13 #[.agg #[.string s, .int .i64 r, .int .i64 b], .agg #[.int .i64 X, .int .i64 Y, .int .i64 Z], .int .i64 t] w fun e w' => e = .returned (worstV9 s r b X Y Z t) ∧ Below w.heap.size w w' := by
  unfold worstV9
  have VD := Lib.hid (fun w => validDome_any s r b hmax w)
  have E := Lib.hid hs
  clear hs hmax
  obtain ⟨W0, hW0⟩ : ∃ W0, W0 = (((w.alloc (.cells #[.string s, .int .i64 r, .int .i64 b] 29)).alloc (.cells #[.int .i64 X, .int .i64 Y, .int .i64 Z] 31)).alloc (.cells #[.string s, .int .i64 r, .int .i64 b, .int .i64 X, .int .i64 Y, .int .i64 Z] 52)) := ⟨_, rfl⟩
  have K0 : Hid (W0.cell? ⟨w.heap.size, 0, none⟩ = some (.string s) ∧ W0.cell? ⟨w.heap.size, 1, none⟩ = some (.int .i64 r) ∧ W0.cell? ⟨w.heap.size, 2, none⟩ = some (.int .i64 b) ∧ W0.cell? ⟨w.heap.size + 1 + 1, 0, none⟩ = some (.string s) ∧ W0.cell? ⟨w.heap.size + 1 + 1, 1, none⟩ = some (.int .i64 r) ∧ W0.cell? ⟨w.heap.size + 1 + 1, 2, none⟩ = some (.int .i64 b) ∧ W0.cell? ⟨w.heap.size + 1 + 1, 3, none⟩ = some (.int .i64 X) ∧ W0.cell? ⟨w.heap.size + 1 + 1, 4, none⟩ = some (.int .i64 Y) ∧ W0.cell? ⟨w.heap.size + 1 + 1, 5, none⟩ = some (.int .i64 Z) ∧ Below w.heap.size w W0) := Lib.hid (by rw [hW0]; exact ⟨by rw [World.cell?_alloc_lt _ _ _ (by first | (simp; done) | (simp; omega)), World.cell?_alloc_lt _ _ _ (by first | (simp; done) | (simp; omega))]; first | (simp; done) | (rw [World.cell?_alloc_at _ _ _ _ (by first | (simp; done) | (simp; omega))]; rfl), by rw [World.cell?_alloc_lt _ _ _ (by first | (simp; done) | (simp; omega)), World.cell?_alloc_lt _ _ _ (by first | (simp; done) | (simp; omega))]; first | (simp; done) | (rw [World.cell?_alloc_at _ _ _ _ (by first | (simp; done) | (simp; omega))]; rfl), by rw [World.cell?_alloc_lt _ _ _ (by first | (simp; done) | (simp; omega)), World.cell?_alloc_lt _ _ _ (by first | (simp; done) | (simp; omega))]; first | (simp; done) | (rw [World.cell?_alloc_at _ _ _ _ (by first | (simp; done) | (simp; omega))]; rfl), by first | (simp; done) | (rw [World.cell?_alloc_at _ _ _ _ (by first | (simp; done) | (simp; omega))]; rfl), by first | (simp; done) | (rw [World.cell?_alloc_at _ _ _ _ (by first | (simp; done) | (simp; omega))]; rfl), by first | (simp; done) | (rw [World.cell?_alloc_at _ _ _ _ (by first | (simp; done) | (simp; omega))]; rfl), by first | (simp; done) | (rw [World.cell?_alloc_at _ _ _ _ (by first | (simp; done) | (simp; omega))]; rfl), by first | (simp; done) | (rw [World.cell?_alloc_at _ _ _ _ (by first | (simp; done) | (simp; omega))]; rfl), by first | (simp; done) | (rw [World.cell?_alloc_at _ _ _ _ (by first | (simp; done) | (simp; omega))]; rfl), by repeat (first | exact Below.refl _ _ | refine Below.alloc ?_ (by first | (simp; done) | (simp; omega)) _)⟩)
  have HW := Lib.hid hW0
  clear hW0
  cases hd : domeB s r b with
  | false =>
    rw [if_neg (by simp)]
    rw [hd] at VD
    clear hd
    go_enter Tryd.func13, Tryd.ntmps13
    obtain ⟨k0, k1, k2, k3, k4, k5, k6, k7, k8, k9⟩ := K0.out
    go_wp2_with fail
    rw [← HW.out]
    clear HW
    refine (VD.out _).mono ?_
    rintro e w1 ⟨rfl, hb⟩
    have K1 := Lib.hid (keepW9 K0.out hb)
    clear hb k0 k1 k2 k3 k4 k5 k6 k7 k8 k9
    obtain ⟨k0, k1, k2, k3, k4, k5, k6, k7, k8, k9⟩ := K1.out
    have HB1 := Lib.hid k9
    go_wp2_with fail
    refine bodyPost_ret (v := .tuple #[.int .i64 0, .int .i64 1]) (by first | (simp [results, Tryd.results13, go_sem]; done) | (simp [results, Tryd.results13, go_sem, *]; done)) rfl ⟨rfl, ?_⟩
    repeat (first | exact Below.refl _ _ | exact HB1.out | refine Below.setCell ?_ (by first | (simp; done) | omega | (simp; omega)) _ | refine Below.alloc ?_ (by first | (simp; done) | omega | (simp; omega)) _ | refine bel_drew ?_)
  | true =>
    rw [if_pos rfl]
    rw [hd] at VD
    have hr := (domeB_bd hd).1
    clear hd
    cases ht : inR 15000 90000 [t] with
    | false =>
      rw [if_neg (by simp)]
      have HT := Lib.hid ht
      clear ht hr
      go_enter Tryd.func13, Tryd.ntmps13
      obtain ⟨k0, k1, k2, k3, k4, k5, k6, k7, k8, k9⟩ := K0.out
      go_wp2_with fail
      rw [← HW.out]
      clear HW
      refine (VD.out _).mono ?_
      rintro e w1 ⟨rfl, hb⟩
      have K1 := Lib.hid (keepW9 K0.out hb)
      clear hb k0 k1 k2 k3 k4 k5 k6 k7 k8 k9
      obtain ⟨k0, k1, k2, k3, k4, k5, k6, k7, k8, k9⟩ := K1.out
      have HB1 := Lib.hid k9
      go_wp2_with fail
      refine (within1 _ _ t _ _ _ (by rw [World.cell?_alloc_at _ _ _ _ (by simp)]; rfl)).mono ?_
      rintro e w' ⟨rfl, rfl⟩
      rw [HT.out]
      have K2 := Lib.hid (keepW9 K1.out ((Below.refl _ w1).alloc (Nat.le_refl _) (.cells #[.int .i64 t] 2)))
      clear k0 k1 k2 k3 k4 k5 k6 k7 k8 k9
      obtain ⟨k0, k1, k2, k3, k4, k5, k6, k7, k8, k9⟩ := K2.out
      have HB2 := Lib.hid k9
      go_wp2_with fail
      refine bodyPost_ret (v := .tuple #[.int .i64 0, .int .i64 2]) (by first | (simp [results, Tryd.results13, go_sem]; done) | (simp [results, Tryd.results13, go_sem, *]; done)) rfl ⟨rfl, ?_⟩
      repeat (first | exact Below.refl _ _ | exact HB2.out | refine Below.setCell ?_ (by first | (simp; done) | omega | (simp; omega)) _ | refine Below.alloc ?_ (by first | (simp; done) | omega | (simp; omega)) _ | refine bel_drew ?_)
    | true =>
      rw [if_pos rfl]
      have HT := Lib.hid ht
      rw [inR_1] at ht
      have IN := Lib.hid (fun w => isInside_any s r b X Y Z hr.1 hr.2 w)
      cases hi : inside9 r X Y Z with
      | false =>
        rw [if_neg (by simp)]
        rw [hi] at IN
        clear ht hr hi
        go_enter Tryd.func13, Tryd.ntmps13
        obtain ⟨k0, k1, k2, k3, k4, k5, k6, k7, k8, k9⟩ := K0.out
        go_wp2_with fail
        rw [← HW.out]
        clear HW
        refine (VD.out _).mono ?_
        rintro e w1 ⟨rfl, hb⟩
        have K1 := Lib.hid (keepW9 K0.out hb)
        clear hb k0 k1 k2 k3 k4 k5 k6 k7 k8 k9
        obtain ⟨k0, k1, k2, k3, k4, k5, k6, k7, k8, k9⟩ := K1.out
        have HB1 := Lib.hid k9
        go_wp2_with fail
        refine (within1 _ _ t _ _ _ (by rw [World.cell?_alloc_at _ _ _ _ (by simp)]; rfl)).mono ?_
        rintro e w' ⟨rfl, rfl⟩
        rw [HT.out]
        have K2 := Lib.hid (keepW9 K1.out ((Below.refl _ w1).alloc (Nat.le_refl _) (.cells #[.int .i64 t] 2)))
        clear k0 k1 k2 k3 k4 k5 k6 k7 k8 k9
        obtain ⟨k0, k1, k2, k3, k4, k5, k6, k7, k8, k9⟩ := K2.out
        have HB2 := Lib.hid k9
        go_wp2_with fail
        refine (IN.out _).mono ?_
        rintro e w3 ⟨rfl, hb⟩
        have K3 := Lib.hid (keepW9 K2.out hb)
        clear hb k0 k1 k2 k3 k4 k5 k6 k7 k8 k9
        obtain ⟨k0, k1, k2, k3, k4, k5, k6, k7, k8, k9⟩ := K3.out
        have HB3 := Lib.hid k9
        go_wp2_with fail
        refine bodyPost_ret (v := .tuple #[.int .i64 0, .int .i64 6]) (by first | (simp [results, Tryd.results13, go_sem]; done) | (simp [results, Tryd.results13, go_sem, *]; done)) rfl ⟨rfl, ?_⟩
        repeat (first | exact Below.refl _ _ | exact HB3.out | refine Below.setCell ?_ (by first | (simp; done) | omega | (simp; omega)) _ | refine Below.alloc ?_ (by first | (simp; done) | omega | (simp; omega)) _ | refine bel_drew ?_)
      | true =>
        rw [if_pos rfl]
        rw [hi] at IN
        have DU := Lib.hid (fun w => directionsUp_any t (by omega) ht.2 w)
        have WT := Lib.hid (fun a h (a0 : 0 ≤ a) (a1 : a ≤ 359999) (h0 : 0 ≤ h) (h1 : h ≤ 90000) w hs => wayTo_any s r b X Y Z a h hr.1 hr.2 hi a0 a1 (by omega) h1 w hs)
        have WI := Lib.hid (fun a h => way_in a h hr.1 hr.2 hi)
        have LP := upsL_pos t (by omega)
        have LB := upsN_bd t (by omega) (alN t) (Nat.le_refl _)
        change (upsL t).length ≤ 360 at LB
        have UI := Lib.hid (fun p hp => upsL_in t (by omega) p hp)
        have FA := Lib.hid (fun x => firstK_all (err9 r X Y Z) t (by omega) x)
        have EB := Lib.hid (fun a h => err9_bd r X Y Z a h)
        have WO : Hid (∀ m, IsMost (AllUp (err9 r X Y Z) t) m → worst9 r X Y Z t = m) := Lib.hid (fun m h => IsMost.eq h)
        clear ht hr hi
        generalize worst9 r X Y Z t = wst at *
        generalize upsL t = L at *
        go_enter Tryd.func13, Tryd.ntmps13
        obtain ⟨k0, k1, k2, k3, k4, k5, k6, k7, k8, k9⟩ := K0.out
        go_wp2_with fail
        rw [← HW.out]
        clear HW
        refine (VD.out _).mono ?_
        rintro e w1 ⟨rfl, hb⟩
        have K1 := Lib.hid (keepW9 K0.out hb)
        clear hb k0 k1 k2 k3 k4 k5 k6 k7 k8 k9
        obtain ⟨k0, k1, k2, k3, k4, k5, k6, k7, k8, k9⟩ := K1.out
        have HB1 := Lib.hid k9
        go_wp2_with fail
        refine (within1 _ _ t _ _ _ (by rw [World.cell?_alloc_at _ _ _ _ (by simp)]; rfl)).mono ?_
        rintro e w' ⟨rfl, rfl⟩
        rw [HT.out]
        have K2 := Lib.hid (keepW9 K1.out ((Below.refl _ w1).alloc (Nat.le_refl _) (.cells #[.int .i64 t] 2)))
        clear k0 k1 k2 k3 k4 k5 k6 k7 k8 k9
        obtain ⟨k0, k1, k2, k3, k4, k5, k6, k7, k8, k9⟩ := K2.out
        have HB2 := Lib.hid k9
        go_wp2_with fail
        refine (IN.out _).mono ?_
        rintro e w3 ⟨rfl, hb⟩
        have K3 := Lib.hid (keepW9 K2.out hb)
        clear hb k0 k1 k2 k3 k4 k5 k6 k7 k8 k9
        obtain ⟨k0, k1, k2, k3, k4, k5, k6, k7, k8, k9⟩ := K3.out
        have HB3 := Lib.hid k9
        go_wp2_with fail
        refine (DU.out _).mono ?_
        rintro e w4 ⟨v, rfl, hown, hb⟩
        have K4 := Lib.hid (keepW9 K3.out hb)
        obtain ⟨g, cap, hv, hg1, hg2⟩ := World.ownsRow.form hown LP
        subst hv
        have HC : Hid (∀ j, (hj : j < L.length) → w4.cell? ⟨g, j * 2, none⟩ = some (.int .i64 L[j].1) ∧ w4.cell? ⟨g, j * 2 + 1, none⟩ = some (.int .i64 L[j].2)) := Lib.hid (fun j hj => by
          have := flatD_at L j hj
          exact ⟨by rw [World.ownsRow.cellAt hown (j * 2) (by omega)]; exact this.1, by rw [World.ownsRow.cellAt hown (j * 2 + 1) (by omega)]; exact this.2⟩)
        clear hb hown hg1 k0 k1 k2 k3 k4 k5 k6 k7 k8 k9
        obtain ⟨k0, k1, k2, k3, k4, k5, k6, k7, k8, k9⟩ := K4.out
        have HB4 := Lib.hid k9
        clear k0 k1 k2 k3 k4 k5 k6 k7 k8 k9
        go_wp2_with fail
        go_loopg [9, 31] (L.length + 1) (fun kx s9 s31 wr => ∃ (k : Nat) (m : Int), s31 = .int .i64 (k : Int) ∧ s9 = .int .i64 m ∧ k ≤ L.length ∧ kx = L.length + 1 - k ∧ Hid (IsMost (FirstK (err9 r X Y Z) L k) m) ∧ Hid (Below w4.heap.size w4 wr))
        case atStart => exact ⟨0, 0, rfl, rfl, Nat.zero_le _, rfl, Lib.hid (IsMost.zero (firstK_none _ _)), Lib.hid (Below.refl _ _)⟩
        case round =>
          obtain ⟨k, m, rfl, rfl, hk, rfl, HM, HB⟩ := hrel
          by_cases hlt : k < L.length
          · have hin := UI.out L[k] (List.getElem_mem hlt)
            obtain ⟨c0, c1⟩ := HC.out k hlt
            have d0 := (HB.out.cell (p := ⟨g, k * 2, none⟩) hg2).trans c0
            have d1 := (HB.out.cell (p := ⟨g, k * 2 + 1, none⟩) hg2).trans c1
            have k0 : (0 : Int) ≤ (k : Int) := by omega
            have k1 : (k : Int) < (L.length : Int) := by omega
            have NX := Lib.hid (HM.out.add (y := err9 r X Y Z L[k].1 L[k].2) (EB.out _ _).1 (firstK_next (err9 r X Y Z) L k hlt))
            clear c0 c1
            generalize L[k].1 = a at *
            generalize L[k].2 = h at *
            obtain ⟨⟨a0, a1⟩, h0, h1⟩ := hin
            have W1 := Lib.hid (WT.out a h a0 a1 h0 h1)
            have hw := WI.out a h
            have FD := Lib.hid (fun w hs => floorDir_any (poX r a h - X) (poY r a h - Y) (poZ r a h - Z) hw w hs)
            have ab := azI_bd (poX r a h - X) (poY r a h - Y)
            have lb := latI_bd (poX r a h - X) (poY r a h - Y) (poZ r a h - Z)
            have DD := Lib.hid (fun w hs => distDD_any a h (azI (poX r a h - X) (poY r a h - Y)) (latI (poX r a h - X) (poY r a h - Y) (poZ r a h - Z)) (by unfold fits; omega) (by unfold fits; omega) (by omega) h1 lb.1 lb.2 w hs)
            change Hid (∀ w, SinesOK w → Calls Tryd.prog 34 #[sightB a h, sightB (azI (poX r a h - X) (poY r a h - Y)) (latI (poX r a h - X) (poY r a h - Y) (poZ r a h - Z))] w fun r' w' => r' = .returned (.int .i64 (err9 r X Y Z a h)) ∧ Below w.heap.size w w') at DD
            unfold sightB at DD
            clear hw ab lb a0 a1 h0 h1
            generalize err9 r X Y Z a h = y at *
            generalize azI (poX r a h - X) (poY r a h - Y) = p at *
            generalize latI (poX r a h - X) (poY r a h - Y) (poZ r a h - Z) = q at *
            generalize poX r a h - X = x1 at *
            generalize poY r a h - Y = y1 at *
            generalize poZ r a h - Z = z1 at *
            have K5 := keepW9 K4.out HB.out
            obtain ⟨_, _, _, v3, v4, v5, v6, v7, v8, v9⟩ := K5
            obtain ⟨W5, hW5⟩ : ∃ W5, W5 = wr.alloc (.cells #[.int .i64 a, .int .i64 h] 54) := ⟨_, rfl⟩
            have hv8 : w.heap.size + 1 + 1 < wr.heap.size := World.block_lt_of_cell? wr ⟨w.heap.size + 1 + 1, 0, none⟩ v3
            have K6 : Hid (W5.cell? ⟨w.heap.size + 1 + 1, 0, none⟩ = some (.string s) ∧ W5.cell? ⟨w.heap.size + 1 + 1, 1, none⟩ = some (.int .i64 r) ∧ W5.cell? ⟨w.heap.size + 1 + 1, 2, none⟩ = some (.int .i64 b) ∧ W5.cell? ⟨w.heap.size + 1 + 1, 3, none⟩ = some (.int .i64 X) ∧ W5.cell? ⟨w.heap.size + 1 + 1, 4, none⟩ = some (.int .i64 Y) ∧ W5.cell? ⟨w.heap.size + 1 + 1, 5, none⟩ = some (.int .i64 Z) ∧ W5.cell? ⟨wr.heap.size, 0, none⟩ = some (.int .i64 a) ∧ W5.cell? ⟨wr.heap.size, 1, none⟩ = some (.int .i64 h) ∧ Below w.heap.size w W5) := Lib.hid (by rw [hW5]; exact ⟨by rw [World.cell?_alloc_lt _ _ _ hv8]; exact v3, by rw [World.cell?_alloc_lt _ _ _ hv8]; exact v4, by rw [World.cell?_alloc_lt _ _ _ hv8]; exact v5, by rw [World.cell?_alloc_lt _ _ _ hv8]; exact v6, by rw [World.cell?_alloc_lt _ _ _ hv8]; exact v7, by rw [World.cell?_alloc_lt _ _ _ hv8]; exact v8, by simp, by simp, v9.alloc v9.size _⟩)
            have B6 : Hid (Below w4.heap.size w4 W5) := Lib.hid (by rw [hW5]; exact HB.out.alloc HB.out.size _)
            have HW5 := Lib.hid hW5
            clear hW5 v3 v4 v5 v6 v7 v8 v9
            have KP : Hid (∀ W' : World, Below W5.heap.size W5 W' → (W'.cell? ⟨w.heap.size + 1 + 1, 0, none⟩ = some (.string s) ∧ W'.cell? ⟨w.heap.size + 1 + 1, 1, none⟩ = some (.int .i64 r) ∧ W'.cell? ⟨w.heap.size + 1 + 1, 2, none⟩ = some (.int .i64 b) ∧ W'.cell? ⟨w.heap.size + 1 + 1, 3, none⟩ = some (.int .i64 X) ∧ W'.cell? ⟨w.heap.size + 1 + 1, 4, none⟩ = some (.int .i64 Y) ∧ W'.cell? ⟨w.heap.size + 1 + 1, 5, none⟩ = some (.int .i64 Z) ∧ W'.cell? ⟨wr.heap.size, 0, none⟩ = some (.int .i64 a) ∧ W'.cell? ⟨wr.heap.size, 1, none⟩ = some (.int .i64 h) ∧ Below w4.heap.size w4 W')) := Lib.hid (fun W' hb => keepG8 ⟨K6.out.1, K6.out.2.1, K6.out.2.2.1, K6.out.2.2.2.1, K6.out.2.2.2.2.1, K6.out.2.2.2.2.2.1, K6.out.2.2.2.2.2.2.1, K6.out.2.2.2.2.2.2.2.1, B6.out⟩ B6.out.size hb)
            have E6 := Lib.hid (E.out.below K6.out.2.2.2.2.2.2.2.2)
            obtain ⟨v0, v1, v2, v3, v4, v5, v6, v7, v8⟩ := K6.out
            go_wp2_with fail
            rw [← HW5.out]
            clear HW5 d0 d1
            go_region_held3 (fun w' => w'.cell? ⟨w.heap.size + 1 + 1, 0, none⟩ = some (.string s) ∧ w'.cell? ⟨w.heap.size + 1 + 1, 1, none⟩ = some (.int .i64 r) ∧ w'.cell? ⟨w.heap.size + 1 + 1, 2, none⟩ = some (.int .i64 b) ∧ w'.cell? ⟨w.heap.size + 1 + 1, 3, none⟩ = some (.int .i64 X) ∧ w'.cell? ⟨w.heap.size + 1 + 1, 4, none⟩ = some (.int .i64 Y) ∧ w'.cell? ⟨w.heap.size + 1 + 1, 5, none⟩ = some (.int .i64 Z) ∧ w'.cell? ⟨wr.heap.size, 0, none⟩ = some (.int .i64 a) ∧ w'.cell? ⟨wr.heap.size, 1, none⟩ = some (.int .i64 h) ∧ Below w4.heap.size w4 w') (first | (exact KP.out _ (bel_drew (Below.refl _ _))) | (exact KP.out _ y3) | (exact KP.out _ y2) | (exact KP.out _ y1) | go_keep) ((first
              | (go_at_call 25; (with_reducible refine (W1.out _ (E6.out.below (bel_drew (Below.refl _ _)))).mono ?_); rintro e x1 ⟨rfl, hx1⟩; have y1 := undrewG hx1)
              | (go_at_call 26; (with_reducible refine (FD.out _ (E6.out.below y1)).mono ?_); rintro e x2 ⟨rfl, hx2⟩; have y2 := y1.trans (hx2.mono y1.size))
              | (go_at_call 34; (with_reducible refine (DD.out _ (E6.out.below y2)).mono ?_); rintro e x3 ⟨rfl, hx3⟩; have y3 := y2.trans (hx3.mono y2.size))))
            all_goals
              rename_i held
              have HB7 := Lib.hid held.2.2.2.2.2.2.2.2
              clear held
              go_wp2_with fail
              go_roundg (L.length + 1 - (k + 1))
              case measure => omega
              case rel => exact ⟨k + 1, _, by go_num, by first | rfl | (simp; done) | (simp; omega), by omega, rfl, NX, HB7⟩
          · obtain rfl : k = L.length := by omega
            have hw := WO.out m (HM.out.same (fun x => FA.out x))
            have HB7 := Lib.hid (HB4.out.trans (HB.out.mono HB4.out.size))
            go_wp2_with fail
            subst hw
            refine bodyPost_ret (v := .tuple #[.int .i64 wst, .int .i64 0]) (by first | (simp [results, Tryd.results13, go_sem]; done) | (simp [results, Tryd.results13, go_sem, *]; done)) rfl ⟨rfl, ?_⟩
            repeat (first | exact Below.refl _ _ | exact HB7.out | refine Below.setCell ?_ (by first | (simp; done) | omega | (simp; omega)) _ | refine Below.alloc ?_ (by first | (simp; done) | omega | (simp; omega)) _ | refine bel_drew ?_)
theorem fin_Dome13 : True := trivial
end
end Go.Proofs.YtlklcpnnaolbeaaDoor
