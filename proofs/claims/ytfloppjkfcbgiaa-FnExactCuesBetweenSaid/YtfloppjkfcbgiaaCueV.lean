/-
  Valid cues (package spec): l13Time, l13One, ValidCue, l13Before, l13Find, l13Ok, ValidCues.
-/
import Derived.Test.YtfloppjkfcbgiaaCueM
import Derived.Test.YtfloppjkfcbgiaaCueL
import Derived.RegionTactic
import Derived.Deep.QuietTactic
import Derived.BigQuiet
import Derived.Deep.Draws
import Derived.Deep.LoopGhost
import Derived.Deep.RegionHeld3
import Derived.Deep.RegionWith
import Derived.StillTailTactics
import Derived.Shelf.Abstract
import Derived.Handy
namespace Go.Proofs.Ytfloppjkfcbgiaa.Cue
open Go.RowKit
open Sm (memS)
set_option linter.unusedVariables false

theorem quiet_leftC {P : Program} {f : FuncId} {args : Array Value} {w : World} {n : Nat} {v : Value}
    (h : Calls P f args (w.drewN n) fun e w' => e = .returned v ∧ w.drewN n = w') : Calls P f args (w.drewN n) fun e w'' => e = .returned v ∧ ∃ m, w'' = w.drewN m :=
  h.mono fun _ _ ⟨he, hm⟩ => ⟨he, n, hm.symm⟩
theorem quiet_ddC {P : Program} {f : FuncId} {args : Array Value} {w : World} {n : Nat} {v : Value}
    (h : Calls P f args (w.drewN n) fun e w' => e = .returned v ∧ ∃ m, w' = (w.drewN n).drewN m) : Calls P f args (w.drewN n) fun e w'' => e = .returned v ∧ ∃ m, w'' = w.drewN m :=
  h.mono fun _ _ ⟨he, m, hm⟩ => ⟨he, n + m, by rw [hm, World.drewN_drewN]⟩
theorem bel_dC {B : Nat} {a w : World} (h : Below B a w) (n : Nat) : Below B a (w.drewN n) := ⟨h.os, h.tape, h.output, h.size, h.block⟩
set_option maxHeartbeats 400000 in
theorem l13Time_any (a : Int) (w : World) :
    Calls Try.prog 68 #[.int .i64 a] w fun e w' => e = .returned (.bool (inR 0 7200000 [a])) ∧ w = w' := by
  go_enter Try.func68, Try.ntmps68
  go_wp2_with fail
  refine (l00In_any _ _ _ _).mono ?_
  rintro e w' ⟨rfl, rfl⟩
  go_wp2_with fail
  go_ret
  exact ⟨rfl, rfl⟩
set_option maxRecDepth 100000 in
set_option maxHeartbeats 4000000 in
theorem one_at (g o : Nat) (x : V) (w : World) (h : At w g o x) :
    Calls Try.prog 52 #[.pointer (some ⟨g, o, none⟩)] w fun e w' => e = .returned (.bool x.good) ∧ ∃ m, w' = w.drewN m := by
  unfold V.good cueB actB
  obtain ⟨x0, x1, x2, x3, x4, x5⟩ := x
  obtain ⟨c0, c1, c2, c3, c4, c5⟩ := h
  simp only at c0 c1 c2 c3 c4 c5 ⊢
  have I1 := Lib.hid (fun w => l01Name_any x0 w)
  have I2 := Lib.hid (fun w => l01Name_any x3 w)
  have I3 := Lib.hid (fun w => l13Time_any x1 w)
  have I4 := Lib.hid (fun w => l00In_any x5 0 1000 w)
  have I5 := Lib.hid (fun w => l00In_any x2 1 (7200000 - x1) w)
  generalize nameB x0.data.toList = p1 at *
  generalize nameB x3.data.toList = p2 at *
  cases hp3 : inR 0 7200000 [x1] with
  | false =>
    rw [hp3] at I3
    generalize inR 0 1000 [x5] = p4 at *
    cases p1 with
    | false =>
      rw [Bool.false_and]
      go_enter Try.func52, Try.ntmps52
      go_wp2_with fail
      refine (I1.out _).mono ?_
      rintro e w' ⟨rfl, rfl⟩
      go_wp2_with fail
      go_ret
      exact ⟨rfl, 0, rfl⟩
    | true =>
      rw [Bool.true_and]
      cases p2 with
      | false =>
        rw [Bool.false_and]
        go_enter Try.func52, Try.ntmps52
        go_wp2_with fail
        refine (I1.out _).mono ?_
        rintro e w' ⟨rfl, rfl⟩
        go_wp2_with fail
        refine (I2.out _).mono ?_
        rintro e w' ⟨rfl, rfl⟩
        go_wp2_with fail
        go_ret
        exact ⟨rfl, 0, rfl⟩
      | true =>
        rw [Bool.true_and, Bool.false_and]
        go_enter Try.func52, Try.ntmps52
        go_wp2_with fail
        refine (I1.out _).mono ?_
        rintro e w' ⟨rfl, rfl⟩
        go_wp2_with fail
        refine (I2.out _).mono ?_
        rintro e w' ⟨rfl, rfl⟩
        go_wp2_with fail
        refine (I3.out _).mono ?_
        rintro e w' ⟨rfl, rfl⟩
        go_wp2_with fail
        go_ret
        exact ⟨rfl, 0, rfl⟩
  | true =>
    have hx1 := (inR_1 _ _ _).1 hp3
    obtain ⟨b1, b2⟩ := hx1
    rw [hp3] at I3
    clear hp3
    generalize inR 1 (7200000 - x1) [x2] = p5 at *
    generalize inR 0 1000 [x5] = p4 at *
    cases p1 with
    | false =>
      rw [Bool.false_and]
      go_enter Try.func52, Try.ntmps52
      go_wp2_with fail
      refine (I1.out _).mono ?_
      rintro e w' ⟨rfl, rfl⟩
      go_wp2_with fail
      go_ret
      exact ⟨rfl, 0, rfl⟩
    | true =>
      rw [Bool.true_and]
      cases p2 with
      | false =>
        rw [Bool.false_and]
        go_enter Try.func52, Try.ntmps52
        go_wp2_with fail
        refine (I1.out _).mono ?_
        rintro e w' ⟨rfl, rfl⟩
        go_wp2_with fail
        refine (I2.out _).mono ?_
        rintro e w' ⟨rfl, rfl⟩
        go_wp2_with fail
        go_ret
        exact ⟨rfl, 0, rfl⟩
      | true =>
        rw [Bool.true_and, Bool.true_and]
        cases p4 with
        | false =>
          rw [Bool.false_and]
          go_enter Try.func52, Try.ntmps52
          go_wp2_with fail
          refine (I1.out _).mono ?_
          rintro e w' ⟨rfl, rfl⟩
          go_wp2_with fail
          refine (I2.out _).mono ?_
          rintro e w' ⟨rfl, rfl⟩
          go_wp2_with fail
          refine (I3.out _).mono ?_
          rintro e w' ⟨rfl, rfl⟩
          go_wp2_with fail
          refine (I4.out _).mono ?_
          rintro e w' ⟨rfl, rfl⟩
          go_wp2_with fail
          go_ret
          exact ⟨rfl, 0, rfl⟩
        | true =>
          rw [Bool.true_and]
          by_cases a1 : x4 = 1
          · subst a1
            rw [if_pos rfl]
            cases hl : decide (x2 = 0) with
            | true =>
              obtain rfl : x2 = 0 := of_decide_eq_true hl
              clear hl

              go_enter Try.func52, Try.ntmps52
              go_wp2_with fail
              refine (I1.out _).mono ?_
              rintro e w' ⟨rfl, rfl⟩
              go_wp2_with fail
              refine (I2.out _).mono ?_
              rintro e w' ⟨rfl, rfl⟩
              go_wp2_with fail
              refine (I3.out _).mono ?_
              rintro e w' ⟨rfl, rfl⟩
              go_wp2_with fail
              refine (I4.out _).mono ?_
              rintro e w' ⟨rfl, rfl⟩
              go_wp2_with fail
              go_ret
              exact ⟨rfl, 0, rfl⟩
            | false =>
              have hl2 : (x2 == 0) = false := beq_eq_false_iff_ne.2 (of_decide_eq_false hl)
              clear hl

              go_enter Try.func52, Try.ntmps52
              go_wp2_with fail
              refine (I1.out _).mono ?_
              rintro e w' ⟨rfl, rfl⟩
              go_wp2_with fail
              refine (I2.out _).mono ?_
              rintro e w' ⟨rfl, rfl⟩
              go_wp2_with fail
              refine (I3.out _).mono ?_
              rintro e w' ⟨rfl, rfl⟩
              go_wp2_with fail
              refine (I4.out _).mono ?_
              rintro e w' ⟨rfl, rfl⟩
              go_wp2_with fail
              go_ret
              exact ⟨rfl, 0, rfl⟩
          have a1b : (x4 == 1) = false := beq_eq_false_iff_ne.2 a1
          rw [if_neg a1]
          by_cases a2 : x4 = 2
          · subst a2
            clear a1 a1b
            rw [if_pos rfl]

            go_enter Try.func52, Try.ntmps52
            go_wp2_with fail
            refine (I1.out _).mono ?_
            rintro e w' ⟨rfl, rfl⟩
            go_wp2_with fail
            refine (I2.out _).mono ?_
            rintro e w' ⟨rfl, rfl⟩
            go_wp2_with fail
            refine (I3.out _).mono ?_
            rintro e w' ⟨rfl, rfl⟩
            go_wp2_with fail
            refine (I4.out _).mono ?_
            rintro e w' ⟨rfl, rfl⟩
            go_wp2_with fail
            go_quiet ((go_at_call 77; with_reducible exact quiet_leftC (I5.out _)))
            rename Nat => q1
            go_wp2_with fail
            go_ret
            exact ⟨rfl, _, rfl⟩
          have a2b : (x4 == 2) = false := beq_eq_false_iff_ne.2 a2
          rw [if_neg a2]
          by_cases a3 : x4 = 3
          · subst a3
            clear a1 a1b a2 a2b
            rw [if_pos rfl]
            cases hl : decide (x2 = 0) with
            | true =>
              obtain rfl : x2 = 0 := of_decide_eq_true hl
              rw [Bool.true_and]
              clear hl
              cases hv : decide (x5 = 0) with
              | true =>
                obtain rfl : x5 = 0 := of_decide_eq_true hv
                clear hv

                go_enter Try.func52, Try.ntmps52
                go_wp2_with fail
                refine (I1.out _).mono ?_
                rintro e w' ⟨rfl, rfl⟩
                go_wp2_with fail
                refine (I2.out _).mono ?_
                rintro e w' ⟨rfl, rfl⟩
                go_wp2_with fail
                refine (I3.out _).mono ?_
                rintro e w' ⟨rfl, rfl⟩
                go_wp2_with fail
                refine (I4.out _).mono ?_
                rintro e w' ⟨rfl, rfl⟩
                go_wp2_with fail
                go_ret
                exact ⟨rfl, 0, rfl⟩
              | false =>
                have hv2 : (x5 == 0) = false := beq_eq_false_iff_ne.2 (of_decide_eq_false hv)
                clear hv

                go_enter Try.func52, Try.ntmps52
                go_wp2_with fail
                refine (I1.out _).mono ?_
                rintro e w' ⟨rfl, rfl⟩
                go_wp2_with fail
                refine (I2.out _).mono ?_
                rintro e w' ⟨rfl, rfl⟩
                go_wp2_with fail
                refine (I3.out _).mono ?_
                rintro e w' ⟨rfl, rfl⟩
                go_wp2_with fail
                refine (I4.out _).mono ?_
                rintro e w' ⟨rfl, rfl⟩
                go_wp2_with fail
                go_ret
                exact ⟨rfl, 0, rfl⟩
            | false =>
              rw [Bool.false_and]
              have hl2 : (x2 == 0) = false := beq_eq_false_iff_ne.2 (of_decide_eq_false hl)
              clear hl

              go_enter Try.func52, Try.ntmps52
              go_wp2_with fail
              refine (I1.out _).mono ?_
              rintro e w' ⟨rfl, rfl⟩
              go_wp2_with fail
              refine (I2.out _).mono ?_
              rintro e w' ⟨rfl, rfl⟩
              go_wp2_with fail
              refine (I3.out _).mono ?_
              rintro e w' ⟨rfl, rfl⟩
              go_wp2_with fail
              refine (I4.out _).mono ?_
              rintro e w' ⟨rfl, rfl⟩
              go_wp2_with fail
              go_ret
              exact ⟨rfl, 0, rfl⟩
          have a3b : (x4 == 3) = false := beq_eq_false_iff_ne.2 a3
          rw [if_neg a3]
          clear a1 a2 a3

          go_enter Try.func52, Try.ntmps52
          go_wp2_with fail
          refine (I1.out _).mono ?_
          rintro e w' ⟨rfl, rfl⟩
          go_wp2_with fail
          refine (I2.out _).mono ?_
          rintro e w' ⟨rfl, rfl⟩
          go_wp2_with fail
          refine (I3.out _).mono ?_
          rintro e w' ⟨rfl, rfl⟩
          go_wp2_with fail
          refine (I4.out _).mono ?_
          rintro e w' ⟨rfl, rfl⟩
          go_wp2_with fail
          go_ret
          exact ⟨rfl, 0, rfl⟩
set_option maxHeartbeats 1000000 in
theorem specValidOne_any (x0 : ByteArray) (x1 x2 : Int) (x3 : ByteArray) (x4 x5 : Int) (w : World) :
    Calls Try.prog 15 #[.agg #[.string x0, .int .i64 x1, .int .i64 x2, .string x3, .int .i64 x4, .int .i64 x5]] w fun e w' => e = .returned (.bool (cueB x0 x1 x2 x3 x4 x5)) ∧ Below w.heap.size w w' := by
  have O := Lib.hid (fun (w : World) g h => one_at g 0 ⟨x0, x1, x2, x3, x4, x5⟩ w h)
  go_enter Try.func15, Try.ntmps15
  go_wp2_with fail
  refine (O.out _ _ ⟨by simp, by simp, by simp, by simp, by simp, by simp⟩).mono ?_
  rintro e w1 ⟨rfl, m, rfl⟩
  go_wp2_with fail
  go_ret
  exact ⟨rfl, bel_dC ((Below.refl _ _).alloc (Nat.le_refl _) _) _⟩

set_option maxRecDepth 100000 in
set_option maxHeartbeats 2000000 in
theorem before_at (ga oa gb ob : Nat) (x y : V) (w : World) (hx : At w ga oa x) (hy : At w gb ob y) :
    Calls Try.prog 91 #[.pointer (some ⟨ga, oa, none⟩), .pointer (some ⟨gb, ob, none⟩)] w fun e w' => e = .returned (.bool (befC x y)) ∧ ∃ m, w' = w.drewN m := by
  unfold befC ltS
  obtain ⟨x0, x1, x2, x3, x4, x5⟩ := x
  obtain ⟨y0, y1, y2, y3, y4, y5⟩ := y
  obtain ⟨c0, c1, c2, c3, c4, c5⟩ := hx
  obtain ⟨d0, d1, d2, d3, d4, d5⟩ := hy
  simp only at c0 c1 d0 d1 ⊢
  clear c2 c3 c4 c5 d2 d3 d4 d5
  cases h1 : decide (x1 < y1) with
  | true =>
    rw [Bool.true_or]
    have h1' : x1 < y1 := of_decide_eq_true h1
    go_enter Try.func91, Try.ntmps91
    go_wp2_with fail
    go_quiet (fail)
    rename Nat => q1
    go_wp2_with fail
    go_ret
    exact ⟨rfl, _, rfl⟩
  | false =>
    rw [Bool.false_or]
    have h1' : ¬ x1 < y1 := of_decide_eq_false h1
    cases h2 : decide (x1 = y1) with
    | false =>
      rw [Bool.false_and]
      have h2' : (x1 == y1) = false := beq_eq_false_iff_ne.2 (of_decide_eq_false h2)
      clear h2
      go_enter Try.func91, Try.ntmps91
      go_wp2_with fail
      go_quiet (fail)
      rename Nat => q1
      go_wp2_with fail
      go_ret
      exact ⟨rfl, _, rfl⟩
    | true =>
      rw [Bool.true_and]
      obtain rfl : x1 = y1 := of_decide_eq_true h2
      have h2' : (x1 == x1) = true := by simp
      clear h2
      generalize hb : Op.bytesLess x0.toList y0.toList = b
      go_enter Try.func91, Try.ntmps91
      go_wp2_with fail
      go_quiet (fail)
      rename Nat => q1
      go_wp2_with fail
      go_ret
      exact ⟨by first | rfl | (rw [hb]), _, rfl⟩

set_option maxRecDepth 100000 in
set_option maxHeartbeats 2000000 in
theorem find_any (g cap : Nat) (zs : List V) (s : ByteArray) (w : World) (hb : zs.length ≤ 1048577) (h1 : Row w g zs) :
    Calls Try.prog 64 #[.slice (some ⟨g, 0, none⟩) zs.length cap, .string s] w fun e w' => e = .returned (.int .i64 (fndI zs s)) ∧ w = w' := by
  have H1 := Lib.hid h1
  have FA := Lib.hid (fun j hj h hb => fndI_at (zs := zs) (s := s) j hj h hb)
  have FN := Lib.hid (fun hb => fndI_no (zs := zs) (s := s) hb)
  clear h1
  generalize fndI zs s = f at *
  go_enter Try.func64, Try.ntmps64
  go_wp2_with fail
  go_loopg [5] (zs.length + 1) (fun kx s5 wr => ∃ (j : Nat), s5 = .int .i64 (j : Int) ∧ j ≤ zs.length ∧ kx = zs.length + 1 - j ∧ w = wr ∧ Hid (∀ i, (hi : i < zs.length) → i < j → zs[i].f0 ≠ s))
  case atStart => exact ⟨0, rfl, Nat.zero_le _, rfl, rfl, Lib.hid (fun i _ h => absurd h (Nat.not_lt_zero _))⟩
  case round =>
    obtain ⟨j, rfl, hj, rfl, rfl, HP⟩ := hrel
    by_cases hlt : j < zs.length
    · have j0 : (0 : Int) ≤ (j : Int) := by omega
      have j1 : (j : Int) < (zs.length : Int) := by omega
      have c0 := (H1.out.at j hlt).c0
      by_cases hs : zs[j].f0 = s
      · have e := FA.out j hlt hs HP.out
        subst e
        rw [hs] at c0
        clear FA FN HP hs
        go_wp2_with fail
        go_ret
        exact ⟨rfl, rfl⟩
      · have NX : Hid (∀ i, (hi : i < zs.length) → i < j + 1 → zs[i].f0 ≠ s) := Lib.hid (fun i hi h => by
          by_cases c : i < j
          · exact HP.out i hi c
          · obtain rfl : i = j := by omega
            exact hs)
        have hne : (zs[j].f0.toList == s.toList) = false := ne_text hs
        clear FA FN HP
        generalize zs[j].f0 = t at *
        go_wp2_with fail
        go_roundg (zs.length + 1 - (j + 1))
        case measure => omega
        case rel => exact ⟨j + 1, by go_num, by omega, by omega, rfl, NX⟩
    · obtain rfl : j = zs.length := by omega
      have e := FN.out (fun i hi => HP.out i hi hi)
      subst e
      go_wp2_with fail
      go_ret
      exact ⟨rfl, rfl⟩
theorem Row.drewN {w : World} {g : Nat} {zs : List V} (h : Row w g zs) (n : Nat) : Row (w.drewN n) g zs := h.below ⟨rfl, rfl, rfl, Nat.le_refl _, fun _ _ => rfl⟩
set_option maxRecDepth 100000 in
set_option maxHeartbeats 8000000 in
theorem okS_any (g cap : Nat) (zs : List V) (w : World) (hb : zs.length ≤ 1048577) (h1 : Row w g zs) :
    Calls Try.prog 57 #[.slice (some ⟨g, 0, none⟩) zs.length cap] w fun e w' => e = .returned (.bool (cuesB zs)) ∧ Below w.heap.size w w' := by
  have H1 := Lib.hid h1
  have KN := Lib.hid (okS_next zs)
  have KS := Lib.hid (okS_stop zs)
  have KE : Hid (cuesB zs = (okS zs zs.length && decide (zs.length ≤ 32))) := Lib.hid (cuesB_S zs)
  generalize cuesB zs = r at *
  clear h1
  go_enter Try.func57, Try.ntmps57
  go_wp2_with fail
  go_loopg [3] (zs.length + 1) (fun kx s3 wr => ∃ j : Nat, s3 = .int .i64 (j : Int) ∧ j ≤ zs.length ∧ kx = zs.length + 1 - j ∧ Hid (okS zs j = true) ∧ Hid (Below w.heap.size w wr))
  case atStart => exact ⟨0, rfl, Nat.zero_le _, rfl, Lib.hid rfl, Lib.hid (Below.refl _ _)⟩
  case round =>
    obtain ⟨j, rfl, hj, rfl, HO, HB⟩ := hrel
    by_cases hlt : j < zs.length
    · have hR := H1.out.below HB.out
      have hat := hR.at j hlt
      have c0 := hat.c0
      have O := Lib.hid (fun n => one_at g (j * 6) zs[j] (wr.drewN n) hat.drewN)
      have F := Lib.hid (fun n => find_any g cap zs zs[j].f0 (wr.drewN n) hb (hR.drewN n))
      have FE := newB_fnd zs j hlt
      have HS := Lib.hid (KS.out j hlt)
      have HN := Lib.hid (KN.out j)
      have GD := getD_at zs j hlt
      rw [GD] at FE
      have j0 : (0 : Int) ≤ (j : Int) := by omega
      have j1 : (j : Int) < (zs.length : Int) := by omega
      cases hg : zs[j].good with
      | false =>
        have hst : stepS zs j = false := by unfold stepS; rw [GD, hg]; rfl
        have hr : r = false := HS.out hst
        rw [hg] at O
        subst hr
        clear hg hst GD hat hR F FE
        generalize zs[j].f0 = t at *
        go_wp2_with fail
        go_quiet (((go_at_call 52; with_reducible exact quiet_ddC (O.out _))))
        rename Nat => q1
        go_wp2_with fail
        go_ret
        exact ⟨rfl, bel_dC HB.out _⟩
      | true =>
        rw [hg] at O
        cases hnw : newB zs j with
        | false =>
          have hst : stepS zs j = false := by unfold stepS; rw [hnw, Bool.false_and, Bool.and_false]
          have hr : r = false := HS.out hst
          rw [hnw] at FE
          have fl : fndI zs zs[j].f0 < (j : Int) := by
            by_cases c : fndI zs zs[j].f0 < (j : Int)
            · exact c
            · rw [decide_eq_false c] at FE; cases FE
          subst hr
          clear hg hst GD hat hR FE hnw
          generalize fndI zs zs[j].f0 = f at *
          generalize zs[j].f0 = t at *
          go_wp2_with fail
          go_quiet ((first | (go_at_call 52; with_reducible exact quiet_ddC (O.out _)) | (go_at_call 64; with_reducible exact quiet_leftC (F.out _))))
          rename Nat => q1
          go_wp2_with fail
          go_ret
          exact ⟨rfl, bel_dC HB.out _⟩
        | true =>
          rw [hnw] at FE
          have fl : ¬ fndI zs zs[j].f0 < (j : Int) := fun c => by rw [decide_eq_true c] at FE; cases FE
          by_cases hz : j = 0
          · subst hz
            have hst : okS zs (0 + 1) = true := by rw [HN.out, HO.out]; unfold stepS; rw [GD, hg, hnw]; rfl
            have HT := Lib.hid hst
            clear hg hst GD hat hR FE hnw
            generalize fndI zs zs[0].f0 = f at *
            generalize zs[0].f0 = t at *
            have fl1 : ¬ f < (0 : Int) := by simpa using fl
            have fl0 : decide (f < (0 : Int)) = false := decide_eq_false fl1
            clear fl
            go_wp2_with fail
            go_quiet ((first | (go_at_call 52; with_reducible exact quiet_ddC (O.out _)) | (go_at_call 64; with_reducible exact quiet_leftC (F.out _))))
            rename Nat => q1
            go_wp2_with fail
            go_roundg (zs.length + 1 - (0 + 1))
            case measure => omega
            case rel => exact ⟨0 + 1, by go_num, by omega, by omega, HT, Lib.hid (bel_dC HB.out _)⟩
          · obtain ⟨k, hk⟩ : ∃ k, j = k + 1 := ⟨j - 1, by omega⟩
            have hkl : k < zs.length := by omega
            have hatk := hR.at k hkl
            have B := Lib.hid (fun n => before_at g (k * 6) g (j * 6) zs[k] zs[j] (wr.drewN n) hatk.drewN hat.drewN)
            have hst : stepS zs j = befC zs[k] zs[j] := by
              unfold stepS
              rw [GD, hg, hnw, show j - 1 = k by omega, getD_at zs k hkl, Bool.true_and, Bool.true_and, show (j == 0) = false from beq_eq_false_iff_ne.2 hz, Bool.false_or]
            have ek : (j : Int) - 1 = (k : Int) := by omega
            have k0 : (0 : Int) ≤ (k : Int) := by omega
            have k1 : (k : Int) < (zs.length : Int) := by omega
            have kg : 0 < j := by omega
            have kd : decide (0 < j) = true := by simpa using kg
            have wk : IntKind.i64.wrap (k : Int) = (k : Int) := IntWalk.i64_in _ (by omega)
            rw [hst] at HS HN
            clear hz hat hatk hR GD hg hst hk FE hnw
            generalize befC zs[k] zs[j] = lt at *
            generalize fndI zs zs[j].f0 = f at *
            generalize zs[j].f0 = t at *
            cases lt with
            | true =>
              have HT : Hid (okS zs (j + 1) = true) := Lib.hid (by rw [HN.out, HO.out]; rfl)
              go_wp2_with fail
              go_quiet ((first | (go_at_call 52; with_reducible exact quiet_ddC (O.out _)) | (go_at_call 64; with_reducible exact quiet_leftC (F.out _)) | (go_at_call 91; with_reducible exact quiet_ddC (B.out _))))
              rename Nat => q1
              go_wp2_with fail
              go_roundg (zs.length + 1 - (j + 1))
              case measure => omega
              case rel => exact ⟨j + 1, by go_num, by omega, by omega, HT, Lib.hid (bel_dC HB.out _)⟩
            | false =>
              have hr : r = false := HS.out rfl
              subst hr
              go_wp2_with fail
              go_quiet ((first | (go_at_call 52; with_reducible exact quiet_ddC (O.out _)) | (go_at_call 64; with_reducible exact quiet_leftC (F.out _)) | (go_at_call 91; with_reducible exact quiet_ddC (B.out _))))
              rename Nat => q1
              go_wp2_with fail
              go_ret
              exact ⟨rfl, bel_dC HB.out _⟩
    · obtain rfl : j = zs.length := by omega
      go_wp2_with fail
      go_ret
      refine ⟨ret_bool ?_, HB.out⟩
      rw [KE.out, HO.out, Bool.true_and]
      simp only [decide_eq_decide]
      omega
set_option maxHeartbeats 400000 in
theorem specValid_any (g cap : Nat) (zs : List V) (w : World) (hb : zs.length ≤ 1048577) (h1 : Row w g zs) :
    Calls Try.prog 19 #[.slice (some ⟨g, 0, none⟩) zs.length cap] w fun e w' => e = .returned (.bool (cuesB zs)) ∧ Below w.heap.size w w' := by
  have O := Lib.hid (okS_any g cap zs w hb h1)
  clear h1
  go_enter Try.func19, Try.ntmps19
  go_wp2_with fail
  refine (O.out).mono ?_
  rintro e w1 ⟨rfl, hb1⟩
  go_wp2_with fail
  go_ret
  exact ⟨rfl, hb1⟩
end Go.Proofs.Ytfloppjkfcbgiaa.Cue
