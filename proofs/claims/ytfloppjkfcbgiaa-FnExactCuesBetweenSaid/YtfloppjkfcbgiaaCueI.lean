/-
  Valid cues (package impl): areShowTimes, fitsAction, ValidCue, compareCues, isIncreasing, cuePlaces, ValidCues.
-/
import Derived.Test.YtfloppjkfcbgiaaCueM
import Derived.Test.YtfloppjkfcbgiaaCueL
import Derived.RegionTactic
import Derived.Deep.QuietTactic
import Derived.BigQuiet
import Derived.Deep.Draws
import Derived.Deep.LoopGhost
import Derived.Deep.RegionHeld3
import Derived.Deep.RegionWith
import Derived.StillTailTactics
import Derived.Shelf.Abstract
import Derived.Handy
namespace Go.Proofs.Ytfloppjkfcbgiaa.Cue
open Go.RowKit
open Sm (memS)
set_option linter.unusedVariables false

set_option maxHeartbeats 400000 in
theorem areTimes1 (a : Int) (b cap : Nat) (w : World) (hc : w.cell? ⟨b, 0, none⟩ = some (.int .i64 a)) :
    Calls Try.prog 54 #[.slice (some ⟨b, 0, none⟩) 1 cap] w fun e w' => e = .returned (.bool (inR 0 7200000 [a])) ∧ w = w' := by
  have W := Lib.hid (within1 0 7200000 a b cap w hc)
  clear hc
  go_enter Try.func54, Try.ntmps54
  go_wp2_with fail
  refine (W.out).mono ?_
  rintro e w' ⟨rfl, rfl⟩
  go_wp2_with fail
  go_ret
  exact ⟨rfl, rfl⟩
set_option maxHeartbeats 400000 in
theorem areTimes2 (a c : Int) (b cap : Nat) (w : World) (hc : w.cell? ⟨b, 0, none⟩ = some (.int .i64 a)) (hc' : w.cell? ⟨b, 1, none⟩ = some (.int .i64 c)) :
    Calls Try.prog 54 #[.slice (some ⟨b, 0, none⟩) 2 cap] w fun e w' => e = .returned (.bool (inR 0 7200000 [a, c])) ∧ w = w' := by
  have W := Lib.hid (within2 0 7200000 a c b cap w hc hc')
  clear hc hc'
  go_enter Try.func54, Try.ntmps54
  go_wp2_with fail
  refine (W.out).mono ?_
  rintro e w' ⟨rfl, rfl⟩
  go_wp2_with fail
  go_ret
  exact ⟨rfl, rfl⟩
set_option maxRecDepth 100000 in
set_option maxHeartbeats 2000000 in
theorem fits_any (x0 : ByteArray) (x1 x2 : Int) (x3 : ByteArray) (x4 x5 : Int) (w : World) (hh : inR 0 7200000 [x1] = true) :
    Calls Try.prog 56 #[.agg #[.string x0, .int .i64 x1, .int .i64 x2, .string x3, .int .i64 x4, .int .i64 x5]] w fun e w' => e = .returned (.bool (actB x1 x2 x4 x5)) ∧ Below w.heap.size w w' := by
  obtain ⟨b1, b2⟩ := (inR_1 _ _ _).1 hh
  clear hh
  unfold actB
  by_cases a1 : x4 = 1
  · subst a1
    rw [if_pos rfl]
    cases hl : decide (x2 = 0) with
    | true =>
      obtain rfl : x2 = 0 := of_decide_eq_true hl
      clear hl

      go_enter Try.func56, Try.ntmps56
      go_wp2_with fail
      go_ret
      refine ⟨rfl, ?_⟩
      repeat (first | exact Below.refl _ _ | refine Below.setCell ?_ (by first | (simp; done) | omega | (simp; omega)) _ | refine Below.alloc ?_ (by first | (simp; done) | omega | (simp; omega)) _ | refine bel_drew ?_)
    | false =>
      have hl2 : (x2 == 0) = false := beq_eq_false_iff_ne.2 (of_decide_eq_false hl)
      clear hl

      go_enter Try.func56, Try.ntmps56
      go_wp2_with fail
      go_ret
      refine ⟨rfl, ?_⟩
      repeat (first | exact Below.refl _ _ | refine Below.setCell ?_ (by first | (simp; done) | omega | (simp; omega)) _ | refine Below.alloc ?_ (by first | (simp; done) | omega | (simp; omega)) _ | refine bel_drew ?_)
  have a1b : (x4 == 1) = false := beq_eq_false_iff_ne.2 a1
  rw [if_neg a1]
  by_cases a2 : x4 = 2
  · subst a2
    clear a1 a1b
    rw [if_pos rfl]

    go_enter Try.func56, Try.ntmps56
    go_wp2_with fail
    refine (within1 _ _ x2 _ _ _ (by first | (simp; done) | (rw [World.cell?_alloc_at _ _ _ _ (by simp)]; rfl) | (rw [World.cell?_alloc_at]; rfl))).mono ?_
    rintro e w' ⟨rfl, rfl⟩
    go_wp2_with fail
    go_ret
    refine ⟨rfl, ?_⟩
    repeat (first | exact Below.refl _ _ | refine Below.setCell ?_ (by first | (simp; done) | omega | (simp; omega)) _ | refine Below.alloc ?_ (by first | (simp; done) | omega | (simp; omega)) _ | refine bel_drew ?_)
  have a2b : (x4 == 2) = false := beq_eq_false_iff_ne.2 a2
  rw [if_neg a2]
  by_cases a3 : x4 = 3
  · subst a3
    clear a1 a1b a2 a2b
    rw [if_pos rfl]
    cases hl : decide (x2 = 0) with
    | true =>
      obtain rfl : x2 = 0 := of_decide_eq_true hl
      rw [Bool.true_and]
      clear hl
      cases hv : decide (x5 = 0) with
      | true =>
        obtain rfl : x5 = 0 := of_decide_eq_true hv
        clear hv

        go_enter Try.func56, Try.ntmps56
        go_wp2_with fail
        go_ret
        refine ⟨rfl, ?_⟩
        repeat (first | exact Below.refl _ _ | refine Below.setCell ?_ (by first | (simp; done) | omega | (simp; omega)) _ | refine Below.alloc ?_ (by first | (simp; done) | omega | (simp; omega)) _ | refine bel_drew ?_)
      | false =>
        have hv2 : (x5 == 0) = false := beq_eq_false_iff_ne.2 (of_decide_eq_false hv)
        clear hv

        go_enter Try.func56, Try.ntmps56
        go_wp2_with fail
        go_ret
        refine ⟨rfl, ?_⟩
        repeat (first | exact Below.refl _ _ | refine Below.setCell ?_ (by first | (simp; done) | omega | (simp; omega)) _ | refine Below.alloc ?_ (by first | (simp; done) | omega | (simp; omega)) _ | refine bel_drew ?_)
    | false =>
      rw [Bool.false_and]
      have hl2 : (x2 == 0) = false := beq_eq_false_iff_ne.2 (of_decide_eq_false hl)
      clear hl

      go_enter Try.func56, Try.ntmps56
      go_wp2_with fail
      go_ret
      refine ⟨rfl, ?_⟩
      repeat (first | exact Below.refl _ _ | refine Below.setCell ?_ (by first | (simp; done) | omega | (simp; omega)) _ | refine Below.alloc ?_ (by first | (simp; done) | omega | (simp; omega)) _ | refine bel_drew ?_)
  have a3b : (x4 == 3) = false := beq_eq_false_iff_ne.2 a3
  rw [if_neg a3]
  clear a1 a2 a3

  go_enter Try.func56, Try.ntmps56
  go_wp2_with fail
  go_ret
  refine ⟨rfl, ?_⟩
  repeat (first | exact Below.refl _ _ | refine Below.setCell ?_ (by first | (simp; done) | omega | (simp; omega)) _ | refine Below.alloc ?_ (by first | (simp; done) | omega | (simp; omega)) _ | refine bel_drew ?_)
set_option maxRecDepth 100000 in
set_option maxHeartbeats 4000000 in
theorem implOne_any (x0 : ByteArray) (x1 x2 : Int) (x3 : ByteArray) (x4 x5 : Int) (hm0 : x0.size ≤ maxLen) (hm3 : x3.size ≤ maxLen) (w : World) :
    Calls Try.prog 17 #[.agg #[.string x0, .int .i64 x1, .int .i64 x2, .string x3, .int .i64 x4, .int .i64 x5]] w fun e w' => e = .returned (.bool (cueB x0 x1 x2 x3 x4 x5)) ∧ Below w.heap.size w w' := by
  unfold cueB
  have I1 := Lib.hid (fun w => implName_any x0 w (by unfold maxLen at hm0; omega))
  have I2 := Lib.hid (fun w => implName_any x3 w (by unfold maxLen at hm3; omega))
  clear hm0 hm3
  have I3 := Lib.hid (fun b cap w hc => areTimes1 x1 b cap w hc)
  have I4 := Lib.hid (fun b cap w hc => within1 0 1000 x5 b cap w hc)
  have I5 := Lib.hid (fun h w => fits_any x0 x1 x2 x3 x4 x5 w h)
  generalize nameB x0.data.toList = p1 at *
  generalize nameB x3.data.toList = p2 at *
  generalize inR 0 7200000 [x1] = p3 at *
  generalize inR 0 1000 [x5] = p4 at *
  generalize actB x1 x2 x4 x5 = p5 at *
  cases p1 with
  | false =>
    rw [Bool.false_and]
    go_enter Try.func17, Try.ntmps17
    go_wp2_with fail
    refine (I1.out _).mono ?_
    rintro e wx0 ⟨rfl, hb⟩
    have hswx0 := hb.size
    try simp at hswx0
    obtain ⟨hcwx0, hfwx0⟩ := bcell hb
    have HBwx0 : Hid (Below w.heap.size w wx0) := by
      apply Lib.hid
      refine Below.trans ?_ (hb.mono ?_)
      · repeat (first | exact Below.refl _ _ | refine Below.setCell ?_ (by first | (simp; done) | omega | (simp; omega)) _ | refine Below.alloc ?_ (by first | (simp; done) | omega | (simp; omega)) _)
      · first | (simp; done) | omega | (simp; omega)
    have hzwx0 : w.heap.size < wx0.heap.size := by have := hb.size; (try simp at this); omega
    clear hb
    go_wp2_with fail
    go_ret
    refine ⟨rfl, ?_⟩
    repeat (first | exact Below.refl _ _ | exact HBwx0.out | refine Below.setCell ?_ (by first | (simp; done) | omega | (simp; omega)) _ | refine Below.alloc ?_ (by first | (simp; done) | omega | (simp; omega)) _ | refine bel_drew ?_)
  | true =>
    rw [Bool.true_and]
    cases p2 with
    | false =>
      rw [Bool.false_and]
      go_enter Try.func17, Try.ntmps17
      go_wp2_with fail
      refine (I1.out _).mono ?_
      rintro e wx0 ⟨rfl, hb⟩
      have hswx0 := hb.size
      try simp at hswx0
      obtain ⟨hcwx0, hfwx0⟩ := bcell hb
      have HBwx0 : Hid (Below w.heap.size w wx0) := by
        apply Lib.hid
        refine Below.trans ?_ (hb.mono ?_)
        · repeat (first | exact Below.refl _ _ | refine Below.setCell ?_ (by first | (simp; done) | omega | (simp; omega)) _ | refine Below.alloc ?_ (by first | (simp; done) | omega | (simp; omega)) _)
        · first | (simp; done) | omega | (simp; omega)
      have hzwx0 : w.heap.size < wx0.heap.size := by have := hb.size; (try simp at this); omega
      clear hb
      go_wp2_with fail
      refine (I2.out _).mono ?_
      rintro e wx1 ⟨rfl, hb⟩
      have hswx1 := hb.size
      try simp at hswx1
      obtain ⟨hcwx1, hfwx1⟩ := bcell hb
      have HBwx1 : Hid (Below w.heap.size w wx1) := by
        apply Lib.hid
        refine Below.trans ?_ (hb.mono ?_)
        · repeat (first | exact Below.refl _ _ | exact HBwx0.out | refine Below.setCell ?_ (by first | (simp; done) | omega | (simp; omega)) _ | refine Below.alloc ?_ (by first | (simp; done) | omega | (simp; omega)) _)
        · first | (simp; done) | omega | (simp; omega)
      have hzwx1 : w.heap.size < wx1.heap.size := by have := hb.size; (try simp at this); omega
      clear hb
      first | (have gswx1wx0 : wx0.heap.size < wx1.heap.size := by omega) | skip
      go_wp2_with fail
      go_ret
      refine ⟨rfl, ?_⟩
      repeat (first | exact Below.refl _ _ | exact HBwx1.out | refine Below.setCell ?_ (by first | (simp; done) | omega | (simp; omega)) _ | refine Below.alloc ?_ (by first | (simp; done) | omega | (simp; omega)) _ | refine bel_drew ?_)
    | true =>
      rw [Bool.true_and]
      cases p3 with
      | false =>
        rw [Bool.false_and]
        go_enter Try.func17, Try.ntmps17
        go_wp2_with fail
        refine (I1.out _).mono ?_
        rintro e wx0 ⟨rfl, hb⟩
        have hswx0 := hb.size
        try simp at hswx0
        obtain ⟨hcwx0, hfwx0⟩ := bcell hb
        have HBwx0 : Hid (Below w.heap.size w wx0) := by
          apply Lib.hid
          refine Below.trans ?_ (hb.mono ?_)
          · repeat (first | exact Below.refl _ _ | refine Below.setCell ?_ (by first | (simp; done) | omega | (simp; omega)) _ | refine Below.alloc ?_ (by first | (simp; done) | omega | (simp; omega)) _)
          · first | (simp; done) | omega | (simp; omega)
        have hzwx0 : w.heap.size < wx0.heap.size := by have := hb.size; (try simp at this); omega
        clear hb
        go_wp2_with fail
        refine (I2.out _).mono ?_
        rintro e wx1 ⟨rfl, hb⟩
        have hswx1 := hb.size
        try simp at hswx1
        obtain ⟨hcwx1, hfwx1⟩ := bcell hb
        have HBwx1 : Hid (Below w.heap.size w wx1) := by
          apply Lib.hid
          refine Below.trans ?_ (hb.mono ?_)
          · repeat (first | exact Below.refl _ _ | exact HBwx0.out | refine Below.setCell ?_ (by first | (simp; done) | omega | (simp; omega)) _ | refine Below.alloc ?_ (by first | (simp; done) | omega | (simp; omega)) _)
          · first | (simp; done) | omega | (simp; omega)
        have hzwx1 : w.heap.size < wx1.heap.size := by have := hb.size; (try simp at this); omega
        clear hb
        first | (have gswx1wx0 : wx0.heap.size < wx1.heap.size := by omega) | skip
        go_wp2_with fail
        refine (I3.out _ _ _ (by first | (simp; done) | (rw [World.cell?_alloc_at _ _ _ _ (by simp)]; rfl) | (rw [World.cell?_alloc_at]; rfl))).mono ?_
        rintro e w' ⟨rfl, rfl⟩
        go_wp2_with fail
        go_ret
        refine ⟨rfl, ?_⟩
        repeat (first | exact Below.refl _ _ | exact HBwx1.out | refine Below.setCell ?_ (by first | (simp; done) | omega | (simp; omega)) _ | refine Below.alloc ?_ (by first | (simp; done) | omega | (simp; omega)) _ | refine bel_drew ?_)
      | true =>
        rw [Bool.true_and]
        cases p4 with
        | false =>
          rw [Bool.false_and]
          go_enter Try.func17, Try.ntmps17
          go_wp2_with fail
          refine (I1.out _).mono ?_
          rintro e wx0 ⟨rfl, hb⟩
          have hswx0 := hb.size
          try simp at hswx0
          obtain ⟨hcwx0, hfwx0⟩ := bcell hb
          have HBwx0 : Hid (Below w.heap.size w wx0) := by
            apply Lib.hid
            refine Below.trans ?_ (hb.mono ?_)
            · repeat (first | exact Below.refl _ _ | refine Below.setCell ?_ (by first | (simp; done) | omega | (simp; omega)) _ | refine Below.alloc ?_ (by first | (simp; done) | omega | (simp; omega)) _)
            · first | (simp; done) | omega | (simp; omega)
          have hzwx0 : w.heap.size < wx0.heap.size := by have := hb.size; (try simp at this); omega
          clear hb
          go_wp2_with fail
          refine (I2.out _).mono ?_
          rintro e wx1 ⟨rfl, hb⟩
          have hswx1 := hb.size
          try simp at hswx1
          obtain ⟨hcwx1, hfwx1⟩ := bcell hb
          have HBwx1 : Hid (Below w.heap.size w wx1) := by
            apply Lib.hid
            refine Below.trans ?_ (hb.mono ?_)
            · repeat (first | exact Below.refl _ _ | exact HBwx0.out | refine Below.setCell ?_ (by first | (simp; done) | omega | (simp; omega)) _ | refine Below.alloc ?_ (by first | (simp; done) | omega | (simp; omega)) _)
            · first | (simp; done) | omega | (simp; omega)
          have hzwx1 : w.heap.size < wx1.heap.size := by have := hb.size; (try simp at this); omega
          clear hb
          first | (have gswx1wx0 : wx0.heap.size < wx1.heap.size := by omega) | skip
          go_wp2_with fail
          refine (I3.out _ _ _ (by first | (simp; done) | (rw [World.cell?_alloc_at _ _ _ _ (by simp)]; rfl) | (rw [World.cell?_alloc_at]; rfl))).mono ?_
          rintro e w' ⟨rfl, rfl⟩
          go_wp2_with fail
          refine (I4.out _ _ _ (by first | (simp; done) | (rw [World.cell?_alloc_at _ _ _ _ (by simp)]; rfl) | (rw [World.cell?_alloc_at]; rfl))).mono ?_
          rintro e w' ⟨rfl, rfl⟩
          go_wp2_with fail
          go_ret
          refine ⟨rfl, ?_⟩
          repeat (first | exact Below.refl _ _ | exact HBwx1.out | refine Below.setCell ?_ (by first | (simp; done) | omega | (simp; omega)) _ | refine Below.alloc ?_ (by first | (simp; done) | omega | (simp; omega)) _ | refine bel_drew ?_)
        | true =>
          rw [Bool.true_and]
          go_enter Try.func17, Try.ntmps17
          go_wp2_with fail
          refine (I1.out _).mono ?_
          rintro e wx0 ⟨rfl, hb⟩
          have hswx0 := hb.size
          try simp at hswx0
          obtain ⟨hcwx0, hfwx0⟩ := bcell hb
          have HBwx0 : Hid (Below w.heap.size w wx0) := by
            apply Lib.hid
            refine Below.trans ?_ (hb.mono ?_)
            · repeat (first | exact Below.refl _ _ | refine Below.setCell ?_ (by first | (simp; done) | omega | (simp; omega)) _ | refine Below.alloc ?_ (by first | (simp; done) | omega | (simp; omega)) _)
            · first | (simp; done) | omega | (simp; omega)
          have hzwx0 : w.heap.size < wx0.heap.size := by have := hb.size; (try simp at this); omega
          clear hb
          go_wp2_with fail
          refine (I2.out _).mono ?_
          rintro e wx1 ⟨rfl, hb⟩
          have hswx1 := hb.size
          try simp at hswx1
          obtain ⟨hcwx1, hfwx1⟩ := bcell hb
          have HBwx1 : Hid (Below w.heap.size w wx1) := by
            apply Lib.hid
            refine Below.trans ?_ (hb.mono ?_)
            · repeat (first | exact Below.refl _ _ | exact HBwx0.out | refine Below.setCell ?_ (by first | (simp; done) | omega | (simp; omega)) _ | refine Below.alloc ?_ (by first | (simp; done) | omega | (simp; omega)) _)
            · first | (simp; done) | omega | (simp; omega)
          have hzwx1 : w.heap.size < wx1.heap.size := by have := hb.size; (try simp at this); omega
          clear hb
          first | (have gswx1wx0 : wx0.heap.size < wx1.heap.size := by omega) | skip
          go_wp2_with fail
          refine (I3.out _ _ _ (by first | (simp; done) | (rw [World.cell?_alloc_at _ _ _ _ (by simp)]; rfl) | (rw [World.cell?_alloc_at]; rfl))).mono ?_
          rintro e w' ⟨rfl, rfl⟩
          go_wp2_with fail
          refine (I4.out _ _ _ (by first | (simp; done) | (rw [World.cell?_alloc_at _ _ _ _ (by simp)]; rfl) | (rw [World.cell?_alloc_at]; rfl))).mono ?_
          rintro e w' ⟨rfl, rfl⟩
          go_wp2_with fail
          refine (I5.out (by first | rfl | trivial) _).mono ?_
          rintro e wx4 ⟨rfl, hb⟩
          have hswx4 := hb.size
          try simp at hswx4
          obtain ⟨hcwx4, hfwx4⟩ := bcell hb
          have HBwx4 : Hid (Below w.heap.size w wx4) := by
            apply Lib.hid
            refine Below.trans ?_ (hb.mono ?_)
            · repeat (first | exact Below.refl _ _ | exact HBwx1.out | refine Below.setCell ?_ (by first | (simp; done) | omega | (simp; omega)) _ | refine Below.alloc ?_ (by first | (simp; done) | omega | (simp; omega)) _)
            · first | (simp; done) | omega | (simp; omega)
          have hzwx4 : w.heap.size < wx4.heap.size := by have := hb.size; (try simp at this); omega
          clear hb
          first | (have gswx4wx0 : wx0.heap.size < wx4.heap.size := by omega) | skip
          first | (have gswx4wx1 : wx1.heap.size < wx4.heap.size := by omega) | skip
          go_wp2_with fail
          go_ret
          refine ⟨rfl, ?_⟩
          repeat (first | exact Below.refl _ _ | exact HBwx4.out | refine Below.setCell ?_ (by first | (simp; done) | omega | (simp; omega)) _ | refine Below.alloc ?_ (by first | (simp; done) | omega | (simp; omega)) _ | refine bel_drew ?_)

set_option maxHeartbeats 400000 in
theorem nanS_any (x : ByteArray) (w : World) : Calls Try.prog 113 #[.string x] w fun e w' => e = .returned (.bool false) ∧ w = w' := by
  have h : (x.toList != x.toList) = false := by simp
  have h2 : (x.toList == x.toList) = true := by simp
  go_enter Try.func113, Try.ntmps113
  go_wp2_with fail
  go_ret
  exact ⟨by simp, rfl⟩
set_option maxHeartbeats 400000 in
theorem nanI_any (x : Int) (w : World) : Calls Try.prog 112 #[.int .i64 x] w fun e w' => e = .returned (.bool false) ∧ w = w' := by
  have h : (x != x) = false := by simp
  have h2 : (x == x) = true := by simp
  go_enter Try.func112, Try.ntmps112
  go_wp2_with fail
  go_ret
  exact ⟨by simp, rfl⟩
set_option maxHeartbeats 400000 in
theorem cmpS_any (x y : ByteArray) (w : World) : Calls Try.prog 94 #[.string x, .string y] w fun e w' => e = .returned (.int .i64 (cmpS x y)) ∧ w = w' := by
  have NX := Lib.hid (fun w => nanS_any x w)
  have NY := Lib.hid (fun w => nanS_any y w)
  unfold cmpS
  cases h1 : Op.bytesLess x.toList y.toList with
  | true =>
    rw [if_pos rfl]
    go_enter Try.func94, Try.ntmps94
    go_wp2_with fail
    refine (NX.out _).mono ?_
    rintro e w' ⟨rfl, rfl⟩
    go_wp2_with fail
    refine (NY.out _).mono ?_
    rintro e w' ⟨rfl, rfl⟩
    go_wp2_with fail
    go_ret
    exact ⟨rfl, rfl⟩
  | false =>
    rw [if_neg (by simp)]
    cases h2 : (x.toList == y.toList) with
    | true =>
      rw [if_pos rfl]
      go_enter Try.func94, Try.ntmps94
      go_wp2_with fail
      refine (NX.out _).mono ?_
      rintro e w' ⟨rfl, rfl⟩
      go_wp2_with fail
      refine (NY.out _).mono ?_
      rintro e w' ⟨rfl, rfl⟩
      go_wp2_with fail
      go_ret
      exact ⟨rfl, rfl⟩
    | false =>
      rw [if_neg (by simp)]
      go_enter Try.func94, Try.ntmps94
      go_wp2_with fail
      refine (NX.out _).mono ?_
      rintro e w' ⟨rfl, rfl⟩
      go_wp2_with fail
      refine (NY.out _).mono ?_
      rintro e w' ⟨rfl, rfl⟩
      go_wp2_with fail
      go_ret
      exact ⟨rfl, rfl⟩
set_option maxHeartbeats 400000 in
theorem cmpI_any (x y : Int) (w : World) : Calls Try.prog 93 #[.int .i64 x, .int .i64 y] w fun e w' => e = .returned (.int .i64 (cmpI x y)) ∧ w = w' := by
  have NX := Lib.hid (fun w => nanI_any x w)
  have NY := Lib.hid (fun w => nanI_any y w)
  unfold cmpI
  cases h1 : decide (x < y) with
  | true =>
    have k1 : x < y := of_decide_eq_true h1
    rw [if_pos k1]
    go_enter Try.func93, Try.ntmps93
    go_wp2_with fail
    refine (NX.out _).mono ?_
    rintro e w' ⟨rfl, rfl⟩
    go_wp2_with fail
    refine (NY.out _).mono ?_
    rintro e w' ⟨rfl, rfl⟩
    go_wp2_with fail
    go_ret
    exact ⟨rfl, rfl⟩
  | false =>
    have k1 : ¬ x < y := of_decide_eq_false h1
    rw [if_neg k1]
    cases h2 : decide (y < x) with
    | true =>
      have k2 : y < x := of_decide_eq_true h2
      rw [if_pos k2]
      go_enter Try.func93, Try.ntmps93
      go_wp2_with fail
      refine (NX.out _).mono ?_
      rintro e w' ⟨rfl, rfl⟩
      go_wp2_with fail
      refine (NY.out _).mono ?_
      rintro e w' ⟨rfl, rfl⟩
      go_wp2_with fail
      go_ret
      exact ⟨rfl, rfl⟩
    | false =>
      have k2 : ¬ y < x := of_decide_eq_false h2
      rw [if_neg k2]
      go_enter Try.func93, Try.ntmps93
      go_wp2_with fail
      refine (NX.out _).mono ?_
      rintro e w' ⟨rfl, rfl⟩
      go_wp2_with fail
      refine (NY.out _).mono ?_
      rintro e w' ⟨rfl, rfl⟩
      go_wp2_with fail
      go_ret
      exact ⟨rfl, rfl⟩
set_option maxHeartbeats 1000000 in
theorem cmpOr_any (a c : Int) (b cap : Nat) (w : World) (hc0 : w.cell? ⟨b, 0, none⟩ = some (.int .i64 a)) (hc1 : w.cell? ⟨b, 1, none⟩ = some (.int .i64 c)) :
    Calls Try.prog 92 #[.slice (some ⟨b, 0, none⟩) 2 cap] w fun e w' => e = .returned (.int .i64 (if a = 0 then c else a)) ∧ w = w' := by
  obtain ⟨r, hr⟩ : ∃ r, r = if a = 0 then c else a := ⟨_, rfl⟩
  rw [← hr]
  have HR := Lib.hid hr
  clear hr
  go_enter Try.func92, Try.ntmps92
  go_wp2_with fail
  go_loopg [8] 3 (fun kx s8 wr => ∃ k : Nat, s8 = .int .i64 (k : Int) ∧ k ≤ 2 ∧ kx = 3 - k ∧ w = wr ∧ Hid (1 ≤ k → a = 0) ∧ Hid (2 ≤ k → c = 0))
  case atStart => exact ⟨0, rfl, by omega, rfl, rfl, Lib.hid (fun h => by omega), Lib.hid (fun h => by omega)⟩
  case round =>
    obtain ⟨k, rfl, hk, rfl, rfl, HA, HC⟩ := hrel
    rcases (by omega : k = 0 ∨ k = 1 ∨ k = 2) with rfl | rfl | rfl
    · by_cases ha : a = 0
      · subst ha
        go_wp2_with fail
        go_roundg 2
        case measure => omega
        case rel => exact ⟨1, by go_num, by omega, by omega, rfl, Lib.hid (by simp), Lib.hid (fun h => by omega)⟩
      · have h1 : (a == 0) = false := beq_eq_false_iff_ne.2 ha
        have h2 : (a != 0) = true := by rw [bne, h1]; rfl
        have hr := HR.out
        rw [if_neg ha] at hr
        subst hr
        go_wp2_with fail
        go_ret
        exact ⟨rfl, rfl⟩
    · have ha := HA.out (Nat.le_refl _)
      have hr := HR.out
      rw [if_pos ha] at hr
      clear ha
      by_cases hc : c = 0
      · subst hc
        go_wp2_with fail
        go_roundg 1
        case measure => omega
        case rel => exact ⟨2, by go_num, by omega, by omega, rfl, Lib.hid (fun _ => HA.out (Nat.le_refl _)), Lib.hid (by simp)⟩
      · have h1 : (c == 0) = false := beq_eq_false_iff_ne.2 hc
        have h2 : (c != 0) = true := by rw [bne, h1]; rfl
        subst hr
        go_wp2_with fail
        go_ret
        exact ⟨rfl, rfl⟩
    · have ha := HA.out (by omega)
      have hc := HC.out (Nat.le_refl _)
      have hr := HR.out
      rw [if_pos ha, hc] at hr
      clear ha hc
      subst hr
      go_wp2_with fail
      go_ret
      exact ⟨rfl, rfl⟩
set_option maxRecDepth 100000 in
set_option maxHeartbeats 4000000 in
theorem cmpC_any (x0 : ByteArray) (x1 x2 : Int) (x3 : ByteArray) (x4 x5 : Int) (y0 : ByteArray) (y1 y2 : Int) (y3 : ByteArray) (y4 y5 : Int) (w : World) :
    Calls Try.prog 59 #[.agg #[.string x0, .int .i64 x1, .int .i64 x2, .string x3, .int .i64 x4, .int .i64 x5], .agg #[.string y0, .int .i64 y1, .int .i64 y2, .string y3, .int .i64 y4, .int .i64 y5]] w fun e w' => e = .returned (.int .i64 (cmpC ⟨x0, x1, x2, x3, x4, x5⟩ ⟨y0, y1, y2, y3, y4, y5⟩)) ∧ Below w.heap.size w w' := by
  have CI := Lib.hid (fun w => cmpI_any x1 y1 w)
  have CS := Lib.hid (fun w => cmpS_any x0 y0 w)
  show Calls _ _ _ _ (fun e w' => e = .returned (.int .i64 (if cmpI x1 y1 = 0 then cmpS x0 y0 else cmpI x1 y1)) ∧ Below w.heap.size w w')
  generalize cmpI x1 y1 = a at *
  generalize cmpS x0 y0 = c at *
  have CO := Lib.hid (fun b cap w h0 h1 => cmpOr_any a c b cap w h0 h1)
  obtain ⟨r, hr⟩ : ∃ r, r = if a = 0 then c else a := ⟨_, rfl⟩
  rw [← hr] at CO ⊢
  clear hr
  obtain ⟨W0, hW0⟩ : ∃ W0, W0 = (w.alloc (Obj.cells #[.string x0, .int .i64 x1, .int .i64 x2, .string x3, .int .i64 x4, .int .i64 x5] 26)).alloc (Obj.cells #[.string y0, .int .i64 y1, .int .i64 y2, .string y3, .int .i64 y4, .int .i64 y5] 26) := ⟨_, rfl⟩
  have hB0 : Below w.heap.size w W0 := by rw [hW0]; exact ((Below.refl _ w).alloc (Nat.le_refl _) _).alloc (by simp) _
  have e0 : W0.cell? ⟨w.heap.size, 0, none⟩ = some (.string x0) := by rw [hW0, World.cell?_alloc_lt _ _ _ (by simp)]; simp
  have e1 : W0.cell? ⟨w.heap.size, 1, none⟩ = some (.int .i64 x1) := by rw [hW0, World.cell?_alloc_lt _ _ _ (by simp)]; simp
  have d0 : W0.cell? ⟨w.heap.size + 1, 0, none⟩ = some (.string y0) := by rw [hW0]; first | (simp; done) | (rw [show w.heap.size + 1 = (w.alloc (Obj.cells #[.string x0, .int .i64 x1, .int .i64 x2, .string x3, .int .i64 x4, .int .i64 x5] 26)).heap.size by simp]; simp; done) | (rw [show w.heap.size + 1 = (w.alloc (Obj.cells #[.string x0, .int .i64 x1, .int .i64 x2, .string x3, .int .i64 x4, .int .i64 x5] 26)).heap.size by simp, World.cell?_alloc_at]; rfl)
  have d1 : W0.cell? ⟨w.heap.size + 1, 1, none⟩ = some (.int .i64 y1) := by rw [hW0]; first | (simp; done) | (rw [show w.heap.size + 1 = (w.alloc (Obj.cells #[.string x0, .int .i64 x1, .int .i64 x2, .string x3, .int .i64 x4, .int .i64 x5] 26)).heap.size by simp]; simp; done) | (rw [show w.heap.size + 1 = (w.alloc (Obj.cells #[.string x0, .int .i64 x1, .int .i64 x2, .string x3, .int .i64 x4, .int .i64 x5] 26)).heap.size by simp, World.cell?_alloc_at]; rfl)
  have K : Hid (W0.cell? ⟨w.heap.size, 0, none⟩ = some (.string x0) ∧ W0.cell? ⟨w.heap.size, 1, none⟩ = some (.int .i64 x1) ∧ W0.cell? ⟨w.heap.size + 1, 0, none⟩ = some (.string y0) ∧ W0.cell? ⟨w.heap.size + 1, 1, none⟩ = some (.int .i64 y1) ∧ Below w.heap.size w W0) := Lib.hid ⟨e0, e1, d0, d1, hB0⟩
  have HW := Lib.hid hW0
  clear hW0 hB0 e0 e1 d0 d1
  go_enter Try.func59, Try.ntmps59
  go_wp2_with fail
  rw [← HW.out]
  clear HW
  go_region_held3 (fun W => W.cell? ⟨w.heap.size, 0, none⟩ = some (.string x0) ∧ W.cell? ⟨w.heap.size, 1, none⟩ = some (.int .i64 x1) ∧ W.cell? ⟨w.heap.size + 1, 0, none⟩ = some (.string y0) ∧ W.cell? ⟨w.heap.size + 1, 1, none⟩ = some (.int .i64 y1) ∧ Below w.heap.size w W) (first | (exact keepW4 K.out (drewG W0)) | (exact keepW4 K.out ((drewG W0).alloc (Nat.le_refl _) _)) | go_keep) ((first
    | (go_at_call 93; refine (CI.out _).mono ?_; rintro e w' ⟨rfl, rfl⟩)
    | (go_at_call 94; refine (CS.out _).mono ?_; rintro e w' ⟨rfl, rfl⟩)
    | (go_at_call 92; refine (CO.out _ _ _ (by simp) (by simp)).mono ?_; rintro e w' ⟨rfl, rfl⟩)))
  all_goals
    rename_i held
    have HH := Lib.hid held.2.2.2.2
    clear held K
    go_wp2_with fail
    go_ret
    exact ⟨rfl, HH.out⟩
set_option maxRecDepth 100000 in
set_option maxHeartbeats 8000000 in
theorem incr_any (g cap : Nat) (zs : List V) (w : World) (hb : zs.length ≤ 1048577) (h1 : Row w g zs) (hok : ∀ j, (h : j < zs.length) → zs[j].txt) :
    Calls Try.prog 58 #[.slice (some ⟨g, 0, none⟩) zs.length cap, .int .i64 32, .func (.func 17) #[] #[], .func (.func 59) #[] #[]] w fun e w' => e = .returned (.bool (incB zs)) ∧ Below w.heap.size w w' := by
  have H1 := Lib.hid h1
  have KN := Lib.hid (okZ_next zs)
  have KS := Lib.hid (okZ_stop zs)
  have KE : Hid (incB zs = (okZ zs zs.length && decide (zs.length ≤ 32))) := Lib.hid rfl
  have HK := Lib.hid hok
  generalize incB zs = r at *
  clear h1 hok
  by_cases hmo : 32 < zs.length
  · have hr : r = false := by rw [KE.out, show decide (zs.length ≤ 32) = false by simpa using hmo, Bool.and_false]
    subst hr
    have hmo' : (32 : Int) < (zs.length : Int) := by omega
    go_enter Try.func58, Try.ntmps58
    go_wp2_with fail
    go_ret
    exact ⟨rfl, Below.refl _ _⟩
  · have hmo' : ¬ (32 : Int) < (zs.length : Int) := by omega
    have hE : r = okZ zs zs.length := by rw [KE.out, show decide (zs.length ≤ 32) = true by simpa using Nat.not_lt.1 hmo, Bool.and_true]
    have HE := Lib.hid hE
    clear hE KE
    go_enter Try.func58, Try.ntmps58
    go_wp2_with fail
    go_loopg [17] (zs.length + 1) (fun kx s17 wr => ∃ j : Nat, s17 = .int .i64 (j : Int) ∧ j ≤ zs.length ∧ kx = zs.length + 1 - j ∧ Hid (okZ zs j = true) ∧ Hid (Below w.heap.size w wr))
    case atStart => exact ⟨0, rfl, Nat.zero_le _, rfl, Lib.hid rfl, Lib.hid (Below.refl _ _)⟩
    case round =>
      obtain ⟨j, rfl, hj, rfl, HO, HB⟩ := hrel
      by_cases hlt : j < zs.length
      · have hR := H1.out.below HB.out
        obtain ⟨c0, c1, c2, c3, c4, c5⟩ := hR.at j hlt
        have V := Lib.hid (fun w => implOne_any zs[j].f0 zs[j].f1 zs[j].f2 zs[j].f3 zs[j].f4 zs[j].f5 (HK.out j hlt).1 (HK.out j hlt).2 w)
        have HS := Lib.hid (KS.out j hlt)
        have HN := Lib.hid (KN.out j)
        have j0 : (0 : Int) ≤ (j : Int) := by omega
        have j1 : (j : Int) < (zs.length : Int) := by omega
        have GD := getD_at zs j hlt
        have hgd : zs[j].good = cueB zs[j].f0 zs[j].f1 zs[j].f2 zs[j].f3 zs[j].f4 zs[j].f5 := rfl
        rw [← hgd] at V
        clear hgd
        obtain ⟨W0, hW0⟩ : ∃ W0, W0 = wr.alloc (Obj.cells #[.string zs[j].f0, .int .i64 zs[j].f1, .int .i64 zs[j].f2, .string zs[j].f3, .int .i64 zs[j].f4, .int .i64 zs[j].f5] 26) := ⟨_, rfl⟩
        have hB0 : Below wr.heap.size wr W0 := by rw [hW0]; exact (Below.refl _ wr).alloc (Nat.le_refl _) _
        have HB0 : Below w.heap.size w W0 := HB.out.trans (hB0.mono HB.out.size)
        have e0 : W0.cell? ⟨wr.heap.size, 0, none⟩ = some (.string zs[j].f0) := by rw [hW0]; simp
        have e1 : W0.cell? ⟨wr.heap.size, 1, none⟩ = some (.int .i64 zs[j].f1) := by rw [hW0]; simp
        have e2 : W0.cell? ⟨wr.heap.size, 2, none⟩ = some (.int .i64 zs[j].f2) := by rw [hW0]; simp
        have e3 : W0.cell? ⟨wr.heap.size, 3, none⟩ = some (.string zs[j].f3) := by rw [hW0]; simp
        have e4 : W0.cell? ⟨wr.heap.size, 4, none⟩ = some (.int .i64 zs[j].f4) := by rw [hW0]; simp
        have e5 : W0.cell? ⟨wr.heap.size, 5, none⟩ = some (.int .i64 zs[j].f5) := by rw [hW0]; simp
        have HW := Lib.hid hW0
        clear hW0
        cases hg : zs[j].good with
        | false =>
          have hst : stepB zs j = false := by unfold stepB; rw [GD, hg]; rfl
          have hr : r = false := HS.out hst
          rw [hg] at V
          subst hr
          clear hg hst GD hR HS HN KS KN hB0
          generalize zs[j] = x at *
          obtain ⟨x0, x1, x2, x3, x4, x5⟩ := x
          simp only at c0 c1 c2 c3 c4 c5 V e0 e1 e2 e3 e4 e5 HW
          go_wp2_with fail
          rw [← HW.out]
          clear HW c0 c1 c2 c3 c4 c5
          have KX : Hid (W0.cell? ⟨wr.heap.size, 0, none⟩ = some (.string x0) ∧ W0.cell? ⟨wr.heap.size, 1, none⟩ = some (.int .i64 x1) ∧ W0.cell? ⟨wr.heap.size, 2, none⟩ = some (.int .i64 x2) ∧ W0.cell? ⟨wr.heap.size, 3, none⟩ = some (.string x3) ∧ W0.cell? ⟨wr.heap.size, 4, none⟩ = some (.int .i64 x4) ∧ W0.cell? ⟨wr.heap.size, 5, none⟩ = some (.int .i64 x5) ∧ Below w.heap.size w W0) := Lib.hid ⟨e0, e1, e2, e3, e4, e5, HB0⟩
          clear e0 e1 e2 e3 e4 e5 HB0
          refine wp_region_held_drew (S := fun W => W.cell? ⟨wr.heap.size, 0, none⟩ = some (.string x0) ∧ W.cell? ⟨wr.heap.size, 1, none⟩ = some (.int .i64 x1) ∧ W.cell? ⟨wr.heap.size, 2, none⟩ = some (.int .i64 x2) ∧ W.cell? ⟨wr.heap.size, 3, none⟩ = some (.string x3) ∧ W.cell? ⟨wr.heap.size, 4, none⟩ = some (.int .i64 x4) ∧ W.cell? ⟨wr.heap.size, 5, none⟩ = some (.int .i64 x5) ∧ Below w.heap.size w W) (by kernel_rfl) ?_ (fun hHeld => ?_)
          · exact keepW6 KX.out (drewG W0)
          refine wpAnyH_take (i := 0) rfl (by kernel_rfl) (by kernel_rfl) (by kernel_rfl) (fun _ _ _ h => h) (Or.inl ⟨by kernel_rfl, fun w hSw => by (try dsimp only at hSw); go_simp; (try with_reducible rfl)⟩) hHeld ?_
          try simp only [List.getElem_toArray, List.getElem_cons_zero, List.getElem_cons_succ, Act.put, List.setIfInBounds_toArray, List.set_cons_zero, List.set_cons_succ]
          refine wpAnyH_take (i := 1) rfl (by kernel_rfl) (by kernel_rfl) (by kernel_rfl) (fun _ _ _ h => h) (Or.inl ⟨by kernel_rfl, fun w hSw => by (try dsimp only at hSw); go_simp; (try with_reducible rfl)⟩) hHeld ?_
          try simp only [List.getElem_toArray, List.getElem_cons_zero, List.getElem_cons_succ, Act.put, List.setIfInBounds_toArray, List.set_cons_zero, List.set_cons_succ]
          refine wpAnyH_ready (rs := [2]) (by kernel_rfl) (by simp) ?_
          refine AllReadyH.cons rfl (fun KK hK => ?_) AllReadyH.nil
          go_simp
          first | go_at_call 17 | skip
          refine (V.out _).mono ?_
          rintro e z1 ⟨rfl, hz1⟩
          have w1 := undrewG hz1
          refine hK.out _ _ ?_ (fun hHeld2 => ?_)
          · exact keepW6 KX.out w1
          clear hK KK hHeld hz1 w1 KX
          try simp only [List.getElem_toArray, List.getElem_cons_zero, List.getElem_cons_succ, Act.put, List.setIfInBounds_toArray, List.set_cons_zero, List.set_cons_succ]
          refine wpAnyH_take (i := 3) rfl (by kernel_rfl) (by kernel_rfl) (by kernel_rfl) (fun _ _ _ h => h) (Or.inl ⟨by kernel_rfl, fun w hSw => by (try dsimp only at hSw); go_simp; (try with_reducible rfl)⟩) hHeld2 ?_
          try simp only [List.getElem_toArray, List.getElem_cons_zero, List.getElem_cons_succ, Act.put, List.setIfInBounds_toArray, List.set_cons_zero, List.set_cons_succ]
          refine wpAnyH_take (i := 4) rfl (by kernel_rfl) (by kernel_rfl) (by kernel_rfl) (fun _ _ _ h => h) (Or.inl ⟨by kernel_rfl, fun w hSw => by (try dsimp only at hSw); go_simp; (try with_reducible rfl)⟩) hHeld2 ?_
          try simp only [List.getElem_toArray, List.getElem_cons_zero, List.getElem_cons_succ, Act.put, List.setIfInBounds_toArray, List.set_cons_zero, List.set_cons_succ]
          refine wpAnyH_take (i := 5) rfl (by kernel_rfl) (by kernel_rfl) (by kernel_rfl) (fun _ _ _ h => h) (Or.inr ⟨by kernel_rfl, rfl⟩) hHeld2 ?_
          try simp only [List.getElem_toArray, List.getElem_cons_zero, List.getElem_cons_succ, Act.put, List.setIfInBounds_toArray, List.set_cons_zero, List.set_cons_succ]
          refine wpAnyH_take (i := 6) rfl (by kernel_rfl) (by kernel_rfl) (by kernel_rfl) (fun _ _ _ h => h) (Or.inr ⟨by kernel_rfl, rfl⟩) hHeld2 ?_
          try simp only [List.getElem_toArray, List.getElem_cons_zero, List.getElem_cons_succ, Act.put, List.setIfInBounds_toArray, List.set_cons_zero, List.set_cons_succ]
          refine wpAnyH_take (i := 7) rfl (by kernel_rfl) (by kernel_rfl) (by kernel_rfl) (fun _ _ _ h => h) (Or.inr ⟨by kernel_rfl, rfl⟩) hHeld2 ?_
          try simp only [List.getElem_toArray, List.getElem_cons_zero, List.getElem_cons_succ, Act.put, List.setIfInBounds_toArray, List.set_cons_zero, List.set_cons_succ]
          refine wpAnyH_take (i := 8) rfl (by kernel_rfl) (by kernel_rfl) (by kernel_rfl) (fun _ _ _ h => h) (Or.inr ⟨by kernel_rfl, rfl⟩) hHeld2 ?_
          try simp only [List.getElem_toArray, List.getElem_cons_zero, List.getElem_cons_succ, Act.put, List.setIfInBounds_toArray, List.set_cons_zero, List.set_cons_succ]
          refine wpAnyH_take (i := 9) rfl (by kernel_rfl) (by kernel_rfl) (by kernel_rfl) (fun _ _ _ h => h) (Or.inr ⟨by kernel_rfl, rfl⟩) hHeld2 ?_
          try simp only [List.getElem_toArray, List.getElem_cons_zero, List.getElem_cons_succ, Act.put, List.setIfInBounds_toArray, List.set_cons_zero, List.set_cons_succ]
          refine wpAnyH_take (i := 10) rfl (by kernel_rfl) (by kernel_rfl) (by kernel_rfl) (fun _ _ _ h => h) (Or.inr ⟨by kernel_rfl, rfl⟩) hHeld2 ?_
          try simp only [List.getElem_toArray, List.getElem_cons_zero, List.getElem_cons_succ, Act.put, List.setIfInBounds_toArray, List.set_cons_zero, List.set_cons_succ]
          refine wpAnyH_take (i := 11) rfl (by kernel_rfl) (by kernel_rfl) (by kernel_rfl) (fun _ _ _ h => h) (Or.inr ⟨by kernel_rfl, rfl⟩) hHeld2 ?_
          try simp only [List.getElem_toArray, List.getElem_cons_zero, List.getElem_cons_succ, Act.put, List.setIfInBounds_toArray, List.set_cons_zero, List.set_cons_succ]
          refine wpAnyH_take (i := 12) rfl (by kernel_rfl) (by kernel_rfl) (by kernel_rfl) (fun _ _ _ h => h) (Or.inr ⟨by kernel_rfl, rfl⟩) hHeld2 ?_
          try simp only [List.getElem_toArray, List.getElem_cons_zero, List.getElem_cons_succ, Act.put, List.setIfInBounds_toArray, List.set_cons_zero, List.set_cons_succ]
          refine wpAnyH_take (i := 13) rfl (by kernel_rfl) (by kernel_rfl) (by kernel_rfl) (fun _ _ _ h => h) (Or.inr ⟨by kernel_rfl, rfl⟩) hHeld2 ?_
          try simp only [List.getElem_toArray, List.getElem_cons_zero, List.getElem_cons_succ, Act.put, List.setIfInBounds_toArray, List.set_cons_zero, List.set_cons_succ]
          refine wpAnyH_take (i := 14) rfl (by kernel_rfl) (by kernel_rfl) (by kernel_rfl) (fun _ _ _ h => h) (Or.inr ⟨by kernel_rfl, rfl⟩) hHeld2 ?_
          try simp only [List.getElem_toArray, List.getElem_cons_zero, List.getElem_cons_succ, Act.put, List.setIfInBounds_toArray, List.set_cons_zero, List.set_cons_succ]
          refine wpAnyH_take (i := 15) rfl (by kernel_rfl) (by kernel_rfl) (by kernel_rfl) (fun _ _ _ h => h) (Or.inr ⟨by kernel_rfl, rfl⟩) hHeld2 ?_
          try simp only [List.getElem_toArray, List.getElem_cons_zero, List.getElem_cons_succ, Act.put, List.setIfInBounds_toArray, List.set_cons_zero, List.set_cons_succ]
          refine wpAnyH_take (i := 16) rfl (by kernel_rfl) (by kernel_rfl) (by kernel_rfl) (fun _ _ _ h => h) (Or.inr ⟨by kernel_rfl, rfl⟩) hHeld2 ?_
          try simp only [List.getElem_toArray, List.getElem_cons_zero, List.getElem_cons_succ, Act.put, List.setIfInBounds_toArray, List.set_cons_zero, List.set_cons_succ]
          refine wpAnyH_take (i := 17) rfl (by kernel_rfl) (by kernel_rfl) (by kernel_rfl) (fun _ _ _ h => h) (Or.inr ⟨by kernel_rfl, rfl⟩) hHeld2 ?_
          try simp only [List.getElem_toArray, List.getElem_cons_zero, List.getElem_cons_succ, Act.put, List.setIfInBounds_toArray, List.set_cons_zero, List.set_cons_succ]
          refine wpAnyH_take (i := 18) rfl (by kernel_rfl) (by kernel_rfl) (by kernel_rfl) (fun _ _ _ h => h) (Or.inl ⟨by kernel_rfl, fun w hSw => by (try dsimp only at hSw); go_simp; (try with_reducible rfl)⟩) hHeld2 ?_
          try simp only [List.getElem_toArray, List.getElem_cons_zero, List.getElem_cons_succ, Act.put, List.setIfInBounds_toArray, List.set_cons_zero, List.set_cons_succ]
          refine wpAnyH_done (by kernel_rfl) ?_ _
          have HH : Hid (Below w.heap.size w z1) := Lib.hid hHeld2.2.2.2.2.2.2
          clear hHeld2
          go_wp2_with fail
          go_ret
          exact ⟨rfl, HH.out⟩
        | true =>
          rw [hg] at V
          by_cases hz : j = 0
          · subst hz
            have hst : okZ zs (0 + 1) = true := by rw [HN.out, stepB_zero, GD, hg]; rfl
            have HT := Lib.hid hst
            clear hg hst GD hR HS HN KS KN hB0
            generalize zs[0] = x at *
            obtain ⟨x0, x1, x2, x3, x4, x5⟩ := x
            simp only at c0 c1 c2 c3 c4 c5 V e0 e1 e2 e3 e4 e5 HW
            go_wp2_with fail
            rw [← HW.out]
            clear HW c0 c1 c2 c3 c4 c5
            have KX : Hid (W0.cell? ⟨wr.heap.size, 0, none⟩ = some (.string x0) ∧ W0.cell? ⟨wr.heap.size, 1, none⟩ = some (.int .i64 x1) ∧ W0.cell? ⟨wr.heap.size, 2, none⟩ = some (.int .i64 x2) ∧ W0.cell? ⟨wr.heap.size, 3, none⟩ = some (.string x3) ∧ W0.cell? ⟨wr.heap.size, 4, none⟩ = some (.int .i64 x4) ∧ W0.cell? ⟨wr.heap.size, 5, none⟩ = some (.int .i64 x5) ∧ Below w.heap.size w W0) := Lib.hid ⟨e0, e1, e2, e3, e4, e5, HB0⟩
            clear e0 e1 e2 e3 e4 e5 HB0
            refine wp_region_held_drew (S := fun W => W.cell? ⟨wr.heap.size, 0, none⟩ = some (.string x0) ∧ W.cell? ⟨wr.heap.size, 1, none⟩ = some (.int .i64 x1) ∧ W.cell? ⟨wr.heap.size, 2, none⟩ = some (.int .i64 x2) ∧ W.cell? ⟨wr.heap.size, 3, none⟩ = some (.string x3) ∧ W.cell? ⟨wr.heap.size, 4, none⟩ = some (.int .i64 x4) ∧ W.cell? ⟨wr.heap.size, 5, none⟩ = some (.int .i64 x5) ∧ Below w.heap.size w W) (by kernel_rfl) ?_ (fun hHeld => ?_)
            · exact keepW6 KX.out (drewG W0)
            refine wpAnyH_take (i := 0) rfl (by kernel_rfl) (by kernel_rfl) (by kernel_rfl) (fun _ _ _ h => h) (Or.inl ⟨by kernel_rfl, fun w hSw => by (try dsimp only at hSw); go_simp; (try with_reducible rfl)⟩) hHeld ?_
            try simp only [List.getElem_toArray, List.getElem_cons_zero, List.getElem_cons_succ, Act.put, List.setIfInBounds_toArray, List.set_cons_zero, List.set_cons_succ]
            refine wpAnyH_take (i := 1) rfl (by kernel_rfl) (by kernel_rfl) (by kernel_rfl) (fun _ _ _ h => h) (Or.inl ⟨by kernel_rfl, fun w hSw => by (try dsimp only at hSw); go_simp; (try with_reducible rfl)⟩) hHeld ?_
            try simp only [List.getElem_toArray, List.getElem_cons_zero, List.getElem_cons_succ, Act.put, List.setIfInBounds_toArray, List.set_cons_zero, List.set_cons_succ]
            refine wpAnyH_ready (rs := [2]) (by kernel_rfl) (by simp) ?_
            refine AllReadyH.cons rfl (fun KK hK => ?_) AllReadyH.nil
            go_simp
            first | go_at_call 17 | skip
            refine (V.out _).mono ?_
            rintro e z1 ⟨rfl, hz1⟩
            have w1 := undrewG hz1
            refine hK.out _ _ ?_ (fun hHeld2 => ?_)
            · exact keepW6 KX.out w1
            clear hK KK hHeld hz1 w1 KX
            try simp only [List.getElem_toArray, List.getElem_cons_zero, List.getElem_cons_succ, Act.put, List.setIfInBounds_toArray, List.set_cons_zero, List.set_cons_succ]
            refine wpAnyH_take (i := 3) rfl (by kernel_rfl) (by kernel_rfl) (by kernel_rfl) (fun _ _ _ h => h) (Or.inl ⟨by kernel_rfl, fun w hSw => by (try dsimp only at hSw); go_simp; (try with_reducible rfl)⟩) hHeld2 ?_
            try simp only [List.getElem_toArray, List.getElem_cons_zero, List.getElem_cons_succ, Act.put, List.setIfInBounds_toArray, List.set_cons_zero, List.set_cons_succ]
            refine wpAnyH_take (i := 4) rfl (by kernel_rfl) (by kernel_rfl) (by kernel_rfl) (fun _ _ _ h => h) (Or.inl ⟨by kernel_rfl, fun w hSw => by (try dsimp only at hSw); go_simp; (try with_reducible rfl)⟩) hHeld2 ?_
            try simp only [List.getElem_toArray, List.getElem_cons_zero, List.getElem_cons_succ, Act.put, List.setIfInBounds_toArray, List.set_cons_zero, List.set_cons_succ]
            refine wpAnyH_take (i := 5) rfl (by kernel_rfl) (by kernel_rfl) (by kernel_rfl) (fun _ _ _ h => h) (Or.inl ⟨by kernel_rfl, fun w hSw => by (try dsimp only at hSw); go_simp; (try with_reducible rfl)⟩) hHeld2 ?_
            try simp only [List.getElem_toArray, List.getElem_cons_zero, List.getElem_cons_succ, Act.put, List.setIfInBounds_toArray, List.set_cons_zero, List.set_cons_succ]
            refine wpAnyH_take (i := 6) rfl (by kernel_rfl) (by kernel_rfl) (by kernel_rfl) (fun _ _ _ h => h) (Or.inl ⟨by kernel_rfl, fun w hSw => by (try dsimp only at hSw); go_simp; (try with_reducible rfl)⟩) hHeld2 ?_
            try simp only [List.getElem_toArray, List.getElem_cons_zero, List.getElem_cons_succ, Act.put, List.setIfInBounds_toArray, List.set_cons_zero, List.set_cons_succ]
            refine wpAnyH_take (i := 7) rfl (by kernel_rfl) (by kernel_rfl) (by kernel_rfl) (fun _ _ _ h => h) (Or.inl ⟨by kernel_rfl, fun w hSw => by (try dsimp only at hSw); go_simp; (try with_reducible rfl)⟩) hHeld2 ?_
            try simp only [List.getElem_toArray, List.getElem_cons_zero, List.getElem_cons_succ, Act.put, List.setIfInBounds_toArray, List.set_cons_zero, List.set_cons_succ]
            refine wpAnyH_take (i := 8) rfl (by kernel_rfl) (by kernel_rfl) (by kernel_rfl) (fun _ _ _ h => h) (Or.inr ⟨by kernel_rfl, rfl⟩) hHeld2 ?_
            try simp only [List.getElem_toArray, List.getElem_cons_zero, List.getElem_cons_succ, Act.put, List.setIfInBounds_toArray, List.set_cons_zero, List.set_cons_succ]
            refine wpAnyH_take (i := 9) rfl (by kernel_rfl) (by kernel_rfl) (by kernel_rfl) (fun _ _ _ h => h) (Or.inr ⟨by kernel_rfl, rfl⟩) hHeld2 ?_
            try simp only [List.getElem_toArray, List.getElem_cons_zero, List.getElem_cons_succ, Act.put, List.setIfInBounds_toArray, List.set_cons_zero, List.set_cons_succ]
            refine wpAnyH_take (i := 10) rfl (by kernel_rfl) (by kernel_rfl) (by kernel_rfl) (fun _ _ _ h => h) (Or.inr ⟨by kernel_rfl, rfl⟩) hHeld2 ?_
            try simp only [List.getElem_toArray, List.getElem_cons_zero, List.getElem_cons_succ, Act.put, List.setIfInBounds_toArray, List.set_cons_zero, List.set_cons_succ]
            refine wpAnyH_take (i := 11) rfl (by kernel_rfl) (by kernel_rfl) (by kernel_rfl) (fun _ _ _ h => h) (Or.inr ⟨by kernel_rfl, rfl⟩) hHeld2 ?_
            try simp only [List.getElem_toArray, List.getElem_cons_zero, List.getElem_cons_succ, Act.put, List.setIfInBounds_toArray, List.set_cons_zero, List.set_cons_succ]
            refine wpAnyH_take (i := 12) rfl (by kernel_rfl) (by kernel_rfl) (by kernel_rfl) (fun _ _ _ h => h) (Or.inr ⟨by kernel_rfl, rfl⟩) hHeld2 ?_
            try simp only [List.getElem_toArray, List.getElem_cons_zero, List.getElem_cons_succ, Act.put, List.setIfInBounds_toArray, List.set_cons_zero, List.set_cons_succ]
            refine wpAnyH_take (i := 13) rfl (by kernel_rfl) (by kernel_rfl) (by kernel_rfl) (fun _ _ _ h => h) (Or.inr ⟨by kernel_rfl, rfl⟩) hHeld2 ?_
            try simp only [List.getElem_toArray, List.getElem_cons_zero, List.getElem_cons_succ, Act.put, List.setIfInBounds_toArray, List.set_cons_zero, List.set_cons_succ]
            refine wpAnyH_take (i := 14) rfl (by kernel_rfl) (by kernel_rfl) (by kernel_rfl) (fun _ _ _ h => h) (Or.inr ⟨by kernel_rfl, rfl⟩) hHeld2 ?_
            try simp only [List.getElem_toArray, List.getElem_cons_zero, List.getElem_cons_succ, Act.put, List.setIfInBounds_toArray, List.set_cons_zero, List.set_cons_succ]
            refine wpAnyH_take (i := 15) rfl (by kernel_rfl) (by kernel_rfl) (by kernel_rfl) (fun _ _ _ h => h) (Or.inr ⟨by kernel_rfl, rfl⟩) hHeld2 ?_
            try simp only [List.getElem_toArray, List.getElem_cons_zero, List.getElem_cons_succ, Act.put, List.setIfInBounds_toArray, List.set_cons_zero, List.set_cons_succ]
            refine wpAnyH_take (i := 16) rfl (by kernel_rfl) (by kernel_rfl) (by kernel_rfl) (fun _ _ _ h => h) (Or.inr ⟨by kernel_rfl, rfl⟩) hHeld2 ?_
            try simp only [List.getElem_toArray, List.getElem_cons_zero, List.getElem_cons_succ, Act.put, List.setIfInBounds_toArray, List.set_cons_zero, List.set_cons_succ]
            refine wpAnyH_take (i := 17) rfl (by kernel_rfl) (by kernel_rfl) (by kernel_rfl) (fun _ _ _ h => h) (Or.inl ⟨by kernel_rfl, fun w hSw => by (try dsimp only at hSw); go_simp; (try with_reducible rfl)⟩) hHeld2 ?_
            try simp only [List.getElem_toArray, List.getElem_cons_zero, List.getElem_cons_succ, Act.put, List.setIfInBounds_toArray, List.set_cons_zero, List.set_cons_succ]
            refine wpAnyH_take (i := 18) rfl (by kernel_rfl) (by kernel_rfl) (by kernel_rfl) (fun _ _ _ h => h) (Or.inl ⟨by kernel_rfl, fun w hSw => by (try dsimp only at hSw); go_simp; (try with_reducible rfl)⟩) hHeld2 ?_
            try simp only [List.getElem_toArray, List.getElem_cons_zero, List.getElem_cons_succ, Act.put, List.setIfInBounds_toArray, List.set_cons_zero, List.set_cons_succ]
            refine wpAnyH_done (by kernel_rfl) ?_ _
            have HH : Hid (Below w.heap.size w z1) := Lib.hid hHeld2.2.2.2.2.2.2
            clear hHeld2
            go_wp2_with fail
            go_roundg (zs.length + 1 - (0 + 1))
            case measure => omega
            case rel => exact ⟨0 + 1, by go_num, by omega, by omega, HT, HH⟩
          · obtain ⟨k, hk⟩ : ∃ k, j = k + 1 := ⟨j - 1, by omega⟩
            have hkl : k < zs.length := by omega
            obtain ⟨p0, p1, p2, p3, p4, p5⟩ := (hR.below hB0).at k hkl
            have hst : stepB zs j = befC (zs[k]'hkl) zs[j] := by rw [stepB_pos zs j k hk, GD, getD_at zs k hkl, hg, Bool.true_and]
            have ek : (j : Int) - 1 = (k : Int) := by omega
            have k0 : (0 : Int) ≤ (k : Int) := by omega
            have k1 : (k : Int) < (zs.length : Int) := by omega
            have kg : 0 < j := by omega
            have kd : decide (0 < j) = true := by simpa using kg
            have wk : IntKind.i64.wrap (k : Int) = (k : Int) := IntWalk.i64_in _ (by omega)
            rw [hst] at HS HN
            have hlt0 := cmpC_lt (zs[k]'hkl) zs[j]
            have C := Lib.hid (fun w => cmpC_any (zs[k]'hkl).f0 (zs[k]'hkl).f1 (zs[k]'hkl).f2 (zs[k]'hkl).f3 (zs[k]'hkl).f4 (zs[k]'hkl).f5 zs[j].f0 zs[j].f1 zs[j].f2 zs[j].f3 zs[j].f4 zs[j].f5 w)
            have hce : cmpC (zs[k]'hkl) zs[j] = cmpC ⟨(zs[k]'hkl).f0, (zs[k]'hkl).f1, (zs[k]'hkl).f2, (zs[k]'hkl).f3, (zs[k]'hkl).f4, (zs[k]'hkl).f5⟩ ⟨zs[j].f0, zs[j].f1, zs[j].f2, zs[j].f3, zs[j].f4, zs[j].f5⟩ := rfl
            rw [← hce] at C
            clear hce hz hR GD hg hst hk hB0
            generalize befC (zs[k]'hkl) zs[j] = lt at *
            generalize cmpC (zs[k]'hkl) zs[j] = q at *
            generalize zs[k]'hkl = px at *
            generalize zs[j] = x at *
            obtain ⟨x0, x1, x2, x3, x4, x5⟩ := x
            obtain ⟨y0, y1, y2, y3, y4, y5⟩ := px
            simp only at c0 c1 c2 c3 c4 c5 V C e0 e1 e2 e3 e4 e5 HW p0 p1 p2 p3 p4 p5
            have KX : Hid (W0.cell? ⟨wr.heap.size, 0, none⟩ = some (.string x0) ∧ W0.cell? ⟨wr.heap.size, 1, none⟩ = some (.int .i64 x1) ∧ W0.cell? ⟨wr.heap.size, 2, none⟩ = some (.int .i64 x2) ∧ W0.cell? ⟨wr.heap.size, 3, none⟩ = some (.string x3) ∧ W0.cell? ⟨wr.heap.size, 4, none⟩ = some (.int .i64 x4) ∧ W0.cell? ⟨wr.heap.size, 5, none⟩ = some (.int .i64 x5) ∧ W0.cell? ⟨g, k * 6, none⟩ = some (.string y0) ∧ W0.cell? ⟨g, k * 6 + 1, none⟩ = some (.int .i64 y1) ∧ W0.cell? ⟨g, k * 6 + 2, none⟩ = some (.int .i64 y2) ∧ W0.cell? ⟨g, k * 6 + 3, none⟩ = some (.string y3) ∧ W0.cell? ⟨g, k * 6 + 4, none⟩ = some (.int .i64 y4) ∧ W0.cell? ⟨g, k * 6 + 5, none⟩ = some (.int .i64 y5) ∧ Below w.heap.size w W0) := Lib.hid ⟨e0, e1, e2, e3, e4, e5, p0, p1, p2, p3, p4, p5, HB0⟩
            clear e0 e1 e2 e3 e4 e5 HB0 p0 p1 p2 p3 p4 p5
            cases lt with
            | true =>
              have hn1 : q < 0 := hlt0.2 rfl
              have hn : ¬ (0 : Int) ≤ q := by omega
              have hn' : decide ((0 : Int) ≤ q) = false := by simpa using hn1
              clear hn1 hlt0
              have HT : Hid (okZ zs (j + 1) = true) := Lib.hid (by rw [HN.out, HO.out]; rfl)
              clear HS HN KS KN
              go_wp2_with fail
              rw [← HW.out]
              clear HW c0 c1 c2 c3 c4 c5
              go_region_held3 (fun W => W.cell? ⟨wr.heap.size, 0, none⟩ = some (.string x0) ∧ W.cell? ⟨wr.heap.size, 1, none⟩ = some (.int .i64 x1) ∧ W.cell? ⟨wr.heap.size, 2, none⟩ = some (.int .i64 x2) ∧ W.cell? ⟨wr.heap.size, 3, none⟩ = some (.string x3) ∧ W.cell? ⟨wr.heap.size, 4, none⟩ = some (.int .i64 x4) ∧ W.cell? ⟨wr.heap.size, 5, none⟩ = some (.int .i64 x5) ∧ W.cell? ⟨g, k * 6, none⟩ = some (.string y0) ∧ W.cell? ⟨g, k * 6 + 1, none⟩ = some (.int .i64 y1) ∧ W.cell? ⟨g, k * 6 + 2, none⟩ = some (.int .i64 y2) ∧ W.cell? ⟨g, k * 6 + 3, none⟩ = some (.string y3) ∧ W.cell? ⟨g, k * 6 + 4, none⟩ = some (.int .i64 y4) ∧ W.cell? ⟨g, k * 6 + 5, none⟩ = some (.int .i64 y5) ∧ Below w.heap.size w W) (first | (exact keepW12 KX.out (drewG W0)) | (exact keepW12 KX.out w2) | (exact keepW12 KX.out w1) | go_keep) ((first
                | (go_at_call 17; refine (V.out _).mono ?_; rintro e z1 ⟨rfl, hz1⟩; have w1 := undrewG hz1)
                | (go_at_call 59; refine (C.out _).mono ?_; rintro e z2 ⟨rfl, hz2⟩; have w2 := w1.trans (hz2.mono w1.size))))
              rename_i held
              have HH := Lib.hid held.2.2.2.2.2.2.2.2.2.2.2.2
              clear held KX
              go_wp2_with fail
              go_roundg (zs.length + 1 - (j + 1))
              case measure => omega
              case rel => exact ⟨j + 1, by go_num, by omega, by omega, HT, HH⟩
            | false =>
              have hn1 : ¬ q < 0 := fun h => by have := hlt0.1 h; cases this
              have hn : (0 : Int) ≤ q := by omega
              have hn' : decide ((0 : Int) ≤ q) = true := by simpa using hn
              clear hn1 hlt0
              have hr : r = false := HS.out rfl
              subst hr
              clear HS HN KS KN
              go_wp2_with fail
              rw [← HW.out]
              clear HW c0 c1 c2 c3 c4 c5
              go_region_held3 (fun W => W.cell? ⟨wr.heap.size, 0, none⟩ = some (.string x0) ∧ W.cell? ⟨wr.heap.size, 1, none⟩ = some (.int .i64 x1) ∧ W.cell? ⟨wr.heap.size, 2, none⟩ = some (.int .i64 x2) ∧ W.cell? ⟨wr.heap.size, 3, none⟩ = some (.string x3) ∧ W.cell? ⟨wr.heap.size, 4, none⟩ = some (.int .i64 x4) ∧ W.cell? ⟨wr.heap.size, 5, none⟩ = some (.int .i64 x5) ∧ W.cell? ⟨g, k * 6, none⟩ = some (.string y0) ∧ W.cell? ⟨g, k * 6 + 1, none⟩ = some (.int .i64 y1) ∧ W.cell? ⟨g, k * 6 + 2, none⟩ = some (.int .i64 y2) ∧ W.cell? ⟨g, k * 6 + 3, none⟩ = some (.string y3) ∧ W.cell? ⟨g, k * 6 + 4, none⟩ = some (.int .i64 y4) ∧ W.cell? ⟨g, k * 6 + 5, none⟩ = some (.int .i64 y5) ∧ Below w.heap.size w W) (first | (exact keepW12 KX.out (drewG W0)) | (exact keepW12 KX.out w2) | (exact keepW12 KX.out w1) | go_keep) ((first
                | (go_at_call 17; refine (V.out _).mono ?_; rintro e z1 ⟨rfl, hz1⟩; have w1 := undrewG hz1)
                | (go_at_call 59; refine (C.out _).mono ?_; rintro e z2 ⟨rfl, hz2⟩; have w2 := w1.trans (hz2.mono w1.size))))
              rename_i held
              have HH := Lib.hid held.2.2.2.2.2.2.2.2.2.2.2.2
              clear held KX
              go_wp2_with fail
              go_ret
              exact ⟨rfl, HH.out⟩
      · obtain rfl : j = zs.length := by omega
        go_wp2_with fail
        go_ret
        refine ⟨ret_bool ?_, HB.out⟩
        rw [HE.out, HO.out]
end Go.Proofs.Ytfloppjkfcbgiaa.Cue
