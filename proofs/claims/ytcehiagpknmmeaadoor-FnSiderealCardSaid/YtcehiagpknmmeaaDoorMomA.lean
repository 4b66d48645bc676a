/-
  Moments: the contracts of toMoment, eqMoment (package laws), isDay, ValidMoment, millis (package impl), l03Day, l03Ok, l03All (package spec).
-/
import Derived.Test.YtcehiagpknmmeaaDoorCore
import Derived.Test.YtcehiagpknmmeaaDoorVec0
namespace Go.Proofs.YtcehiagpknmmeaaDoor
open Go.RowKit
set_option linter.unusedVariables false

def okM (d m : Int) : Bool := inR 0 99999 [d] && inR 0 86399999 [m]
theorem okM_bd (d m : Int) (h : okM d m = true) : (0 ≤ d ∧ d ≤ 99999) ∧ 0 ≤ m ∧ m ≤ 86399999 := by
  unfold okM at h
  rw [Bool.and_eq_true, inR_1, inR_1] at h
  exact h

set_option maxHeartbeats 400000 in
theorem isDay_any (d : Int) (w : World) :
    Calls Tryd.prog 34 #[.int .i64 d] w fun e w' => e = .returned (.bool (inR 0 99999 [d])) ∧ Below w.heap.size w w' := by
  go_enter Tryd.func34, Tryd.ntmps34
  go_wp2_with fail
  refine (within1 _ _ d _ _ _ (by simp)).mono ?_
  rintro e w' ⟨rfl, rfl⟩
  go_wp2_with fail
  go_ret
  exact ⟨rfl, (Below.refl _ _).alloc (Nat.le_refl _) _⟩

set_option maxHeartbeats 400000 in
theorem valid_any (d m : Int) (w : World) :
    Calls Tryd.prog 16 #[.agg #[.int .i64 d, .int .i64 m]] w fun e w' => e = .returned (.bool (okM d m)) ∧ Below w.heap.size w w' := by
  unfold okM
  cases c1 : inR 0 99999 [d] with
  | false =>
    have I := Lib.hid (fun w => isDay_any d w)
    rw [c1] at I
    clear c1
    rw [Bool.false_and]
    go_enter Tryd.func16, Tryd.ntmps16
    go_wp2_with fail
    refine (I.out _).mono ?_
    rintro e w1 ⟨rfl, hb⟩
    have HB := Lib.hid (Below.trans (a := w) (b := w.alloc (.cells #[.int .i64 d, .int .i64 m] 25)) ((Below.refl _ _).alloc (Nat.le_refl _) _) (hb.mono (by simp)))
    clear hb
    go_wp2_with fail
    go_ret
    exact ⟨rfl, HB.out⟩
  | true =>
    have I := Lib.hid (fun w => isDay_any d w)
    rw [c1] at I
    clear c1
    rw [Bool.true_and]
    generalize hq : inR 0 86399999 [m] = q at *
    have HQ := Lib.hid hq
    clear hq
    go_enter Tryd.func16, Tryd.ntmps16
    go_wp2_with fail
    refine (I.out _).mono ?_
    rintro e w1 ⟨rfl, hb⟩
    obtain ⟨hc, hf⟩ := bcell hb
    have HB := Lib.hid (Below.trans (a := w) (b := w.alloc (.cells #[.int .i64 d, .int .i64 m] 25)) ((Below.refl _ _).alloc (Nat.le_refl _) _) (hb.mono (by simp)))
    have hz : w.heap.size < w1.heap.size := by have := hb.size; simp at this; omega
    clear hb
    go_wp2_with fail
    refine (within1 _ _ m _ _ _ (by simp)).mono ?_
    rintro e w' ⟨rfl, rfl⟩
    rw [HQ.out]
    go_wp2_with fail
    go_ret
    exact ⟨rfl, HB.out.alloc (by omega) _⟩

set_option maxHeartbeats 400000 in
theorem l03Day_any (d : Int) (w : World) :
    Calls Tryd.prog 38 #[.int .i64 d] w fun e w' => e = .returned (.bool (inR 0 99999 [d])) ∧ w = w' := by
  go_enter Tryd.func38, Tryd.ntmps38
  go_wp2_with fail
  refine (l00In_any _ _ _ _).mono ?_
  rintro e w' ⟨rfl, rfl⟩
  go_wp2_with fail
  go_ret
  exact ⟨rfl, rfl⟩

set_option maxHeartbeats 400000 in
theorem l03Ok_any (d m : Int) (w : World) :
    Calls Tryd.prog 24 #[.agg #[.int .i64 d, .int .i64 m]] w fun e w' => e = .returned (.bool (okM d m)) ∧ Below w.heap.size w w' := by
  unfold okM
  have I := Lib.hid (fun w => l03Day_any d w)
  have J := Lib.hid (fun w => l00In_any m 0 86399999 w)
  cases c1 : inR 0 99999 [d] with
  | false =>
    rw [c1] at I
    clear c1
    rw [Bool.false_and]
    go_enter Tryd.func24, Tryd.ntmps24
    go_wp2_with fail
    refine (I.out _).mono ?_
    rintro e w1 ⟨rfl, rfl⟩
    go_wp2_with fail
    go_ret
    refine ⟨rfl, ?_⟩
    repeat (first | exact Below.refl _ _ | refine Below.setCell ?_ (by first | (simp; done) | omega | (simp; omega)) _ | refine Below.alloc ?_ (by first | (simp; done) | omega | (simp; omega)) _)
  | true =>
    rw [c1] at I
    clear c1
    rw [Bool.true_and]
    generalize inR 0 86399999 [m] = q at *
    go_enter Tryd.func24, Tryd.ntmps24
    go_wp2_with fail
    refine (I.out _).mono ?_
    rintro e w1 ⟨rfl, rfl⟩
    go_wp2_with fail
    refine (J.out _).mono ?_
    rintro e w1 ⟨rfl, rfl⟩
    go_wp2_with fail
    go_ret
    refine ⟨rfl, ?_⟩
    repeat (first | exact Below.refl _ _ | refine Below.setCell ?_ (by first | (simp; done) | omega | (simp; omega)) _ | refine Below.alloc ?_ (by first | (simp; done) | omega | (simp; omega)) _)
end Go.Proofs.YtcehiagpknmmeaaDoor
