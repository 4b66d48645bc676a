/-
  Days of the week and valid moments: the contracts of WeekDay (both packages) and of ValidMoment (package spec).
-/
import Derived.Test.YtcdmoajehcchnaaMomA
namespace Go.Proofs.Ytcdmoajehcchnaa
open Go.RowKit
set_option linter.unusedVariables false

def weekV (d : Int) : Value := if inR 0 99999 [d] = true then .tuple #[.int .i64 ((d + 5) % 7), .int .i64 0] else .tuple #[.int .i64 0, .int .i64 2]
theorem weekV_form (a : Int) : ∃ x y : Int, weekV a = .tuple #[.int .i64 x, .int .i64 y] := by
  unfold weekV
  split
  · exact ⟨_, _, rfl⟩
  · exact ⟨_, _, rfl⟩
set_option maxHeartbeats 400000 in
theorem implWeek_any (d : Int) (w : World) :
    Calls Try.prog 12 #[.int .i64 d] w fun e w' => e = .returned (weekV d) ∧ Below w.heap.size w w' := by
  unfold weekV
  have I := Lib.hid (fun w => isDay_any d w)
  cases c1 : inR 0 99999 [d] with
  | false =>
    rw [if_neg (by simp)]
    rw [c1] at I
    clear c1
    go_enter Try.func12, Try.ntmps12
    go_wp2_with fail
    refine (I.out _).mono ?_
    rintro e w' ⟨rfl, hb⟩
    go_wp2_with fail
    go_ret2
    exact ⟨rfl, hb⟩
  | true =>
    rw [if_pos rfl, Int.add_comm]
    obtain ⟨a0, a1⟩ := (inR_1 _ _ _).1 c1
    rw [c1] at I
    clear c1
    go_enter Try.func12, Try.ntmps12
    go_wp2_with fail
    refine (I.out _).mono ?_
    rintro e w' ⟨rfl, hb⟩
    go_wp2_with fail
    go_ret2
    exact ⟨rfl, hb⟩
set_option maxHeartbeats 400000 in
theorem specWeek_any (d : Int) (w : World) :
    Calls Try.prog 11 #[.int .i64 d] w fun e w' => e = .returned (weekV d) ∧ Below w.heap.size w w' := by
  unfold weekV
  have I := Lib.hid (fun w => l03Day_any d w)
  cases c1 : inR 0 99999 [d] with
  | false =>
    rw [if_neg (by simp)]
    rw [c1] at I
    clear c1
    go_enter Try.func11, Try.ntmps11
    go_wp2_with fail
    refine (I.out _).mono ?_
    rintro e w' ⟨rfl, rfl⟩
    go_wp2_with fail
    go_ret2
    exact ⟨rfl, Below.refl _ _⟩
  | true =>
    rw [if_pos rfl]
    obtain ⟨a0, a1⟩ := (inR_1 _ _ _).1 c1
    rw [c1] at I
    clear c1
    go_enter Try.func11, Try.ntmps11
    go_wp2_with fail
    refine (I.out _).mono ?_
    rintro e w' ⟨rfl, rfl⟩
    go_wp2_with fail
    go_ret2
    exact ⟨rfl, Below.refl _ _⟩
set_option maxHeartbeats 400000 in
theorem specValid_any (d m : Int) (w : World) :
    Calls Try.prog 8 #[.agg #[.int .i64 d, .int .i64 m]] w fun e w' => e = .returned (.bool (okM d m)) ∧ Below w.heap.size w w' := by
  have I := Lib.hid (fun w => l03Ok_any d m w)
  generalize okM d m = q at *
  go_enter Try.func8, Try.ntmps8
  go_wp2_with fail
  refine (I.out _).mono ?_
  rintro e w' ⟨rfl, hb⟩
  have HB : Hid (Below w.heap.size w w') := Lib.hid (Below.trans (b := w.alloc (.cells #[.int .i64 d, .int .i64 m] 28)) ((Below.refl _ _).alloc (Nat.le_refl _) _) (hb.mono (by simp)))
  clear hb
  go_wp2_with fail
  go_ret
  exact ⟨rfl, HB.out⟩
end Go.Proofs.Ytcdmoajehcchnaa
