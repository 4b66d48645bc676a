/-
  Hours and angles: the contract of AngleOfHours (package spec).
-/
import Derived.Test.YtdgdfnngbaamkaaHrs
namespace Go.Proofs.Ytdgdfnngbaamkaa
open Go.RowKit

set_option maxHeartbeats 400000 in
theorem specHours_any (h m : Int) (w : World) :
    Calls Try.prog 16 #[.int .i64 h, .int .i64 m] w fun e w' => e = .returned (hoursV h m) ∧ w = w' := by
  unfold hoursV
  cases c1 : inR 0 23 [h] with
  | false =>
    rw [if_neg (by simp)]
    have C1 := Lib.hid c1
    clear c1
    go_enter Try.func16, Try.ntmps16
    go_wp2_with fail
    refine (l00In_any _ _ _ _).mono ?_
    rintro e w' ⟨rfl, rfl⟩
    rw [C1.out]
    go_wp2_with fail
    go_ret2
    exact ⟨rfl, rfl⟩
  | true =>
    obtain ⟨a0, a1⟩ := (inR_1 _ _ _).1 c1
    have C1 := Lib.hid c1
    clear c1
    cases c2 : inR 0 59 [m] with
    | false =>
      rw [if_neg (by simp)]
      have C2 := Lib.hid c2
      clear c2
      go_enter Try.func16, Try.ntmps16
      go_wp2_with fail
      refine (l00In_any _ _ _ _).mono ?_
      rintro e w' ⟨rfl, rfl⟩
      rw [C1.out]
      go_wp2_with fail
      refine (l00In_any _ _ _ _).mono ?_
      rintro e w' ⟨rfl, rfl⟩
      rw [C2.out]
      go_wp2_with fail
      go_ret2
      exact ⟨rfl, rfl⟩
    | true =>
      obtain ⟨b0, b1⟩ := (inR_1 _ _ _).1 c2
      rw [if_pos ⟨rfl, rfl⟩]
      have C2 := Lib.hid c2
      clear c2
      have e0 : h * 15000 + m * 250 = h * 15000 + m * 15000 / 60 := by omega
      rw [e0]
      clear e0
      go_enter Try.func16, Try.ntmps16
      go_wp2_with fail
      refine (l00In_any _ _ _ _).mono ?_
      rintro e w' ⟨rfl, rfl⟩
      rw [C1.out]
      go_wp2_with fail
      refine (l00In_any _ _ _ _).mono ?_
      rintro e w' ⟨rfl, rfl⟩
      rw [C2.out]
      go_wp2_with fail
      go_ret2
      exact ⟨rfl, rfl⟩
/-- Two pairs of numbers with an error code are compared; hours. -/
theorem hoursV_two (h m : Int) : ∃ x y : Int, hoursV h m = .tuple #[.int .i64 x, .int .i64 y] := by
  unfold hoursV
  split
  · exact ⟨_, _, rfl⟩
  · exact ⟨_, _, rfl⟩
end Go.Proofs.Ytdgdfnngbaamkaa
