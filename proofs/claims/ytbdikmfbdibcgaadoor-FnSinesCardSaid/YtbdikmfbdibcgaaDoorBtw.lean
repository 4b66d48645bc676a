/-
  Angles between angles: the contract of AngleBetween (package impl).
-/
import Derived.Test.YtbdikmfbdibcgaaDoorNrm
namespace Go.Proofs.YtbdikmfbdibcgaaDoor
open Go.RowKit

set_option maxHeartbeats 400000 in
theorem implBtw_any (a b : Int) (w : World) (h0 : -9223372036854775808 ≤ a) (h1 : a ≤ 9223372036854775807) (k0 : -9223372036854775808 ≤ b) (k1 : b ≤ 9223372036854775807) :
    Calls Tryd.prog 11 #[.int .i64 a, .int .i64 b] w fun e w' => e = .returned (.int .i64 (btw a b)) ∧ w = w' := by
  obtain ⟨x0, x1⟩ := fwd_bd a b
  obtain ⟨y0, y1⟩ := fwd_bd b a
  have F1 := Lib.hid (forwards_any a b w h0 h1 k0 k1)
  have F2 := Lib.hid (forwards_any b a w k0 k1 h0 h1)
  unfold btw
  generalize fwd a b = x at *
  generalize fwd b a = y at *
  unfold mn2
  by_cases c : y < x
  · rw [if_pos c]
    have c' : ¬ x ≤ y := by omega
    go_enter Tryd.func11, Tryd.ntmps11
    go_wp2_with fail
    refine F1.out.mono ?_
    rintro e w' ⟨rfl, rfl⟩
    go_wp2_with fail
    refine F2.out.mono ?_
    rintro e w' ⟨rfl, rfl⟩
    go_wp2_with fail
    go_ret
    exact ⟨rfl, rfl⟩
  · rw [if_neg c]
    go_enter Tryd.func11, Tryd.ntmps11
    go_wp2_with fail
    refine F1.out.mono ?_
    rintro e w' ⟨rfl, rfl⟩
    go_wp2_with fail
    refine F2.out.mono ?_
    rintro e w' ⟨rfl, rfl⟩
    go_wp2_with fail
    go_ret
    exact ⟨rfl, rfl⟩
end Go.Proofs.YtbdikmfbdibcgaaDoor
