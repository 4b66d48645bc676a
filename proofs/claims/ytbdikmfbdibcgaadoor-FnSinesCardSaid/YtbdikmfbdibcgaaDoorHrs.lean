/-
  Hours and angles: the contract of AngleOfHours (package impl).
-/
import Derived.Test.YtbdikmfbdibcgaaDoorCore
namespace Go.Proofs.YtbdikmfbdibcgaaDoor
open Go.RowKit

def hoursV (h m : Int) : Value := if inR 0 23 [h] = true ∧ inR 0 59 [m] = true then .tuple #[.int .i64 (h * 15000 + m * 250), .int .i64 0] else .tuple #[.int .i64 0, .int .i64 2]
set_option maxHeartbeats 400000 in
theorem implHours_any (h m : Int) (w : World) :
    Calls Tryd.prog 16 #[.int .i64 h, .int .i64 m] w fun e w' => e = .returned (hoursV h m) ∧ Below w.heap.size w w' := by
  unfold hoursV
  cases c1 : inR 0 23 [h] with
  | false =>
    rw [if_neg (by simp)]
    have C1 := Lib.hid c1
    clear c1
    go_enter Tryd.func16, Tryd.ntmps16
    go_wp2_with fail
    refine (within1 _ _ h _ _ _ (by simp)).mono ?_
    rintro e w' ⟨rfl, rfl⟩
    rw [C1.out]
    go_wp2_with fail
    go_ret2
    exact ⟨rfl, (Below.refl _ _).alloc (Nat.le_refl _) _⟩
  | true =>
    obtain ⟨a0, a1⟩ := (inR_1 _ _ _).1 c1
    have C1 := Lib.hid c1
    clear c1
    cases c2 : inR 0 59 [m] with
    | false =>
      rw [if_neg (by simp)]
      have C2 := Lib.hid c2
      clear c2
      go_enter Tryd.func16, Tryd.ntmps16
      go_wp2_with fail
      refine (within1 _ _ h _ _ _ (by simp)).mono ?_
      rintro e w' ⟨rfl, rfl⟩
      rw [C1.out]
      go_wp2_with fail
      refine (within1 _ _ m _ _ _ (by simp)).mono ?_
      rintro e w' ⟨rfl, rfl⟩
      rw [C2.out]
      go_wp2_with fail
      go_ret2
      exact ⟨rfl, ((Below.refl _ _).alloc (Nat.le_refl _) _).alloc (by simp) _⟩
    | true =>
      obtain ⟨b0, b1⟩ := (inR_1 _ _ _).1 c2
      rw [if_pos ⟨rfl, rfl⟩]
      have C2 := Lib.hid c2
      clear c2
      go_enter Tryd.func16, Tryd.ntmps16
      go_wp2_with fail
      refine (within1 _ _ h _ _ _ (by simp)).mono ?_
      rintro e w' ⟨rfl, rfl⟩
      rw [C1.out]
      go_wp2_with fail
      refine (within1 _ _ m _ _ _ (by simp)).mono ?_
      rintro e w' ⟨rfl, rfl⟩
      rw [C2.out]
      go_wp2_with fail
      go_ret2
      exact ⟨rfl, ((Below.refl _ _).alloc (Nat.le_refl _) _).alloc (by simp) _⟩
end Go.Proofs.YtbdikmfbdibcgaaDoor
