/-
  An angle as hours: the contracts of HoursOf (both packages).
-/
import Derived.Test.YtbdikmfbdibcgaaDoorCore
namespace Go.Proofs.YtbdikmfbdibcgaaDoor
open Go.RowKit
set_option linter.unusedVariables false

def hoursOfV (a : Int) : Value := if inR 0 359999 [a] = true then .tuple #[.int .i64 (a / 15000), .int .i64 (a % 15000 / 250), .int .i64 0] else .tuple #[.int .i64 0, .int .i64 0, .int .i64 2]
theorem hoursOfV_form (a : Int) : ∃ x y z : Int, hoursOfV a = .tuple #[.int .i64 x, .int .i64 y, .int .i64 z] := by
  unfold hoursOfV
  split
  · exact ⟨_, _, _, rfl⟩
  · exact ⟨_, _, _, rfl⟩
set_option maxHeartbeats 400000 in
theorem implHoursOf_any (a : Int) (w : World) :
    Calls Tryd.prog 17 #[.int .i64 a] w fun e w' => e = .returned (hoursOfV a) ∧ Below w.heap.size w w' := by
  unfold hoursOfV
  cases c1 : inR 0 359999 [a] with
  | false =>
    rw [if_neg (by simp)]
    have C1 := Lib.hid c1
    clear c1
    go_enter Tryd.func17, Tryd.ntmps17
    go_wp2_with fail
    refine (within1 _ _ a _ _ _ (by simp)).mono ?_
    rintro e w' ⟨rfl, rfl⟩
    rw [C1.out]
    go_wp2_with fail
    go_ret3
    exact ⟨rfl, (Below.refl _ _).alloc (Nat.le_refl _) _⟩
  | true =>
    rw [if_pos rfl]
    obtain ⟨a0, a1⟩ := (inR_1 _ _ _).1 c1
    have C1 := Lib.hid c1
    clear c1
    go_enter Tryd.func17, Tryd.ntmps17
    go_wp2_with fail
    refine (within1 _ _ a _ _ _ (by simp)).mono ?_
    rintro e w' ⟨rfl, rfl⟩
    rw [C1.out]
    go_wp2_with fail
    go_ret3
    exact ⟨rfl, (Below.refl _ _).alloc (Nat.le_refl _) _⟩
end Go.Proofs.YtbdikmfbdibcgaaDoor
