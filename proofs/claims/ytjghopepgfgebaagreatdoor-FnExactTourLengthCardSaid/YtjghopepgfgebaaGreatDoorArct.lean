/-
  The angle of a direction: the contracts of firstArc, directionAngle, ArcTangent (package impl).
-/
import Derived.Test.YtjghopepgfgebaaGreatDoorLeast
import Derived.Test.YtjghopepgfgebaaGreatDoorNrm
namespace Go.Proofs.YtjghopepgfgebaaGreatDoor
open Go.RowKit
set_option linter.unusedVariables false

set_option maxHeartbeats 400000 in
theorem firstArc_any (y x : Int) (y0 : 0 ≤ y) (x0 : 0 ≤ x) (y1 : y ≤ 1000000000000) (x1 : x ≤ 1000000000000) (w : World) (hs : SinesOK w) :
    Calls Tryz.prog 129 #[.int .i64 y, .int .i64 x] w fun e w' => e = .returned (.int .i64 (if x < y then 90000 - (arcN x y : Int) else (arcN y x : Int))) ∧ Below w.heap.size w w' := by
  by_cases c : x < y
  · rw [if_pos c]
    have L := Lib.hid (leastArc_any x y x0 (by omega) y1 w hs)
    have l1 := arc_le x y
    clear hs
    generalize arcN x y = n at *
    have c' : ¬ y ≤ x := by omega
    go_enter Tryz.func129, Tryz.ntmps129
    go_wp2_with fail
    refine L.out.mono ?_
    rintro e w1 ⟨rfl, hb⟩
    have HB := Lib.hid hb
    clear hb
    go_wp2_with fail
    go_ret
    exact ⟨rfl, HB.out⟩
  · rw [if_neg c]
    have L := Lib.hid (leastArc_any y x y0 (by omega) x1 w hs)
    clear hs
    generalize arcN y x = n at *
    have c' : y ≤ x := by omega
    go_enter Tryz.func129, Tryz.ntmps129
    go_wp2_with fail
    refine L.out.mono ?_
    rintro e w1 ⟨rfl, hb⟩
    have HB := Lib.hid hb
    clear hb
    go_wp2_with fail
    go_ret
    exact ⟨rfl, HB.out⟩

theorem ab_bd (x m : Int) (h : -m ≤ x) (h' : x ≤ m) : 0 ≤ ab x ∧ ab x ≤ m := by unfold ab; split <;> omega
set_option maxHeartbeats 1000000 in
theorem dirA_any (y x : Int) (y0 : -1000000000000 ≤ y) (y1 : y ≤ 1000000000000) (x0 : -1000000000000 ≤ x) (x1 : x ≤ 1000000000000) (w : World) (hs : SinesOK w) :
    Calls Tryz.prog 84 #[.int .i64 y, .int .i64 x] w fun e w' => e = .returned (.int .i64 (dirI y x)) ∧ Below w.heap.size w w' := by
  have a1 := ab_bd y _ y0 y1
  have a2 := ab_bd x _ x0 x1
  have L := Lib.hid (firstArc_any (ab y) (ab x) a1.1 a2.1 a1.2 a2.2 w hs)
  have bb := base_bd y x
  have eb : (if ab x < ab y then 90000 - (arcN (ab x) (ab y) : Int) else (arcN (ab y) (ab x) : Int)) = base y x := rfl
  rw [eb] at L
  have N := Lib.hid (fun w => normal_any (-base y x) w (by omega) (by omega))
  unfold dirI
  clear eb hs a1 a2
  generalize base y x = b at *
  by_cases cy : 0 ≤ y
  · have ey : ab y = y := by unfold ab; rw [if_neg (by omega)]
    rw [ey] at L
    by_cases cx : 0 ≤ x
    · have ex : ab x = x := by unfold ab; rw [if_neg (by omega)]
      rw [ex] at L
      rw [if_pos ⟨cx, cy⟩]
      clear N ey ex
      have m1 : -y ≤ y := by omega
      have m2 : -x ≤ x := by omega
      have m3 : ¬ y < -y := by omega
      have m4 : ¬ x < -x := by omega
      go_enter Tryz.func84, Tryz.ntmps84
      go_wp2_with fail
      refine L.out.mono ?_
      rintro e w1 ⟨rfl, hb⟩
      have HB := Lib.hid hb
      clear hb
      go_wp2_with fail
      go_ret
      exact ⟨rfl, HB.out⟩
    · have ex : ab x = -x := by unfold ab; rw [if_pos (by omega)]
      rw [ex] at L
      rw [if_neg (by omega), if_pos cy]
      clear N ey ex
      have m1 : -y ≤ y := by omega
      have m2 : x < -x := by omega
      have m3 : ¬ y < -y := by omega
      go_enter Tryz.func84, Tryz.ntmps84
      go_wp2_with fail
      refine L.out.mono ?_
      rintro e w1 ⟨rfl, hb⟩
      have HB := Lib.hid hb
      clear hb
      go_wp2_with fail
      go_ret
      exact ⟨rfl, HB.out⟩
  · have ey : ab y = -y := by unfold ab; rw [if_pos (by omega)]
    rw [ey] at L
    by_cases cx : 0 ≤ x
    · have ex : ab x = x := by unfold ab; rw [if_neg (by omega)]
      rw [ex] at L
      rw [if_neg (by omega), if_neg cy, if_neg (by omega)]
      clear ey ex
      generalize nrm (-b) = r at *
      have m1 : y < -y := by omega
      have m2 : -x ≤ x := by omega
      have m4 : ¬ x < -x := by omega
      have m5 : ¬ x < 0 := by omega
      go_enter Tryz.func84, Tryz.ntmps84
      go_wp2_with fail
      refine L.out.mono ?_
      rintro e w1 ⟨rfl, hb⟩
      have HB := Lib.hid hb
      clear hb
      go_wp2_with fail
      refine (N.out _).mono ?_
      rintro e w' ⟨rfl, rfl⟩
      go_wp2_with fail
      go_ret
      exact ⟨rfl, HB.out⟩
    · have ex : ab x = -x := by unfold ab; rw [if_pos (by omega)]
      rw [ex] at L
      rw [if_neg (by omega), if_neg cy, if_pos (by omega)]
      clear N ey ex
      have m1 : y < -y := by omega
      have m2 : x < -x := by omega
      have m5 : x < 0 := by omega
      go_enter Tryz.func84, Tryz.ntmps84
      go_wp2_with fail
      refine L.out.mono ?_
      rintro e w1 ⟨rfl, hb⟩
      have HB := Lib.hid hb
      clear hb
      go_wp2_with fail
      go_ret
      exact ⟨rfl, HB.out⟩

/-- What ArcTangent answers. -/
def atanV (y x : Int) : Value := if inR (-1000000000000) 1000000000000 [y, x] = true then (if y = 0 ∧ x = 0 then .tuple #[.int .i64 0, .int .i64 6] else .tuple #[.int .i64 (dirI y x), .int .i64 0]) else .tuple #[.int .i64 0, .int .i64 2]
theorem atanV_form (y x : Int) : ∃ a b : Int, atanV y x = .tuple #[.int .i64 a, .int .i64 b] := by
  unfold atanV
  split
  · split <;> exact ⟨_, _, rfl⟩
  · exact ⟨_, _, rfl⟩
theorem inR_two (lo hi a b : Int) : inR lo hi [a, b] = true ↔ (lo ≤ a ∧ a ≤ hi) ∧ lo ≤ b ∧ b ≤ hi := by simp [inR]
set_option maxHeartbeats 1000000 in
theorem implATan_any (y x : Int) (w : World) (hs : SinesOK w) :
    Calls Tryz.prog 142 #[.int .i64 y, .int .i64 x] w fun e w' => e = .returned (atanV y x) ∧ Below w.heap.size w w' := by
  unfold atanV
  have B0 : Below w.heap.size w (w.alloc (.cells #[.int .i64 y, .int .i64 x] 2)) := (Below.refl _ _).alloc (Nat.le_refl _) _
  cases hin : inR (-1000000000000) 1000000000000 [y, x] with
  | false =>
    rw [if_neg (by simp)]
    have HI := Lib.hid hin
    clear hin hs B0
    go_enter Tryz.func142, Tryz.ntmps142
    go_wp2_with fail
    refine (within2 _ _ y x _ _ _ (by simp) (by simp)).mono ?_
    rintro e w' ⟨rfl, rfl⟩
    rw [HI.out]
    go_wp2_with fail
    go_ret2
    refine ⟨rfl, ?_⟩
    repeat (first | exact Below.refl _ _ | refine Below.alloc ?_ (by first | (simp; done) | omega | (simp; omega)) _)
  | true =>
    rw [if_pos rfl]
    obtain ⟨⟨y0, y1⟩, x0, x1⟩ := (inR_two _ _ _ _).1 hin
    have D := Lib.hid (dirA_any y x y0 y1 x0 x1 _ (hs.below B0))
    have HI := Lib.hid hin
    have BB := Lib.hid B0
    clear hin hs B0
    generalize dirI y x = r at *
    by_cases cy : y = 0
    · by_cases cx : x = 0
      · rw [if_pos ⟨cy, cx⟩]
        go_enter Tryz.func142, Tryz.ntmps142
        go_wp2_with fail
        refine (within2 _ _ y x _ _ _ (by simp [cy]) (by simp [cx])).mono ?_
        rintro e w' ⟨rfl, rfl⟩
        rw [HI.out]
        go_wp2_with fail
        go_ret2
        refine ⟨rfl, ?_⟩
        repeat (first | exact Below.refl _ _ | refine Below.alloc ?_ (by first | (simp; done) | omega | (simp; omega)) _)
      · rw [if_neg (by omega)]
        subst cy
        have cx' : (x == 0) = false := by simpa using cx
        clear cx
        go_enter Tryz.func142, Tryz.ntmps142
        go_wp2_with fail
        refine (within2 _ _ 0 x _ _ _ (by simp) (by simp)).mono ?_
        rintro e w' ⟨rfl, rfl⟩
        rw [HI.out]
        go_wp2_with fail
        refine D.out.mono ?_
        rintro e w1 ⟨rfl, hb⟩
        have HB := Lib.hid (BB.out.trans (hb.mono BB.out.size))
        clear hb
        go_wp2_with fail
        go_ret2
        exact ⟨rfl, HB.out⟩
    · rw [if_neg (by omega)]
      have cy' : (y == 0) = false := by simpa using cy
      go_enter Tryz.func142, Tryz.ntmps142
      go_wp2_with fail
      refine (within2 _ _ y x _ _ _ (by simp) (by simp)).mono ?_
      rintro e w' ⟨rfl, rfl⟩
      rw [HI.out]
      go_wp2_with fail
      refine D.out.mono ?_
      rintro e w1 ⟨rfl, hb⟩
      have HB := Lib.hid (BB.out.trans (hb.mono BB.out.size))
      clear hb
      go_wp2_with fail
      go_ret2
      exact ⟨rfl, HB.out⟩
end Go.Proofs.YtjghopepgfgebaaGreatDoor
