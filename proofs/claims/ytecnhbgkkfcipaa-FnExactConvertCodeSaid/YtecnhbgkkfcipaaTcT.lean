/-
  Time codes: MilliOf, FrameAt, CorrectTime (both packages).
-/
import Derived.Test.YtecnhbgkkfcipaaTcZ
import Derived.Test.YtecnhbgkkfcipaaQ2
import Derived.Test.YtecnhbgkkfcipaaDivR
namespace Go.Proofs.Ytecnhbgkkfcipaa.Tc
open Go.RowKit
open Cd (At BAt)
set_option linter.unusedVariables false

def mlV (n r : Int) : Value := if isR r = true then (if inR 0 8640000 [n] = true then .tuple #[.int .i64 (milN n r), .int .i64 0] else .tuple #[.int .i64 0, .int .i64 2]) else .tuple #[.int .i64 0, .int .i64 2]
def ftV (n r : Int) : Value := if isR r = true then (if inR 0 86400000 [n] = true then .tuple #[.int .i64 (atN n r), .int .i64 0] else .tuple #[.int .i64 0, .int .i64 2]) else .tuple #[.int .i64 0, .int .i64 2]
set_option maxHeartbeats 1000000 in
theorem specMilli_any (n r : Int) (w : World) :
    Calls Try.prog 22 #[.int .i64 n, .int .i64 r] w fun e w' => e = .returned (mlV n r) ∧ Below w.heap.size w w' := by
  have V := Lib.hid (fun w => rate_any r w)
  have I := Lib.hid (fun w => l00In_any n 0 8640000 w)
  unfold mlV
  cases hr : isR r with
  | false =>
    rw [hr] at V
    rw [if_neg (by simp)]
    clear hr
    go_enter Try.func22, Try.ntmps22
    go_wp2_with fail
    refine (V.out _).mono ?_
    rintro e w' ⟨rfl, rfl⟩
    go_wp2_with fail
    go_ret2
    exact ⟨rfl, Below.refl _ _⟩
  | true =>
    rw [hr] at V
    rw [if_pos rfl]
    cases hi : inR 0 8640000 [n] with
    | false =>
      rw [hi] at I
      rw [if_neg (by simp)]
      clear hr hi
      go_enter Try.func22, Try.ntmps22
      go_wp2_with fail
      refine (V.out _).mono ?_
      rintro e w' ⟨rfl, rfl⟩
      go_wp2_with fail
      refine (I.out _).mono ?_
      rintro e w' ⟨rfl, rfl⟩
      go_wp2_with fail
      go_ret2
      refine ⟨rfl, Below.refl _ _⟩
    | true =>
      obtain ⟨i0, i1⟩ := (inR_1 _ _ _).1 hi
      rw [hi] at I
      rw [if_pos rfl]
      have F := Lib.hid (fun w => l16Milli_any n r hr (by omega) (by omega) w)
      generalize milN n r = z at *
      clear hr hi
      go_enter Try.func22, Try.ntmps22
      go_wp2_with fail
      refine (V.out _).mono ?_
      rintro e w' ⟨rfl, rfl⟩
      go_wp2_with fail
      refine (I.out _).mono ?_
      rintro e w' ⟨rfl, rfl⟩
      go_wp2_with fail
      refine (F.out _).mono ?_
      rintro e w' ⟨rfl, rfl⟩
      go_wp2_with fail
      go_ret2
      refine ⟨rfl, Below.refl _ _⟩
set_option maxHeartbeats 1000000 in
theorem implMilli_any (n r : Int) (w : World) :
    Calls Try.prog 23 #[.int .i64 n, .int .i64 r] w fun e w' => e = .returned (mlV n r) ∧ Below w.heap.size w w' := by
  have V := Lib.hid (fun w => isValid_any r w)
  have I := Lib.hid (fun w => isFrame_any n w)
  unfold mlV
  cases hr : isR r with
  | false =>
    rw [hr] at V
    rw [if_neg (by simp)]
    clear hr
    go_enter Try.func23, Try.ntmps23
    go_wp2_with fail
    refine (V.out _).mono ?_
    rintro e w' ⟨rfl, rfl⟩
    go_wp2_with fail
    go_ret2
    exact ⟨rfl, Below.refl _ _⟩
  | true =>
    rw [hr] at V
    rw [if_pos rfl]
    cases hi : inR 0 8640000 [n] with
    | false =>
      rw [hi] at I
      rw [if_neg (by simp)]
      clear hr hi
      go_enter Try.func23, Try.ntmps23
      go_wp2_with fail
      refine (V.out _).mono ?_
      rintro e w' ⟨rfl, rfl⟩
      go_wp2_with fail
      refine (I.out _).mono ?_
      rintro e w1 ⟨rfl, hb⟩
      have hsw1 := hb.size
      try simp at hsw1
      obtain ⟨hcw1, hfw1⟩ := bcell hb
      have HBw1 : Hid (Below w.heap.size w w1) := by
        apply Lib.hid
        refine Below.trans ?_ (hb.mono ?_)
        · repeat (first | exact Below.refl _ _ | refine Below.setCell ?_ (by first | (simp; done) | omega | (simp; omega)) _ | refine Below.alloc ?_ (by first | (simp; done) | omega | (simp; omega)) _)
        · first | (simp; done) | omega | (simp; omega)
      clear hb
      go_wp2_with fail
      go_ret2
      refine ⟨rfl, HBw1.out⟩
    | true =>
      obtain ⟨i0, i1⟩ := (inR_1 _ _ _).1 hi
      rw [hi] at I
      rw [if_pos rfl]
      have F := Lib.hid (fun w => milliOf_any n r hr (by omega) (by omega) w)
      generalize milN n r = z at *
      clear hr hi
      go_enter Try.func23, Try.ntmps23
      go_wp2_with fail
      refine (V.out _).mono ?_
      rintro e w' ⟨rfl, rfl⟩
      go_wp2_with fail
      refine (I.out _).mono ?_
      rintro e w1 ⟨rfl, hb⟩
      have hsw1 := hb.size
      try simp at hsw1
      obtain ⟨hcw1, hfw1⟩ := bcell hb
      have HBw1 : Hid (Below w.heap.size w w1) := by
        apply Lib.hid
        refine Below.trans ?_ (hb.mono ?_)
        · repeat (first | exact Below.refl _ _ | refine Below.setCell ?_ (by first | (simp; done) | omega | (simp; omega)) _ | refine Below.alloc ?_ (by first | (simp; done) | omega | (simp; omega)) _)
        · first | (simp; done) | omega | (simp; omega)
      clear hb
      go_wp2_with fail
      refine (F.out _).mono ?_
      rintro e w' ⟨rfl, rfl⟩
      go_wp2_with fail
      go_ret2
      refine ⟨rfl, HBw1.out⟩
set_option maxHeartbeats 1000000 in
theorem specFrameAt_any (n r : Int) (w : World) :
    Calls Try.prog 24 #[.int .i64 n, .int .i64 r] w fun e w' => e = .returned (ftV n r) ∧ Below w.heap.size w w' := by
  have V := Lib.hid (fun w => rate_any r w)
  have I := Lib.hid (fun w => l16Day_any n w)
  unfold ftV
  cases hr : isR r with
  | false =>
    rw [hr] at V
    rw [if_neg (by simp)]
    clear hr
    go_enter Try.func24, Try.ntmps24
    go_wp2_with fail
    refine (V.out _).mono ?_
    rintro e w' ⟨rfl, rfl⟩
    go_wp2_with fail
    go_ret2
    exact ⟨rfl, Below.refl _ _⟩
  | true =>
    rw [hr] at V
    rw [if_pos rfl]
    cases hi : inR 0 86400000 [n] with
    | false =>
      rw [hi] at I
      rw [if_neg (by simp)]
      clear hr hi
      go_enter Try.func24, Try.ntmps24
      go_wp2_with fail
      refine (V.out _).mono ?_
      rintro e w' ⟨rfl, rfl⟩
      go_wp2_with fail
      refine (I.out _).mono ?_
      rintro e w' ⟨rfl, rfl⟩
      go_wp2_with fail
      go_ret2
      refine ⟨rfl, Below.refl _ _⟩
    | true =>
      obtain ⟨i0, i1⟩ := (inR_1 _ _ _).1 hi
      rw [hi] at I
      rw [if_pos rfl]
      have F := Lib.hid (fun w => l16At_any n r hr (by omega) (by omega) w)
      generalize atN n r = z at *
      clear hr hi
      go_enter Try.func24, Try.ntmps24
      go_wp2_with fail
      refine (V.out _).mono ?_
      rintro e w' ⟨rfl, rfl⟩
      go_wp2_with fail
      refine (I.out _).mono ?_
      rintro e w' ⟨rfl, rfl⟩
      go_wp2_with fail
      refine (F.out _).mono ?_
      rintro e w' ⟨rfl, rfl⟩
      go_wp2_with fail
      go_ret2
      refine ⟨rfl, Below.refl _ _⟩
set_option maxHeartbeats 1000000 in
theorem implFrameAt_any (n r : Int) (w : World) :
    Calls Try.prog 25 #[.int .i64 n, .int .i64 r] w fun e w' => e = .returned (ftV n r) ∧ Below w.heap.size w w' := by
  have V := Lib.hid (fun w => isValid_any r w)
  have I := Lib.hid (fun w => isDay_any n w)
  unfold ftV
  cases hr : isR r with
  | false =>
    rw [hr] at V
    rw [if_neg (by simp)]
    clear hr
    go_enter Try.func25, Try.ntmps25
    go_wp2_with fail
    refine (V.out _).mono ?_
    rintro e w' ⟨rfl, rfl⟩
    go_wp2_with fail
    go_ret2
    exact ⟨rfl, Below.refl _ _⟩
  | true =>
    rw [hr] at V
    rw [if_pos rfl]
    cases hi : inR 0 86400000 [n] with
    | false =>
      rw [hi] at I
      rw [if_neg (by simp)]
      clear hr hi
      go_enter Try.func25, Try.ntmps25
      go_wp2_with fail
      refine (V.out _).mono ?_
      rintro e w' ⟨rfl, rfl⟩
      go_wp2_with fail
      refine (I.out _).mono ?_
      rintro e w1 ⟨rfl, hb⟩
      have hsw1 := hb.size
      try simp at hsw1
      obtain ⟨hcw1, hfw1⟩ := bcell hb
      have HBw1 : Hid (Below w.heap.size w w1) := by
        apply Lib.hid
        refine Below.trans ?_ (hb.mono ?_)
        · repeat (first | exact Below.refl _ _ | refine Below.setCell ?_ (by first | (simp; done) | omega | (simp; omega)) _ | refine Below.alloc ?_ (by first | (simp; done) | omega | (simp; omega)) _)
        · first | (simp; done) | omega | (simp; omega)
      clear hb
      go_wp2_with fail
      go_ret2
      refine ⟨rfl, HBw1.out⟩
    | true =>
      obtain ⟨i0, i1⟩ := (inR_1 _ _ _).1 hi
      rw [hi] at I
      rw [if_pos rfl]
      have F := Lib.hid (fun w => frameAt_any n r hr (by omega) (by omega) w)
      generalize atN n r = z at *
      clear hr hi
      go_enter Try.func25, Try.ntmps25
      go_wp2_with fail
      refine (V.out _).mono ?_
      rintro e w' ⟨rfl, rfl⟩
      go_wp2_with fail
      refine (I.out _).mono ?_
      rintro e w1 ⟨rfl, hb⟩
      have hsw1 := hb.size
      try simp at hsw1
      obtain ⟨hcw1, hfw1⟩ := bcell hb
      have HBw1 : Hid (Below w.heap.size w w1) := by
        apply Lib.hid
        refine Below.trans ?_ (hb.mono ?_)
        · repeat (first | exact Below.refl _ _ | refine Below.setCell ?_ (by first | (simp; done) | omega | (simp; omega)) _ | refine Below.alloc ?_ (by first | (simp; done) | omega | (simp; omega)) _)
        · first | (simp; done) | omega | (simp; omega)
      clear hb
      go_wp2_with fail
      refine (F.out _).mono ?_
      rintro e w' ⟨rfl, rfl⟩
      go_wp2_with fail
      go_ret2
      refine ⟨rfl, HBw1.out⟩
theorem mlV_form (n r : Int) : ∃ x k : Int, mlV n r = .tuple #[.int .i64 x, .int .i64 k] := by
  unfold mlV
  split
  · split <;> exact ⟨_, _, rfl⟩
  · exact ⟨_, _, rfl⟩
theorem ftV_form (n r : Int) : ∃ x k : Int, ftV n r = .tuple #[.int .i64 x, .int .i64 k] := by
  unfold ftV
  split
  · split <;> exact ⟨_, _, rfl⟩
  · exact ⟨_, _, rfl⟩
def corV (m o s : Int) : Value := if inR 0 86400000 [m] = true then (if inR (-86400000) 86400000 [o] = true then (if inR (-2000000) 2000000 [s] = true then .tuple #[.int .i64 (m + o + nearQ (m * s) 1000000), .int .i64 0] else .tuple #[.int .i64 0, .int .i64 2]) else .tuple #[.int .i64 0, .int .i64 2]) else .tuple #[.int .i64 0, .int .i64 2]
theorem corV_form (m o s : Int) : ∃ x k : Int, corV m o s = .tuple #[.int .i64 x, .int .i64 k] := by
  unfold corV
  split
  · split
    · split <;> exact ⟨_, _, rfl⟩
    · exact ⟨_, _, rfl⟩
  · exact ⟨_, _, rfl⟩
end Go.Proofs.Ytecnhbgkkfcipaa.Tc
