/-
  Time codes: CodeAt, MilliOf, FrameAt, CorrectTime (both packages).
-/
import Derived.Test.YtecnhbgkkfcipaaTcZ
import Derived.Test.YtecnhbgkkfcipaaQ2
import Derived.Test.YtecnhbgkkfcipaaDivR
namespace Go.Proofs.Ytecnhbgkkfcipaa.Tc
open Go.RowKit
open Cd (At BAt)
set_option linter.unusedVariables false

theorem set5 {B : Nat} {a w : World} (h : Below B a w) (b : Nat) (hb : B ≤ b) (v0 v1 v2 v3 v4 : Value) : Below B a (((((w.setCell ⟨b, 0, none⟩ v0).setCell ⟨b, 1, none⟩ v1).setCell ⟨b, 2, none⟩ v2).setCell ⟨b, 3, none⟩ v3).setCell ⟨b, 4, none⟩ v4) :=
  Below.setCell (p := ⟨b, 4, none⟩) (Below.setCell (p := ⟨b, 3, none⟩) (Below.setCell (p := ⟨b, 2, none⟩) (Below.setCell (p := ⟨b, 1, none⟩) (Below.setCell (p := ⟨b, 0, none⟩) h hb v0) hb v1) hb v2) hb v3) hb v4
theorem al5 {B : Nat} {a w : World} (h : Below B a w) (b : Nat) (hb : B ≤ b) (v0 v1 v2 v3 v4 : Value) (o : Obj) (hB : B ≤ a.heap.size := by omega) : Below B a ((((((w.setCell ⟨b, 0, none⟩ v0).setCell ⟨b, 1, none⟩ v1).setCell ⟨b, 2, none⟩ v2).setCell ⟨b, 3, none⟩ v3).setCell ⟨b, 4, none⟩ v4).alloc o) :=
  Below.alloc (set5 h b hb v0 v1 v2 v3 v4) (Nat.le_trans hB (set5 h b hb v0 v1 v2 v3 v4).size) o
/-- The code with a number, and an error's code. -/
def cdV (n r : Int) : Value := if isR r = true then (if 0 ≤ n ∧ n < codesN r 1440 then .tuple #[.agg #[.int .i64 (hN n r), .int .i64 (mN n r), .int .i64 (sN n r), .int .i64 (fN n r), .int .i64 r], .int .i64 0] else .tuple #[.agg #[.int .i64 0, .int .i64 0, .int .i64 0, .int .i64 0, .int .i64 0], .int .i64 2]) else .tuple #[.agg #[.int .i64 0, .int .i64 0, .int .i64 0, .int .i64 0, .int .i64 0], .int .i64 2]
theorem cdV_form (n r : Int) : ∃ x0 x1 x2 x3 x4 k : Int, cdV n r = .tuple #[.agg #[.int .i64 x0, .int .i64 x1, .int .i64 x2, .int .i64 x3, .int .i64 x4], .int .i64 k] := by
  unfold cdV
  split
  · split
    · exact ⟨_, _, _, _, _, _, rfl⟩
    · exact ⟨_, _, _, _, _, _, rfl⟩
  · exact ⟨_, _, _, _, _, _, rfl⟩
set_option maxRecDepth 100000 in
set_option maxHeartbeats 2000000 in
theorem implCodeAt_any (n r : Int) (w : World) :
    Calls Try.prog 20 #[.int .i64 n, .int .i64 r] w fun e w' => e = .returned (cdV n r) ∧ Below w.heap.size w w' := by
  have V := Lib.hid (fun w => isValid_any r w)
  unfold cdV
  cases hr : isR r with
  | false =>
    rw [hr] at V
    rw [if_neg (by simp)]
    clear hr
    go_enter Try.func20, Try.ntmps20
    go_wp2_with fail
    refine (V.out _).mono ?_
    rintro e w' ⟨rfl, rfl⟩
    go_wp2_with fail
    refine bodyPost_ret (v := .tuple #[.agg #[.int .i64 0, .int .i64 0, .int .i64 0, .int .i64 0, .int .i64 0], .int .i64 2]) (by first | (simp [results, Try.results20, go_sem]; done) | (simp [results, Try.results20, go_sem]; done)) rfl ⟨rfl, ?_⟩
    repeat (first | exact Below.refl _ _ | refine Below.setCell ?_ (by first | (simp; done) | omega | (simp; omega)) _ | refine Below.alloc ?_ (by first | (simp; done) | omega | (simp; omega)) _ | refine bel_drew ?_)
  | true =>
    rw [hr] at V
    rw [if_pos rfl]
    have C := Lib.hid (fun w => codeAt_any n r hr w)
    unfold codeV at C
    clear hr
    by_cases hc : 0 ≤ n ∧ n < codesN r 1440
    · rw [if_pos hc] at C ⊢
      generalize hN n r = a0 at *
      generalize mN n r = a1 at *
      generalize sN n r = a2 at *
      generalize fN n r = a3 at *
      clear hc
      go_enter Try.func20, Try.ntmps20
      go_wp2_with fail
      refine (V.out _).mono ?_
      rintro e w' ⟨rfl, rfl⟩
      go_wp2_with fail
      refine (C.out _).mono ?_
      rintro e w1 ⟨rfl, hb⟩
      have BX := (Bx.new w 0 0 0 0 0 25).below hb
      have HBw1 : Hid (Below w.heap.size w w1) := Lib.hid (Below.trans ((Below.refl _ _).alloc (Nat.le_refl _) _) (hb.mono (by simp)))
      have bl := BX.at_.lt
      obtain ⟨⟨b0, b1, b2, b3, b4⟩, fz⟩ := BX
      clear hb
      go_wp2_with fail
      refine bodyPost_ret (v := .tuple #[.agg #[.int .i64 a0, .int .i64 a1, .int .i64 a2, .int .i64 a3, .int .i64 r], .int .i64 0]) (by simp [results, Try.results20, go_sem, b0, b1, b2, b3, b4, bl]; done) rfl ⟨rfl, ?_⟩
      exact al5 HBw1.out _ (Nat.le_refl _) _ _ _ _ _ _
    · rw [if_neg hc] at C ⊢
      clear hc
      go_enter Try.func20, Try.ntmps20
      go_wp2_with fail
      refine (V.out _).mono ?_
      rintro e w' ⟨rfl, rfl⟩
      go_wp2_with fail
      refine (C.out _).mono ?_
      rintro e w1 ⟨rfl, hb⟩
      have BX := (Bx.new w 0 0 0 0 0 25).below hb
      have HBw1 : Hid (Below w.heap.size w w1) := Lib.hid (Below.trans ((Below.refl _ _).alloc (Nat.le_refl _) _) (hb.mono (by simp)))
      have bl := BX.at_.lt
      obtain ⟨⟨b0, b1, b2, b3, b4⟩, fz⟩ := BX
      clear hb
      go_wp2_with fail
      refine bodyPost_ret (v := .tuple #[.agg #[.int .i64 0, .int .i64 0, .int .i64 0, .int .i64 0, .int .i64 0], .int .i64 2]) (by simp [results, Try.results20, go_sem, b0, b1, b2, b3, b4, bl]; done) rfl ⟨rfl, ?_⟩
      exact al5 HBw1.out _ (Nat.le_refl _) _ _ _ _ _ _
set_option maxRecDepth 100000 in
set_option maxHeartbeats 2000000 in
theorem specCodeAt_any (n r : Int) (w : World) :
    Calls Try.prog 19 #[.int .i64 n, .int .i64 r] w fun e w' => e = .returned (cdV n r) ∧ Below w.heap.size w w' := by
  have V := Lib.hid (fun w => rate_any r w)
  have I := Lib.hid (fun w => l00In_any n 0 8640000 w)
  unfold cdV
  cases hr : isR r with
  | false =>
    rw [hr] at V
    rw [if_neg (by simp)]
    clear hr
    go_enter Try.func19, Try.ntmps19
    go_wp2_with fail
    refine (V.out _).mono ?_
    rintro e w' ⟨rfl, rfl⟩
    go_wp2_with fail
    refine bodyPost_ret (v := .tuple #[.agg #[.int .i64 0, .int .i64 0, .int .i64 0, .int .i64 0, .int .i64 0], .int .i64 2]) (by first | (simp [results, Try.results19, go_sem]; done) | (simp [results, Try.results19, go_sem]; done)) rfl ⟨rfl, ?_⟩
    repeat (first | exact Below.refl _ _ | refine Below.setCell ?_ (by first | (simp; done) | omega | (simp; omega)) _ | refine Below.alloc ?_ (by first | (simp; done) | omega | (simp; omega)) _ | refine bel_drew ?_)
  | true =>
    rw [hr] at V
    rw [if_pos rfl]
    obtain ⟨z0, z1⟩ := codes_bd hr (a := 1440) (by omega) (by omega)
    cases hi : inR 0 8640000 [n] with
    | false =>
      have hc : ¬ (0 ≤ n ∧ n < codesN r 1440) := fun c => by
        have := (inR_1 0 8640000 n).2 ⟨c.1, by omega⟩
        rw [hi] at this; cases this
      rw [hi] at I
      rw [if_neg hc]
      clear hr hc hi z0 z1
      go_enter Try.func19, Try.ntmps19
      go_wp2_with fail
      refine (V.out _).mono ?_
      rintro e w' ⟨rfl, rfl⟩
      go_wp2_with fail
      refine (I.out _).mono ?_
      rintro e w' ⟨rfl, rfl⟩
      go_wp2_with fail
      refine bodyPost_ret (v := .tuple #[.agg #[.int .i64 0, .int .i64 0, .int .i64 0, .int .i64 0, .int .i64 0], .int .i64 2]) (by first | (simp [results, Try.results19, go_sem]; done) | (simp [results, Try.results19, go_sem]; done)) rfl ⟨rfl, ?_⟩
      repeat (first | exact Below.refl _ _ | refine Below.setCell ?_ (by first | (simp; done) | omega | (simp; omega)) _ | refine Below.alloc ?_ (by first | (simp; done) | omega | (simp; omega)) _ | refine bel_drew ?_)
    | true =>
      obtain ⟨i0, i1⟩ := (inR_1 _ _ _).1 hi
      rw [hi] at I
      have C := Lib.hid (fun w => l16Code_any n r hr (by omega) (by omega) w)
      unfold codeW at C
      rw [if_pos i0] at C
      clear hr hi
      by_cases hc : n < codesN r 1440
      · rw [decide_eq_true hc] at C
        rw [if_pos ⟨i0, hc⟩]
        generalize hN n r = a0 at *
        generalize mN n r = a1 at *
        generalize sN n r = a2 at *
        generalize fN n r = a3 at *
        clear hc z0 z1
        go_enter Try.func19, Try.ntmps19
        go_wp2_with fail
        refine (V.out _).mono ?_
        rintro e w' ⟨rfl, rfl⟩
        go_wp2_with fail
        refine (I.out _).mono ?_
        rintro e w' ⟨rfl, rfl⟩
        go_wp2_with fail
        refine (C.out _).mono ?_
        rintro e w1 ⟨rfl, hb⟩
        have BX := (Bx.new w 0 0 0 0 0 25).below hb
        have HBw1 : Hid (Below w.heap.size w w1) := Lib.hid (Below.trans ((Below.refl _ _).alloc (Nat.le_refl _) _) (hb.mono (by simp)))
        have bl := BX.at_.lt
        obtain ⟨⟨b0, b1, b2, b3, b4⟩, fz⟩ := BX
        clear hb
        go_wp2_with fail
        refine bodyPost_ret (v := .tuple #[.agg #[.int .i64 a0, .int .i64 a1, .int .i64 a2, .int .i64 a3, .int .i64 r], .int .i64 0]) (by simp [results, Try.results19, go_sem, b0, b1, b2, b3, b4, bl]; done) rfl ⟨rfl, ?_⟩
        exact al5 HBw1.out _ (Nat.le_refl _) _ _ _ _ _ _
      · rw [decide_eq_false hc] at C
        rw [if_neg (fun c => hc c.2)]
        generalize hN n r = a0 at *
        generalize mN n r = a1 at *
        generalize sN n r = a2 at *
        generalize fN n r = a3 at *
        clear hc z0 z1
        go_enter Try.func19, Try.ntmps19
        go_wp2_with fail
        refine (V.out _).mono ?_
        rintro e w' ⟨rfl, rfl⟩
        go_wp2_with fail
        refine (I.out _).mono ?_
        rintro e w' ⟨rfl, rfl⟩
        go_wp2_with fail
        refine (C.out _).mono ?_
        rintro e w1 ⟨rfl, hb⟩
        have BX := (Bx.new w 0 0 0 0 0 25).below hb
        have HBw1 : Hid (Below w.heap.size w w1) := Lib.hid (Below.trans ((Below.refl _ _).alloc (Nat.le_refl _) _) (hb.mono (by simp)))
        have bl := BX.at_.lt
        obtain ⟨⟨b0, b1, b2, b3, b4⟩, fz⟩ := BX
        clear hb
        go_wp2_with fail
        refine bodyPost_ret (v := .tuple #[.agg #[.int .i64 0, .int .i64 0, .int .i64 0, .int .i64 0, .int .i64 0], .int .i64 2]) (by simp [results, Try.results19, go_sem, b0, b1, b2, b3, b4, bl]; done) rfl ⟨rfl, ?_⟩
        exact al5 HBw1.out _ (Nat.le_refl _) _ _ _ _ _ _
end Go.Proofs.Ytecnhbgkkfcipaa.Tc
