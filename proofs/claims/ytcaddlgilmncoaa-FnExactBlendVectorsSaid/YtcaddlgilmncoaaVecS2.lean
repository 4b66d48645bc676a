/-
  Vectors of package spec: the contracts of LengthOf, DotOf, CrossOf.
-/
import Derived.Test.YtcaddlgilmncoaaVecS
namespace Go.Proofs.Ytcaddlgilmncoaa
open Go.RowKit
set_option linter.unusedVariables false

set_option maxHeartbeats 400000 in
theorem specLen_any (x y z : Int) (w : World) :
    Calls Try.prog 12 #[.agg #[.int .i64 x, .int .i64 y, .int .i64 z]] w fun e w' => e = .returned (lenV x y z) ∧ Below w.heap.size w w' := by
  have I := Lib.hid (fun w => l04Ok_any x y z w)
  unfold lenV
  cases ho : okV x y z with
  | false =>
    rw [if_neg (by simp)]
    rw [ho] at I
    clear ho
    go_enter Try.func12, Try.ntmps12
    go_wp2_with fail
    refine (I.out _).mono ?_
    rintro e w1 ⟨rfl, hb⟩
    have hsw1 := hb.size
    try simp at hsw1
    obtain ⟨hcw1, hfw1⟩ := bcell hb
    have HBw1 : Hid (Below w.heap.size w w1) := by
      apply Lib.hid
      refine Below.trans ?_ (hb.mono ?_)
      · repeat (first | exact Below.refl _ _ | refine Below.setCell ?_ (by first | (simp; done) | omega | (simp; omega)) _ | refine Below.alloc ?_ (by first | (simp; done) | omega | (simp; omega)) _)
      · first | (simp; done) | omega | (simp; omega)
    have hzw1 : w.heap.size < w1.heap.size := by have := hb.size; (try simp at this); omega
    clear hb
    go_wp2_with fail
    go_ret2
    refine ⟨rfl, ?_⟩
    repeat (first | exact Below.refl _ _ | exact HBw1.out | refine Below.setCell ?_ (by first | (simp; done) | omega | (simp; omega)) _ | refine Below.alloc ?_ (by first | (simp; done) | omega | (simp; omega)) _ | refine bel_drew ?_)
  | true =>
    rw [if_pos rfl]
    rw [ho] at I
    have L := Lib.hid (fun w => l04Length_any x y z (inV_up (inV_ok _ _ _ ho) (by omega)) w)
    clear ho
    generalize len3 x y z = n at *
    go_enter Try.func12, Try.ntmps12
    go_wp2_with fail
    refine (I.out _).mono ?_
    rintro e w1 ⟨rfl, hb⟩
    have hsw1 := hb.size
    try simp at hsw1
    obtain ⟨hcw1, hfw1⟩ := bcell hb
    have HBw1 : Hid (Below w.heap.size w w1) := by
      apply Lib.hid
      refine Below.trans ?_ (hb.mono ?_)
      · repeat (first | exact Below.refl _ _ | refine Below.setCell ?_ (by first | (simp; done) | omega | (simp; omega)) _ | refine Below.alloc ?_ (by first | (simp; done) | omega | (simp; omega)) _)
      · first | (simp; done) | omega | (simp; omega)
    have hzw1 : w.heap.size < w1.heap.size := by have := hb.size; (try simp at this); omega
    clear hb
    go_wp2_with fail
    refine (L.out _).mono ?_
    rintro e w2 ⟨rfl, hb⟩
    have hsw2 := hb.size
    try simp at hsw2
    obtain ⟨hcw2, hfw2⟩ := bcell hb
    have HBw2 : Hid (Below w.heap.size w w2) := by
      apply Lib.hid
      refine Below.trans ?_ (hb.mono ?_)
      · repeat (first | exact Below.refl _ _ | exact HBw1.out | refine Below.setCell ?_ (by first | (simp; done) | omega | (simp; omega)) _ | refine Below.alloc ?_ (by first | (simp; done) | omega | (simp; omega)) _)
      · first | (simp; done) | omega | (simp; omega)
    have hzw2 : w.heap.size < w2.heap.size := by have := hb.size; (try simp at this); omega
    clear hb
    go_wp2_with fail
    go_ret2
    refine ⟨rfl, ?_⟩
    repeat (first | exact Below.refl _ _ | exact HBw2.out | refine Below.setCell ?_ (by first | (simp; done) | omega | (simp; omega)) _ | refine Below.alloc ?_ (by first | (simp; done) | omega | (simp; omega)) _ | refine bel_drew ?_)

set_option maxHeartbeats 400000 in
theorem specDot_any (x y z x' y' z' : Int) (w : World) :
    Calls Try.prog 14 #[.agg #[.int .i64 x, .int .i64 y, .int .i64 z], .agg #[.int .i64 x', .int .i64 y', .int .i64 z']] w fun e w' => e = .returned (dotV x y z x' y' z') ∧ Below w.heap.size w w' := by
  have I := Lib.hid (fun w => l04Ok_any x y z w)
  have J := Lib.hid (fun w => l04Ok_any x' y' z' w)
  unfold dotV
  cases ho : okV x y z with
  | false =>
    rw [if_neg (by simp)]
    rw [ho] at I
    clear ho
    go_enter Try.func14, Try.ntmps14
    go_wp2_with fail
    refine (I.out _).mono ?_
    rintro e w1 ⟨rfl, hb⟩
    have hsw1 := hb.size
    try simp at hsw1
    obtain ⟨hcw1, hfw1⟩ := bcell hb
    have HBw1 : Hid (Below w.heap.size w w1) := by
      apply Lib.hid
      refine Below.trans ?_ (hb.mono ?_)
      · repeat (first | exact Below.refl _ _ | refine Below.setCell ?_ (by first | (simp; done) | omega | (simp; omega)) _ | refine Below.alloc ?_ (by first | (simp; done) | omega | (simp; omega)) _)
      · first | (simp; done) | omega | (simp; omega)
    have hzw1 : w.heap.size + 1 < w1.heap.size := by have := hb.size; (try simp at this); omega
    have hyw1 : w.heap.size < w1.heap.size := by have := hb.size; (try simp at this); omega
    clear hb
    go_wp2_with fail
    go_ret2
    refine ⟨rfl, ?_⟩
    repeat (first | exact Below.refl _ _ | exact HBw1.out | refine Below.setCell ?_ (by first | (simp; done) | omega | (simp; omega)) _ | refine Below.alloc ?_ (by first | (simp; done) | omega | (simp; omega)) _ | refine bel_drew ?_)
  | true =>
    rw [if_pos rfl]
    rw [ho] at I
    cases ho' : okV x' y' z' with
    | false =>
      rw [if_neg (by simp)]
      rw [ho'] at J
      clear ho ho'
      go_enter Try.func14, Try.ntmps14
      go_wp2_with fail
      refine (I.out _).mono ?_
      rintro e w1 ⟨rfl, hb⟩
      have hsw1 := hb.size
      try simp at hsw1
      obtain ⟨hcw1, hfw1⟩ := bcell hb
      have HBw1 : Hid (Below w.heap.size w w1) := by
        apply Lib.hid
        refine Below.trans ?_ (hb.mono ?_)
        · repeat (first | exact Below.refl _ _ | refine Below.setCell ?_ (by first | (simp; done) | omega | (simp; omega)) _ | refine Below.alloc ?_ (by first | (simp; done) | omega | (simp; omega)) _)
        · first | (simp; done) | omega | (simp; omega)
      have hzw1 : w.heap.size + 1 < w1.heap.size := by have := hb.size; (try simp at this); omega
      have hyw1 : w.heap.size < w1.heap.size := by have := hb.size; (try simp at this); omega
      clear hb
      go_wp2_with fail
      refine (J.out _).mono ?_
      rintro e w2 ⟨rfl, hb⟩
      have hsw2 := hb.size
      try simp at hsw2
      obtain ⟨hcw2, hfw2⟩ := bcell hb
      have HBw2 : Hid (Below w.heap.size w w2) := by
        apply Lib.hid
        refine Below.trans ?_ (hb.mono ?_)
        · repeat (first | exact Below.refl _ _ | exact HBw1.out | refine Below.setCell ?_ (by first | (simp; done) | omega | (simp; omega)) _ | refine Below.alloc ?_ (by first | (simp; done) | omega | (simp; omega)) _)
        · first | (simp; done) | omega | (simp; omega)
      have hzw2 : w.heap.size + 1 < w2.heap.size := by have := hb.size; (try simp at this); omega
      have hyw2 : w.heap.size < w2.heap.size := by have := hb.size; (try simp at this); omega
      clear hb
      go_wp2_with fail
      go_ret2
      refine ⟨rfl, ?_⟩
      repeat (first | exact Below.refl _ _ | exact HBw2.out | refine Below.setCell ?_ (by first | (simp; done) | omega | (simp; omega)) _ | refine Below.alloc ?_ (by first | (simp; done) | omega | (simp; omega)) _ | refine bel_drew ?_)
    | true =>
      rw [if_pos rfl]
      rw [ho'] at J
      have D := Lib.hid (fun w => l04Dot_any x y z x' y' z' (inV_ok _ _ _ ho) (inV_ok _ _ _ ho') w)
      clear ho ho'
      generalize dotI x y z x' y' z' = n at *
      go_enter Try.func14, Try.ntmps14
      go_wp2_with fail
      refine (I.out _).mono ?_
      rintro e w1 ⟨rfl, hb⟩
      have hsw1 := hb.size
      try simp at hsw1
      obtain ⟨hcw1, hfw1⟩ := bcell hb
      have HBw1 : Hid (Below w.heap.size w w1) := by
        apply Lib.hid
        refine Below.trans ?_ (hb.mono ?_)
        · repeat (first | exact Below.refl _ _ | refine Below.setCell ?_ (by first | (simp; done) | omega | (simp; omega)) _ | refine Below.alloc ?_ (by first | (simp; done) | omega | (simp; omega)) _)
        · first | (simp; done) | omega | (simp; omega)
      have hzw1 : w.heap.size + 1 < w1.heap.size := by have := hb.size; (try simp at this); omega
      have hyw1 : w.heap.size < w1.heap.size := by have := hb.size; (try simp at this); omega
      clear hb
      go_wp2_with fail
      refine (J.out _).mono ?_
      rintro e w2 ⟨rfl, hb⟩
      have hsw2 := hb.size
      try simp at hsw2
      obtain ⟨hcw2, hfw2⟩ := bcell hb
      have HBw2 : Hid (Below w.heap.size w w2) := by
        apply Lib.hid
        refine Below.trans ?_ (hb.mono ?_)
        · repeat (first | exact Below.refl _ _ | exact HBw1.out | refine Below.setCell ?_ (by first | (simp; done) | omega | (simp; omega)) _ | refine Below.alloc ?_ (by first | (simp; done) | omega | (simp; omega)) _)
        · first | (simp; done) | omega | (simp; omega)
      have hzw2 : w.heap.size + 1 < w2.heap.size := by have := hb.size; (try simp at this); omega
      have hyw2 : w.heap.size < w2.heap.size := by have := hb.size; (try simp at this); omega
      clear hb
      go_wp2_with fail
      refine (D.out _).mono ?_
      rintro e w3 ⟨rfl, hb⟩
      have hsw3 := hb.size
      try simp at hsw3
      obtain ⟨hcw3, hfw3⟩ := bcell hb
      have HBw3 : Hid (Below w.heap.size w w3) := by
        apply Lib.hid
        refine Below.trans ?_ (hb.mono ?_)
        · repeat (first | exact Below.refl _ _ | exact HBw2.out | refine Below.setCell ?_ (by first | (simp; done) | omega | (simp; omega)) _ | refine Below.alloc ?_ (by first | (simp; done) | omega | (simp; omega)) _)
        · first | (simp; done) | omega | (simp; omega)
      have hzw3 : w.heap.size + 1 < w3.heap.size := by have := hb.size; (try simp at this); omega
      have hyw3 : w.heap.size < w3.heap.size := by have := hb.size; (try simp at this); omega
      clear hb
      go_wp2_with fail
      go_ret2
      refine ⟨rfl, ?_⟩
      repeat (first | exact Below.refl _ _ | exact HBw3.out | refine Below.setCell ?_ (by first | (simp; done) | omega | (simp; omega)) _ | refine Below.alloc ?_ (by first | (simp; done) | omega | (simp; omega)) _ | refine bel_drew ?_)

set_option maxHeartbeats 400000 in
theorem specCross_any (x y z x' y' z' : Int) (w : World) :
    Calls Try.prog 16 #[.agg #[.int .i64 x, .int .i64 y, .int .i64 z], .agg #[.int .i64 x', .int .i64 y', .int .i64 z']] w fun e w' => e = .returned (crossV x y z x' y' z') ∧ Below w.heap.size w w' := by
  have I := Lib.hid (fun w => l04Ok_any x y z w)
  have J := Lib.hid (fun w => l04Ok_any x' y' z' w)
  unfold crossV
  cases ho : okV x y z with
  | false =>
    rw [if_neg (by simp)]
    rw [ho] at I
    clear ho
    go_enter Try.func16, Try.ntmps16
    go_wp2_with fail
    refine (I.out _).mono ?_
    rintro e w1 ⟨rfl, hb⟩
    have hsw1 := hb.size
    try simp at hsw1
    obtain ⟨hcw1, hfw1⟩ := bcell hb
    have HBw1 : Hid (Below w.heap.size w w1) := by
      apply Lib.hid
      refine Below.trans ?_ (hb.mono ?_)
      · repeat (first | exact Below.refl _ _ | refine Below.setCell ?_ (by first | (simp; done) | omega | (simp; omega)) _ | refine Below.alloc ?_ (by first | (simp; done) | omega | (simp; omega)) _)
      · first | (simp; done) | omega | (simp; omega)
    have hzw1 : w.heap.size + 2 < w1.heap.size := by have := hb.size; (try simp at this); omega
    have hyw1 : w.heap.size + 1 < w1.heap.size := by have := hb.size; (try simp at this); omega
    have hxw1 : w.heap.size < w1.heap.size := by have := hb.size; (try simp at this); omega
    clear hb
    go_wp2_with fail
    refine bodyPost_ret (v := .tuple #[.agg #[.int .i64 0, .int .i64 0, .int .i64 0], .int .i64 1]) (by first | (simp [results, Try.results16, go_sem]; done) | (simp [results, Try.results16, go_sem, *]; done)) rfl ⟨rfl, ?_⟩
    repeat (first | exact Below.refl _ _ | exact HBw1.out | refine Below.setCell ?_ (by first | (simp; done) | omega | (simp; omega)) _ | refine Below.alloc ?_ (by first | (simp; done) | omega | (simp; omega)) _ | refine bel_drew ?_)
  | true =>
    rw [if_pos rfl]
    rw [ho] at I
    cases ho' : okV x' y' z' with
    | false =>
      rw [if_neg (by simp)]
      rw [ho'] at J
      clear ho ho'
      go_enter Try.func16, Try.ntmps16
      go_wp2_with fail
      refine (I.out _).mono ?_
      rintro e w1 ⟨rfl, hb⟩
      have hsw1 := hb.size
      try simp at hsw1
      obtain ⟨hcw1, hfw1⟩ := bcell hb
      have HBw1 : Hid (Below w.heap.size w w1) := by
        apply Lib.hid
        refine Below.trans ?_ (hb.mono ?_)
        · repeat (first | exact Below.refl _ _ | refine Below.setCell ?_ (by first | (simp; done) | omega | (simp; omega)) _ | refine Below.alloc ?_ (by first | (simp; done) | omega | (simp; omega)) _)
        · first | (simp; done) | omega | (simp; omega)
      have hzw1 : w.heap.size + 2 < w1.heap.size := by have := hb.size; (try simp at this); omega
      have hyw1 : w.heap.size + 1 < w1.heap.size := by have := hb.size; (try simp at this); omega
      have hxw1 : w.heap.size < w1.heap.size := by have := hb.size; (try simp at this); omega
      clear hb
      go_wp2_with fail
      refine (J.out _).mono ?_
      rintro e w2 ⟨rfl, hb⟩
      have hsw2 := hb.size
      try simp at hsw2
      obtain ⟨hcw2, hfw2⟩ := bcell hb
      have HBw2 : Hid (Below w.heap.size w w2) := by
        apply Lib.hid
        refine Below.trans ?_ (hb.mono ?_)
        · repeat (first | exact Below.refl _ _ | exact HBw1.out | refine Below.setCell ?_ (by first | (simp; done) | omega | (simp; omega)) _ | refine Below.alloc ?_ (by first | (simp; done) | omega | (simp; omega)) _)
        · first | (simp; done) | omega | (simp; omega)
      have hzw2 : w.heap.size + 2 < w2.heap.size := by have := hb.size; (try simp at this); omega
      have hyw2 : w.heap.size + 1 < w2.heap.size := by have := hb.size; (try simp at this); omega
      have hxw2 : w.heap.size < w2.heap.size := by have := hb.size; (try simp at this); omega
      clear hb
      go_wp2_with fail
      refine bodyPost_ret (v := .tuple #[.agg #[.int .i64 0, .int .i64 0, .int .i64 0], .int .i64 1]) (by first | (simp [results, Try.results16, go_sem]; done) | (simp [results, Try.results16, go_sem, *]; done)) rfl ⟨rfl, ?_⟩
      repeat (first | exact Below.refl _ _ | exact HBw2.out | refine Below.setCell ?_ (by first | (simp; done) | omega | (simp; omega)) _ | refine Below.alloc ?_ (by first | (simp; done) | omega | (simp; omega)) _ | refine bel_drew ?_)
    | true =>
      rw [if_pos rfl]
      rw [ho'] at J
      have D := Lib.hid (fun w => l04Cross_any x y z x' y' z' (inV_ok _ _ _ ho) (inV_ok _ _ _ ho') w)
      clear ho ho'
      have R := Lib.hid (fun w => l04Done_any (crI y z' z y') (crI z x' x z') (crI x y' y x') w)
      obtain ⟨a, b, c, d, hd⟩ := doneV_form (crI y z' z y') (crI z x' x z') (crI x y' y x')
      rw [hd] at R ⊢
      clear hd
      generalize crI y z' z y' = p at *
      generalize crI z x' x z' = q at *
      generalize crI x y' y x' = r at *
      go_enter Try.func16, Try.ntmps16
      go_wp2_with fail
      refine (I.out _).mono ?_
      rintro e w1 ⟨rfl, hb⟩
      have hsw1 := hb.size
      try simp at hsw1
      obtain ⟨hcw1, hfw1⟩ := bcell hb
      have HBw1 : Hid (Below w.heap.size w w1) := by
        apply Lib.hid
        refine Below.trans ?_ (hb.mono ?_)
        · repeat (first | exact Below.refl _ _ | refine Below.setCell ?_ (by first | (simp; done) | omega | (simp; omega)) _ | refine Below.alloc ?_ (by first | (simp; done) | omega | (simp; omega)) _)
        · first | (simp; done) | omega | (simp; omega)
      have hzw1 : w.heap.size + 2 < w1.heap.size := by have := hb.size; (try simp at this); omega
      have hyw1 : w.heap.size + 1 < w1.heap.size := by have := hb.size; (try simp at this); omega
      have hxw1 : w.heap.size < w1.heap.size := by have := hb.size; (try simp at this); omega
      clear hb
      go_wp2_with fail
      refine (J.out _).mono ?_
      rintro e w2 ⟨rfl, hb⟩
      have hsw2 := hb.size
      try simp at hsw2
      obtain ⟨hcw2, hfw2⟩ := bcell hb
      have HBw2 : Hid (Below w.heap.size w w2) := by
        apply Lib.hid
        refine Below.trans ?_ (hb.mono ?_)
        · repeat (first | exact Below.refl _ _ | exact HBw1.out | refine Below.setCell ?_ (by first | (simp; done) | omega | (simp; omega)) _ | refine Below.alloc ?_ (by first | (simp; done) | omega | (simp; omega)) _)
        · first | (simp; done) | omega | (simp; omega)
      have hzw2 : w.heap.size + 2 < w2.heap.size := by have := hb.size; (try simp at this); omega
      have hyw2 : w.heap.size + 1 < w2.heap.size := by have := hb.size; (try simp at this); omega
      have hxw2 : w.heap.size < w2.heap.size := by have := hb.size; (try simp at this); omega
      clear hb
      go_wp2_with fail
      refine (D.out _).mono ?_
      rintro e w3 ⟨rfl, hb⟩
      have hsw3 := hb.size
      try simp at hsw3
      obtain ⟨hcw3, hfw3⟩ := bcell hb
      have HBw3 : Hid (Below w.heap.size w w3) := by
        apply Lib.hid
        refine Below.trans ?_ (hb.mono ?_)
        · repeat (first | exact Below.refl _ _ | exact HBw2.out | refine Below.setCell ?_ (by first | (simp; done) | omega | (simp; omega)) _ | refine Below.alloc ?_ (by first | (simp; done) | omega | (simp; omega)) _)
        · first | (simp; done) | omega | (simp; omega)
      have hzw3 : w.heap.size + 2 < w3.heap.size := by have := hb.size; (try simp at this); omega
      have hyw3 : w.heap.size + 1 < w3.heap.size := by have := hb.size; (try simp at this); omega
      have hxw3 : w.heap.size < w3.heap.size := by have := hb.size; (try simp at this); omega
      clear hb
      go_wp2_with fail
      refine (R.out _).mono ?_
      rintro e w4 ⟨rfl, hb⟩
      have hsw4 := hb.size
      try simp at hsw4
      obtain ⟨hcw4, hfw4⟩ := bcell hb
      have HBw4 : Hid (Below w.heap.size w w4) := by
        apply Lib.hid
        refine Below.trans ?_ (hb.mono ?_)
        · repeat (first | exact Below.refl _ _ | exact HBw3.out | refine Below.setCell ?_ (by first | (simp; done) | omega | (simp; omega)) _ | refine Below.alloc ?_ (by first | (simp; done) | omega | (simp; omega)) _)
        · first | (simp; done) | omega | (simp; omega)
      have hzw4 : w.heap.size + 2 < w4.heap.size := by have := hb.size; (try simp at this); omega
      have hyw4 : w.heap.size + 1 < w4.heap.size := by have := hb.size; (try simp at this); omega
      have hxw4 : w.heap.size < w4.heap.size := by have := hb.size; (try simp at this); omega
      clear hb
      go_wp2_with fail
      refine bodyPost_ret (v := .tuple #[.agg #[.int .i64 a, .int .i64 b, .int .i64 c], .int .i64 d]) (by first | (simp [results, Try.results16, go_sem]; done) | (simp [results, Try.results16, go_sem, *]; done)) rfl ⟨rfl, ?_⟩
      repeat (first | exact Below.refl _ _ | exact HBw4.out | refine Below.setCell ?_ (by first | (simp; done) | omega | (simp; omega)) _ | refine Below.alloc ?_ (by first | (simp; done) | omega | (simp; omega)) _ | refine bel_drew ?_)
theorem lenV_form (x y z : Int) : ∃ a b : Int, lenV x y z = .tuple #[.int .i64 a, .int .i64 b] := by
  unfold lenV
  split <;> exact ⟨_, _, rfl⟩
theorem dotV_form (x y z x' y' z' : Int) : ∃ a b : Int, dotV x y z x' y' z' = .tuple #[.int .i64 a, .int .i64 b] := by
  unfold dotV
  split
  · split <;> exact ⟨_, _, rfl⟩
  · exact ⟨_, _, rfl⟩
theorem crossV_form (x y z x' y' z' : Int) : ∃ a b c d : Int, crossV x y z x' y' z' = .tuple #[.agg #[.int .i64 a, .int .i64 b, .int .i64 c], .int .i64 d] := by
  unfold crossV
  split
  · split
    · exact doneV_form _ _ _
    · exact ⟨_, _, _, _, rfl⟩
  · exact ⟨_, _, _, _, rfl⟩
end Go.Proofs.Ytcaddlgilmncoaa
