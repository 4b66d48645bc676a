/-
  Sites: the codes for a site and angles; the greatest and the least altitude of a star (packages impl and spec).
-/
import Derived.Test.YtoellkbmhpekdaaDoorSite0
import Derived.Test.YtoellkbmhpekdaaDoorAbs
namespace Go.Proofs.YtoellkbmhpekdaaDoor
open Go.RowKit
set_option linter.unusedVariables false

theorem ab_bd6 (x : Int) (h : -1000000 ≤ x) (h' : x ≤ 1000000) : 0 ≤ ab x ∧ ab x ≤ 1000000 := by unfold ab; split <;> omega
theorem ask_0 (s : ByteArray) (a b sid r d : Int) : askI s a b sid r d = 0 ↔ siteB s a b = true ∧ (0 ≤ sid ∧ sid ≤ 359999) ∧ (0 ≤ r ∧ r ≤ 359999) ∧ (-90000 ≤ b ∧ b ≤ 90000) ∧ (-90000 ≤ d ∧ d ≤ 90000) ∧ (-180000 ≤ a ∧ a ≤ 180000) ∧ nameB s.data.toList = true := by
  unfold askI dirB
  constructor
  · intro h
    split at h
    · rename_i hs
      split at h
      · rename_i hd
        simp only [Bool.and_eq_true, inR_1] at hd
        have hs2 := hs
        unfold siteB at hs2
        simp only [Bool.and_eq_true, inR_1] at hs2
        exact ⟨hs, hd.1, hd.2.1, hs2.2.2, hd.2.2, hs2.2.1, hs2.1⟩
      · omega
    · omega
  · rintro ⟨h, h1, h2, h3, h4, h5, h6⟩
    rw [if_pos h, if_pos (by simp only [Bool.and_eq_true, inR_1]; exact ⟨h1, h2, h4⟩)]
theorem ask_codes (s : ByteArray) (a b sid r d : Int) : askI s a b sid r d = 0 ∨ askI s a b sid r d = 1 ∨ askI s a b sid r d = 2 := by
  unfold askI
  split
  · split <;> simp
  · simp

set_option maxHeartbeats 1000000 in
theorem l06Ask_at (g o : Nat) (s : ByteArray) (a b sid r d : Int) (w : World) (c0 : w.cell? ⟨g, o, none⟩ = some (.string s)) (c1 : w.cell? ⟨g, o + 1, none⟩ = some (.int .i64 a)) (c2 : w.cell? ⟨g, o + 2, none⟩ = some (.int .i64 b)) :
    Calls Tryd.prog 33 #[.pointer (some ⟨g, o, none⟩), .int .i64 sid, .int .i64 r, .int .i64 d] w fun e w' => e = .returned (.int .i64 (askI s a b sid r d)) ∧ w = w' := by
  unfold askI dirB
  have I0 := Lib.hid (fun (_ : Unit) => l06Ok_at g o s a b w c0 c1 c2)
  have I1 := Lib.hid (fun w => l06Turn_any sid w)
  have I2 := Lib.hid (fun w => l06Turn_any r w)
  have I3 := Lib.hid (fun w => l06Lat_any d w)
  clear c0 c1 c2
  generalize siteB s a b = p0 at *
  generalize inR 0 359999 [sid] = p1 at *
  generalize inR 0 359999 [r] = p2 at *
  generalize inR (-90000) 90000 [d] = p3 at *
  cases p0 with
  | false =>
    simp only [Bool.false_and, Bool.and_false, Bool.true_and, Bool.and_true, if_true, if_false, Bool.false_eq_true, ite_true, ite_false]
    go_enter Tryd.func33, Tryd.ntmps33
    go_wp2_with fail
    refine (I0.out ()).mono ?_
    rintro e w' ⟨rfl, rfl⟩
    go_wp2_with fail
    go_ret
    exact ⟨rfl, rfl⟩
  | true =>
    cases p1 with
    | false =>
      simp only [Bool.false_and, Bool.and_false, Bool.true_and, Bool.and_true, if_true, if_false, Bool.false_eq_true, ite_true, ite_false]
      go_enter Tryd.func33, Tryd.ntmps33
      go_wp2_with fail
      refine (I0.out ()).mono ?_
      rintro e w' ⟨rfl, rfl⟩
      go_wp2_with fail
      refine (I1.out _).mono ?_
      rintro e w' ⟨rfl, rfl⟩
      go_wp2_with fail
      go_ret
      exact ⟨rfl, rfl⟩
    | true =>
      cases p2 with
      | false =>
        simp only [Bool.false_and, Bool.and_false, Bool.true_and, Bool.and_true, if_true, if_false, Bool.false_eq_true, ite_true, ite_false]
        go_enter Tryd.func33, Tryd.ntmps33
        go_wp2_with fail
        refine (I0.out ()).mono ?_
        rintro e w' ⟨rfl, rfl⟩
        go_wp2_with fail
        refine (I1.out _).mono ?_
        rintro e w' ⟨rfl, rfl⟩
        go_wp2_with fail
        refine (I2.out _).mono ?_
        rintro e w' ⟨rfl, rfl⟩
        go_wp2_with fail
        go_ret
        exact ⟨rfl, rfl⟩
      | true =>
        cases p3 with
        | false =>
          simp only [Bool.false_and, Bool.and_false, Bool.true_and, Bool.and_true, if_true, if_false, Bool.false_eq_true, ite_true, ite_false]
          go_enter Tryd.func33, Tryd.ntmps33
          go_wp2_with fail
          refine (I0.out ()).mono ?_
          rintro e w' ⟨rfl, rfl⟩
          go_wp2_with fail
          refine (I1.out _).mono ?_
          rintro e w' ⟨rfl, rfl⟩
          go_wp2_with fail
          refine (I2.out _).mono ?_
          rintro e w' ⟨rfl, rfl⟩
          go_wp2_with fail
          refine (I3.out _).mono ?_
          rintro e w' ⟨rfl, rfl⟩
          go_wp2_with fail
          go_ret
          exact ⟨rfl, rfl⟩
        | true =>
          simp only [Bool.false_and, Bool.and_false, Bool.true_and, Bool.and_true, if_true, if_false, ite_true, ite_false]
          go_enter Tryd.func33, Tryd.ntmps33
          go_wp2_with fail
          refine (I0.out ()).mono ?_
          rintro e w' ⟨rfl, rfl⟩
          go_wp2_with fail
          refine (I1.out _).mono ?_
          rintro e w' ⟨rfl, rfl⟩
          go_wp2_with fail
          refine (I2.out _).mono ?_
          rintro e w' ⟨rfl, rfl⟩
          go_wp2_with fail
          refine (I3.out _).mono ?_
          rintro e w' ⟨rfl, rfl⟩
          go_wp2_with fail
          go_ret
          exact ⟨rfl, rfl⟩

set_option maxHeartbeats 1000000 in
theorem check_any (s : ByteArray) (a b sid r d : Int) (hmax : s.size ≤ maxLen) (w : World) :
    Calls Tryd.prog 36 #[.agg #[.string s, .int .i64 a, .int .i64 b, .int .i64 sid], .agg #[.int .i64 r, .int .i64 d]] w fun e w' => e = .returned (.int .i64 (askI s a b sid r d)) ∧ Below w.heap.size w w' := by
  unfold askI
  have I0 := Lib.hid (fun w => validSite_any s a b hmax w)
  have I1 := Lib.hid (fun w => isTurn_any sid w)
  have I2 := Lib.hid (fun w => dirValid_any r d w)
  clear hmax
  generalize siteB s a b = p0 at *
  generalize inR 0 359999 [sid] = p1 at *
  generalize dirB r d = p2 at *
  cases p0 with
  | false =>
    simp only [Bool.false_and, Bool.and_false, Bool.true_and, Bool.and_true, if_true, if_false, Bool.false_eq_true, ite_true, ite_false]
    go_enter Tryd.func36, Tryd.ntmps36
    go_wp2_with fail
    refine (I0.out _).mono ?_
    rintro e w0 ⟨rfl, hb⟩
    have hsw0 := hb.size
    try simp at hsw0
    obtain ⟨hcw0, hfw0⟩ := bcell hb
    have HBw0 : Hid (Below w.heap.size w w0) := by
      apply Lib.hid
      refine Below.trans ?_ (hb.mono ?_)
      · repeat (first | exact Below.refl _ _ | refine Below.setCell ?_ (by first | (simp; done) | omega | (simp; omega)) _ | refine Below.alloc ?_ (by first | (simp; done) | omega | (simp; omega)) _)
      · first | (simp; done) | omega | (simp; omega)
    have hzw0 : w.heap.size + 1 < w0.heap.size := by have := hb.size; (try simp at this); omega
    have hyw0 : w.heap.size < w0.heap.size := by have := hb.size; (try simp at this); omega
    clear hb
    go_wp2_with fail
    go_ret
    refine ⟨rfl, ?_⟩
    repeat (first | exact Below.refl _ _ | exact HBw0.out | refine Below.setCell ?_ (by first | (simp; done) | omega | (simp; omega)) _ | refine Below.alloc ?_ (by first | (simp; done) | omega | (simp; omega)) _ | refine bel_drew ?_)
  | true =>
    cases p1 with
    | false =>
      simp only [Bool.false_and, Bool.and_false, Bool.true_and, Bool.and_true, if_true, if_false, Bool.false_eq_true, ite_true, ite_false]
      go_enter Tryd.func36, Tryd.ntmps36
      go_wp2_with fail
      refine (I0.out _).mono ?_
      rintro e w0 ⟨rfl, hb⟩
      have hsw0 := hb.size
      try simp at hsw0
      obtain ⟨hcw0, hfw0⟩ := bcell hb
      have HBw0 : Hid (Below w.heap.size w w0) := by
        apply Lib.hid
        refine Below.trans ?_ (hb.mono ?_)
        · repeat (first | exact Below.refl _ _ | refine Below.setCell ?_ (by first | (simp; done) | omega | (simp; omega)) _ | refine Below.alloc ?_ (by first | (simp; done) | omega | (simp; omega)) _)
        · first | (simp; done) | omega | (simp; omega)
      have hzw0 : w.heap.size + 1 < w0.heap.size := by have := hb.size; (try simp at this); omega
      have hyw0 : w.heap.size < w0.heap.size := by have := hb.size; (try simp at this); omega
      clear hb
      go_wp2_with fail
      refine (I1.out _).mono ?_
      rintro e w1 ⟨rfl, hb⟩
      have hsw1 := hb.size
      try simp at hsw1
      obtain ⟨hcw1, hfw1⟩ := bcell hb
      have HBw1 : Hid (Below w.heap.size w w1) := by
        apply Lib.hid
        refine Below.trans ?_ (hb.mono ?_)
        · repeat (first | exact Below.refl _ _ | exact HBw0.out | refine Below.setCell ?_ (by first | (simp; done) | omega | (simp; omega)) _ | refine Below.alloc ?_ (by first | (simp; done) | omega | (simp; omega)) _)
        · first | (simp; done) | omega | (simp; omega)
      have hzw1 : w.heap.size + 1 < w1.heap.size := by have := hb.size; (try simp at this); omega
      have hyw1 : w.heap.size < w1.heap.size := by have := hb.size; (try simp at this); omega
      clear hb
      first | (have gsw1w0 : w0.heap.size < w1.heap.size := by omega) | skip
      go_wp2_with fail
      go_ret
      refine ⟨rfl, ?_⟩
      repeat (first | exact Below.refl _ _ | exact HBw1.out | refine Below.setCell ?_ (by first | (simp; done) | omega | (simp; omega)) _ | refine Below.alloc ?_ (by first | (simp; done) | omega | (simp; omega)) _ | refine bel_drew ?_)
    | true =>
      cases p2 with
      | false =>
        simp only [Bool.false_and, Bool.and_false, Bool.true_and, Bool.and_true, if_true, if_false, Bool.false_eq_true, ite_true, ite_false]
        go_enter Tryd.func36, Tryd.ntmps36
        go_wp2_with fail
        refine (I0.out _).mono ?_
        rintro e w0 ⟨rfl, hb⟩
        have hsw0 := hb.size
        try simp at hsw0
        obtain ⟨hcw0, hfw0⟩ := bcell hb
        have HBw0 : Hid (Below w.heap.size w w0) := by
          apply Lib.hid
          refine Below.trans ?_ (hb.mono ?_)
          · repeat (first | exact Below.refl _ _ | refine Below.setCell ?_ (by first | (simp; done) | omega | (simp; omega)) _ | refine Below.alloc ?_ (by first | (simp; done) | omega | (simp; omega)) _)
          · first | (simp; done) | omega | (simp; omega)
        have hzw0 : w.heap.size + 1 < w0.heap.size := by have := hb.size; (try simp at this); omega
        have hyw0 : w.heap.size < w0.heap.size := by have := hb.size; (try simp at this); omega
        clear hb
        go_wp2_with fail
        refine (I1.out _).mono ?_
        rintro e w1 ⟨rfl, hb⟩
        have hsw1 := hb.size
        try simp at hsw1
        obtain ⟨hcw1, hfw1⟩ := bcell hb
        have HBw1 : Hid (Below w.heap.size w w1) := by
          apply Lib.hid
          refine Below.trans ?_ (hb.mono ?_)
          · repeat (first | exact Below.refl _ _ | exact HBw0.out | refine Below.setCell ?_ (by first | (simp; done) | omega | (simp; omega)) _ | refine Below.alloc ?_ (by first | (simp; done) | omega | (simp; omega)) _)
          · first | (simp; done) | omega | (simp; omega)
        have hzw1 : w.heap.size + 1 < w1.heap.size := by have := hb.size; (try simp at this); omega
        have hyw1 : w.heap.size < w1.heap.size := by have := hb.size; (try simp at this); omega
        clear hb
        first | (have gsw1w0 : w0.heap.size < w1.heap.size := by omega) | skip
        go_wp2_with fail
        refine (I2.out _).mono ?_
        rintro e w2 ⟨rfl, hb⟩
        have hsw2 := hb.size
        try simp at hsw2
        obtain ⟨hcw2, hfw2⟩ := bcell hb
        have HBw2 : Hid (Below w.heap.size w w2) := by
          apply Lib.hid
          refine Below.trans ?_ (hb.mono ?_)
          · repeat (first | exact Below.refl _ _ | exact HBw1.out | refine Below.setCell ?_ (by first | (simp; done) | omega | (simp; omega)) _ | refine Below.alloc ?_ (by first | (simp; done) | omega | (simp; omega)) _)
          · first | (simp; done) | omega | (simp; omega)
        have hzw2 : w.heap.size + 1 < w2.heap.size := by have := hb.size; (try simp at this); omega
        have hyw2 : w.heap.size < w2.heap.size := by have := hb.size; (try simp at this); omega
        clear hb
        first | (have gsw2w0 : w0.heap.size < w2.heap.size := by omega) | skip
        first | (have gsw2w1 : w1.heap.size < w2.heap.size := by omega) | skip
        go_wp2_with fail
        go_ret
        refine ⟨rfl, ?_⟩
        repeat (first | exact Below.refl _ _ | exact HBw2.out | refine Below.setCell ?_ (by first | (simp; done) | omega | (simp; omega)) _ | refine Below.alloc ?_ (by first | (simp; done) | omega | (simp; omega)) _ | refine bel_drew ?_)
      | true =>
        simp only [Bool.false_and, Bool.and_false, Bool.true_and, Bool.and_true, if_true, if_false, ite_true, ite_false]
        go_enter Tryd.func36, Tryd.ntmps36
        go_wp2_with fail
        refine (I0.out _).mono ?_
        rintro e w0 ⟨rfl, hb⟩
        have hsw0 := hb.size
        try simp at hsw0
        obtain ⟨hcw0, hfw0⟩ := bcell hb
        have HBw0 : Hid (Below w.heap.size w w0) := by
          apply Lib.hid
          refine Below.trans ?_ (hb.mono ?_)
          · repeat (first | exact Below.refl _ _ | refine Below.setCell ?_ (by first | (simp; done) | omega | (simp; omega)) _ | refine Below.alloc ?_ (by first | (simp; done) | omega | (simp; omega)) _)
          · first | (simp; done) | omega | (simp; omega)
        have hzw0 : w.heap.size + 1 < w0.heap.size := by have := hb.size; (try simp at this); omega
        have hyw0 : w.heap.size < w0.heap.size := by have := hb.size; (try simp at this); omega
        clear hb
        go_wp2_with fail
        refine (I1.out _).mono ?_
        rintro e w1 ⟨rfl, hb⟩
        have hsw1 := hb.size
        try simp at hsw1
        obtain ⟨hcw1, hfw1⟩ := bcell hb
        have HBw1 : Hid (Below w.heap.size w w1) := by
          apply Lib.hid
          refine Below.trans ?_ (hb.mono ?_)
          · repeat (first | exact Below.refl _ _ | exact HBw0.out | refine Below.setCell ?_ (by first | (simp; done) | omega | (simp; omega)) _ | refine Below.alloc ?_ (by first | (simp; done) | omega | (simp; omega)) _)
          · first | (simp; done) | omega | (simp; omega)
        have hzw1 : w.heap.size + 1 < w1.heap.size := by have := hb.size; (try simp at this); omega
        have hyw1 : w.heap.size < w1.heap.size := by have := hb.size; (try simp at this); omega
        clear hb
        first | (have gsw1w0 : w0.heap.size < w1.heap.size := by omega) | skip
        go_wp2_with fail
        refine (I2.out _).mono ?_
        rintro e w2 ⟨rfl, hb⟩
        have hsw2 := hb.size
        try simp at hsw2
        obtain ⟨hcw2, hfw2⟩ := bcell hb
        have HBw2 : Hid (Below w.heap.size w w2) := by
          apply Lib.hid
          refine Below.trans ?_ (hb.mono ?_)
          · repeat (first | exact Below.refl _ _ | exact HBw1.out | refine Below.setCell ?_ (by first | (simp; done) | omega | (simp; omega)) _ | refine Below.alloc ?_ (by first | (simp; done) | omega | (simp; omega)) _)
          · first | (simp; done) | omega | (simp; omega)
        have hzw2 : w.heap.size + 1 < w2.heap.size := by have := hb.size; (try simp at this); omega
        have hyw2 : w.heap.size < w2.heap.size := by have := hb.size; (try simp at this); omega
        clear hb
        first | (have gsw2w0 : w0.heap.size < w2.heap.size := by omega) | skip
        first | (have gsw2w1 : w1.heap.size < w2.heap.size := by omega) | skip
        go_wp2_with fail
        go_ret
        refine ⟨rfl, ?_⟩
        repeat (first | exact Below.refl _ _ | exact HBw2.out | refine Below.setCell ?_ (by first | (simp; done) | omega | (simp; omega)) _ | refine Below.alloc ?_ (by first | (simp; done) | omega | (simp; omega)) _ | refine bel_drew ?_)

set_option maxHeartbeats 1000000 in
theorem checkStar_any (s : ByteArray) (a b r d : Int) (hmax : s.size ≤ maxLen) (w : World) :
    Calls Tryd.prog 48 #[.agg #[.string s, .int .i64 a, .int .i64 b], .int .i64 r, .int .i64 d] w fun e w' => e = .returned (.int .i64 (askI s a b 0 r d)) ∧ Below w.heap.size w w' := by
  have C := Lib.hid (fun w => check_any s a b 0 r d hmax w)
  clear hmax
  generalize askI s a b 0 r d = k at *
  go_enter Tryd.func48, Tryd.ntmps48
  go_wp2_with fail
  refine (C.out _).mono ?_
  rintro e w1 ⟨rfl, hb⟩
  have hsw1 := hb.size
  try simp at hsw1
  obtain ⟨hcw1, hfw1⟩ := bcell hb
  have HBw1 : Hid (Below w.heap.size w w1) := by
    apply Lib.hid
    refine Below.trans ?_ (hb.mono ?_)
    · repeat (first | exact Below.refl _ _ | refine Below.setCell ?_ (by first | (simp; done) | omega | (simp; omega)) _ | refine Below.alloc ?_ (by first | (simp; done) | omega | (simp; omega)) _)
    · first | (simp; done) | omega | (simp; omega)
  have hzw1 : w.heap.size < w1.heap.size := by have := hb.size; (try simp at this); omega
  clear hb
  go_wp2_with fail
  go_ret
  refine ⟨rfl, ?_⟩
  repeat (first | exact Below.refl _ _ | exact HBw1.out | refine Below.setCell ?_ (by first | (simp; done) | omega | (simp; omega)) _ | refine Below.alloc ?_ (by first | (simp; done) | omega | (simp; omega)) _ | refine bel_drew ?_)
/-- What the greatest and the least altitude of a star are. -/
def culV (s : ByteArray) (a b d : Int) : Value := if askI s a b 0 0 d = 0 then .tuple #[.int .i64 (90000 - ab (b - d)), .int .i64 0] else .tuple #[.int .i64 0, .int .i64 (askI s a b 0 0 d)]
def lowV (s : ByteArray) (a b d : Int) : Value := if askI s a b 0 0 d = 0 then .tuple #[.int .i64 (ab (b + d) - 90000), .int .i64 0] else .tuple #[.int .i64 0, .int .i64 (askI s a b 0 0 d)]
theorem culV_form (s : ByteArray) (a b d : Int) : ∃ p q : Int, culV s a b d = .tuple #[.int .i64 p, .int .i64 q] := by unfold culV; split <;> exact ⟨_, _, rfl⟩
theorem lowV_form (s : ByteArray) (a b d : Int) : ∃ p q : Int, lowV s a b d = .tuple #[.int .i64 p, .int .i64 q] := by unfold lowV; split <;> exact ⟨_, _, rfl⟩
end Go.Proofs.YtoellkbmhpekdaaDoor
