/-
  Separations in package spec: the contracts of l04Away, Separation.
-/
import Derived.Test.YtjghopepgfgebaaGreatDoorSep
namespace Go.Proofs.YtjghopepgfgebaaGreatDoor
open Go.RowKit
set_option linter.unusedVariables false

theorem cross_zero (x y z x' y' z' : Int) (h : (x = 0 ∧ y = 0 ∧ z = 0) ∨ (x' = 0 ∧ y' = 0 ∧ z' = 0)) : crL x y z x' y' z' = 0 ∧ dotI x y z x' y' z' = 0 := by
  have e : nearQ 0 1000000 = 0 := nearQ_0 _
  unfold crL dotI crI
  rcases h with ⟨rfl, rfl, rfl⟩ | ⟨rfl, rfl, rfl⟩
  · simp only [Int.zero_mul, Int.mul_zero, Int.sub_zero, Int.add_zero, e]
    exact ⟨rfl, trivial⟩
  · simp only [Int.zero_mul, Int.mul_zero, Int.sub_zero, Int.add_zero, e]
    exact ⟨rfl, trivial⟩
def awayV (c d : Int) : Value := if c = 0 ∧ d = 0 then .tuple #[.int .i64 0, .bool false] else .tuple #[.int .i64 (dirI c d), .bool true]
theorem away_zero : awayV 0 0 = .tuple #[.int .i64 0, .bool false] := by unfold awayV; rw [if_pos ⟨rfl, rfl⟩]

set_option maxHeartbeats 2000000 in
theorem l04Away_any (x y z x' y' z' : Int) (hv : inV 2000000 x y z) (hv' : inV 2000000 x' y' z') (w : World) :
    Calls Tryz.prog 105 #[.agg #[.int .i64 x, .int .i64 y, .int .i64 z], .agg #[.int .i64 x', .int .i64 y', .int .i64 z']] w fun e w' => e = .returned (awayV (crL x y z x' y' z') (dotI x y z x' y' z')) ∧ Below w.heap.size w w' := by
  have C := Lib.hid (fun w => l04Cross_any x y z x' y' z' hv hv' w)
  have L := Lib.hid (fun w => l04Length_any (crI y z' z y') (crI z x' x z') (crI x y' y x') (inV_up (cross_in x y z x' y' z' hv hv') (by omega)) w)
  have D := Lib.hid (fun w => l04Dot_any x y z x' y' z' hv hv' w)
  have cb := crL_bd x y z x' y' z' hv hv'
  have db := dotI_bd x y z x' y' z' hv hv'
  have T := Lib.hid (fun w => l02Arc_any (crL x y z x' y' z') (dotI x y z x' y' z') (by omega) (by omega) (by omega) (by omega) w)
  have HZ := Lib.hid (cross_zero x y z x' y' z')
  have HC : crL x y z x' y' z' = len3 (crI y z' z y') (crI z x' x z') (crI x y' y x') := rfl
  rw [← HC] at L
  clear HC hv hv' cb db
  generalize crL x y z x' y' z' = c at *
  generalize dotI x y z x' y' z' = d at *
  generalize crI y z' z y' = p at *
  generalize crI z x' x z' = q at *
  generalize crI x y' y x' = t at *
  by_cases h0 : c = 0 ∧ d = 0
  · obtain ⟨rfl, rfl⟩ := h0
    rw [away_zero]
    clear T HZ
    go_enter Tryz.func105, Tryz.ntmps105
    go_wp2_with fail
    refine (C.out _).mono ?_
    rintro e w1 ⟨rfl, hb⟩
    have hsw1 := hb.size
    try simp at hsw1
    obtain ⟨hcw1, hfw1⟩ := bcell hb
    have HBw1 : Hid (Below w.heap.size w w1) := by
      apply Lib.hid
      refine Below.trans ?_ (hb.mono ?_)
      · repeat (first | exact Below.refl _ _ | refine Below.setCell ?_ (by first | (simp; done) | omega | (simp; omega)) _ | refine Below.alloc ?_ (by first | (simp; done) | omega | (simp; omega)) _)
      · first | (simp; done) | omega | (simp; omega)
    have hzw1 : w.heap.size + 1 < w1.heap.size := by have := hb.size; (try simp at this); omega
    have hyw1 : w.heap.size < w1.heap.size := by have := hb.size; (try simp at this); omega
    clear hb
    go_wp2_with fail
    refine (L.out _).mono ?_
    rintro e w2 ⟨rfl, hb⟩
    have hsw2 := hb.size
    try simp at hsw2
    obtain ⟨hcw2, hfw2⟩ := bcell hb
    have HBw2 : Hid (Below w.heap.size w w2) := by
      apply Lib.hid
      refine Below.trans ?_ (hb.mono ?_)
      · repeat (first | exact Below.refl _ _ | exact HBw1.out | refine Below.setCell ?_ (by first | (simp; done) | omega | (simp; omega)) _ | refine Below.alloc ?_ (by first | (simp; done) | omega | (simp; omega)) _)
      · first | (simp; done) | omega | (simp; omega)
    have hzw2 : w.heap.size + 1 < w2.heap.size := by have := hb.size; (try simp at this); omega
    have hyw2 : w.heap.size < w2.heap.size := by have := hb.size; (try simp at this); omega
    clear hb
    first | (have gsw2w1 : w1.heap.size < w2.heap.size := by omega) | skip
    go_wp2_with fail
    refine (D.out _).mono ?_
    rintro e w3 ⟨rfl, hb⟩
    have hsw3 := hb.size
    try simp at hsw3
    obtain ⟨hcw3, hfw3⟩ := bcell hb
    have HBw3 : Hid (Below w.heap.size w w3) := by
      apply Lib.hid
      refine Below.trans ?_ (hb.mono ?_)
      · repeat (first | exact Below.refl _ _ | exact HBw2.out | refine Below.setCell ?_ (by first | (simp; done) | omega | (simp; omega)) _ | refine Below.alloc ?_ (by first | (simp; done) | omega | (simp; omega)) _)
      · first | (simp; done) | omega | (simp; omega)
    have hzw3 : w.heap.size + 1 < w3.heap.size := by have := hb.size; (try simp at this); omega
    have hyw3 : w.heap.size < w3.heap.size := by have := hb.size; (try simp at this); omega
    clear hb
    first | (have gsw3w1 : w1.heap.size < w3.heap.size := by omega) | skip
    first | (have gsw3w2 : w2.heap.size < w3.heap.size := by omega) | skip
    go_wp2_with fail
    all_goals
      go_ret2
      refine ⟨rfl, ?_⟩
      repeat (first | exact Below.refl _ _ | exact HBw3.out | refine Below.setCell ?_ (by first | (simp; done) | omega | (simp; omega)) _ | refine Below.alloc ?_ (by first | (simp; done) | omega | (simp; omega)) _ | refine bel_drew ?_)
  · have HA : awayV c d = .tuple #[.int .i64 (dirI c d), .bool true] := by unfold awayV; rw [if_neg h0]
    rw [HA]
    clear HA
    have nx : ¬ (x = 0 ∧ y = 0 ∧ z = 0) := fun h => h0 (HZ.out (.inl h))
    have nx' : ¬ (x' = 0 ∧ y' = 0 ∧ z' = 0) := fun h => h0 (HZ.out (.inr h))
    have NX := Lib.hid nx
    have NX' := Lib.hid nx'
    clear HZ nx nx'
    by_cases cc : c = 0
    · subst cc
      have hd : (d == 0) = false := by simp; exact fun h => h0 ⟨rfl, h⟩
      clear h0
      generalize dirI 0 d = r at *
      go_enter Tryz.func105, Tryz.ntmps105
      go_wp2_with fail
      refine (C.out _).mono ?_
      rintro e w1 ⟨rfl, hb⟩
      have hsw1 := hb.size
      try simp at hsw1
      obtain ⟨hcw1, hfw1⟩ := bcell hb
      have HBw1 : Hid (Below w.heap.size w w1) := by
        apply Lib.hid
        refine Below.trans ?_ (hb.mono ?_)
        · repeat (first | exact Below.refl _ _ | refine Below.setCell ?_ (by first | (simp; done) | omega | (simp; omega)) _ | refine Below.alloc ?_ (by first | (simp; done) | omega | (simp; omega)) _)
        · first | (simp; done) | omega | (simp; omega)
      have hzw1 : w.heap.size + 1 < w1.heap.size := by have := hb.size; (try simp at this); omega
      have hyw1 : w.heap.size < w1.heap.size := by have := hb.size; (try simp at this); omega
      clear hb
      go_wp2_with fail
      refine (L.out _).mono ?_
      rintro e w2 ⟨rfl, hb⟩
      have hsw2 := hb.size
      try simp at hsw2
      obtain ⟨hcw2, hfw2⟩ := bcell hb
      have HBw2 : Hid (Below w.heap.size w w2) := by
        apply Lib.hid
        refine Below.trans ?_ (hb.mono ?_)
        · repeat (first | exact Below.refl _ _ | exact HBw1.out | refine Below.setCell ?_ (by first | (simp; done) | omega | (simp; omega)) _ | refine Below.alloc ?_ (by first | (simp; done) | omega | (simp; omega)) _)
        · first | (simp; done) | omega | (simp; omega)
      have hzw2 : w.heap.size + 1 < w2.heap.size := by have := hb.size; (try simp at this); omega
      have hyw2 : w.heap.size < w2.heap.size := by have := hb.size; (try simp at this); omega
      clear hb
      first | (have gsw2w1 : w1.heap.size < w2.heap.size := by omega) | skip
      go_wp2_with fail
      refine (D.out _).mono ?_
      rintro e w3 ⟨rfl, hb⟩
      have hsw3 := hb.size
      try simp at hsw3
      obtain ⟨hcw3, hfw3⟩ := bcell hb
      have HBw3 : Hid (Below w.heap.size w w3) := by
        apply Lib.hid
        refine Below.trans ?_ (hb.mono ?_)
        · repeat (first | exact Below.refl _ _ | exact HBw2.out | refine Below.setCell ?_ (by first | (simp; done) | omega | (simp; omega)) _ | refine Below.alloc ?_ (by first | (simp; done) | omega | (simp; omega)) _)
        · first | (simp; done) | omega | (simp; omega)
      have hzw3 : w.heap.size + 1 < w3.heap.size := by have := hb.size; (try simp at this); omega
      have hyw3 : w.heap.size < w3.heap.size := by have := hb.size; (try simp at this); omega
      clear hb
      first | (have gsw3w1 : w1.heap.size < w3.heap.size := by omega) | skip
      first | (have gsw3w2 : w2.heap.size < w3.heap.size := by omega) | skip
      go_wp2_with fail
      all_goals first
        | (exfalso; apply NX.out; exact ⟨by assumption, by assumption, by assumption⟩)
        | (exfalso; apply NX'.out; exact ⟨by assumption, by assumption, by assumption⟩)
        | (refine (T.out _).mono ?_
           rintro e w4 ⟨rfl, hb⟩
           have HB4 := Lib.hid (HBw3.out.trans (hb.mono HBw3.out.size))
           clear hb
           go_wp2_with fail
           go_ret2
           exact ⟨rfl, HB4.out⟩)
    · have hc : (c == 0) = false := by simpa using cc
      clear h0 cc
      generalize dirI c d = r at *
      go_enter Tryz.func105, Tryz.ntmps105
      go_wp2_with fail
      refine (C.out _).mono ?_
      rintro e w1 ⟨rfl, hb⟩
      have hsw1 := hb.size
      try simp at hsw1
      obtain ⟨hcw1, hfw1⟩ := bcell hb
      have HBw1 : Hid (Below w.heap.size w w1) := by
        apply Lib.hid
        refine Below.trans ?_ (hb.mono ?_)
        · repeat (first | exact Below.refl _ _ | refine Below.setCell ?_ (by first | (simp; done) | omega | (simp; omega)) _ | refine Below.alloc ?_ (by first | (simp; done) | omega | (simp; omega)) _)
        · first | (simp; done) | omega | (simp; omega)
      have hzw1 : w.heap.size + 1 < w1.heap.size := by have := hb.size; (try simp at this); omega
      have hyw1 : w.heap.size < w1.heap.size := by have := hb.size; (try simp at this); omega
      clear hb
      go_wp2_with fail
      refine (L.out _).mono ?_
      rintro e w2 ⟨rfl, hb⟩
      have hsw2 := hb.size
      try simp at hsw2
      obtain ⟨hcw2, hfw2⟩ := bcell hb
      have HBw2 : Hid (Below w.heap.size w w2) := by
        apply Lib.hid
        refine Below.trans ?_ (hb.mono ?_)
        · repeat (first | exact Below.refl _ _ | exact HBw1.out | refine Below.setCell ?_ (by first | (simp; done) | omega | (simp; omega)) _ | refine Below.alloc ?_ (by first | (simp; done) | omega | (simp; omega)) _)
        · first | (simp; done) | omega | (simp; omega)
      have hzw2 : w.heap.size + 1 < w2.heap.size := by have := hb.size; (try simp at this); omega
      have hyw2 : w.heap.size < w2.heap.size := by have := hb.size; (try simp at this); omega
      clear hb
      first | (have gsw2w1 : w1.heap.size < w2.heap.size := by omega) | skip
      go_wp2_with fail
      refine (D.out _).mono ?_
      rintro e w3 ⟨rfl, hb⟩
      have hsw3 := hb.size
      try simp at hsw3
      obtain ⟨hcw3, hfw3⟩ := bcell hb
      have HBw3 : Hid (Below w.heap.size w w3) := by
        apply Lib.hid
        refine Below.trans ?_ (hb.mono ?_)
        · repeat (first | exact Below.refl _ _ | exact HBw2.out | refine Below.setCell ?_ (by first | (simp; done) | omega | (simp; omega)) _ | refine Below.alloc ?_ (by first | (simp; done) | omega | (simp; omega)) _)
        · first | (simp; done) | omega | (simp; omega)
      have hzw3 : w.heap.size + 1 < w3.heap.size := by have := hb.size; (try simp at this); omega
      have hyw3 : w.heap.size < w3.heap.size := by have := hb.size; (try simp at this); omega
      clear hb
      first | (have gsw3w1 : w1.heap.size < w3.heap.size := by omega) | skip
      first | (have gsw3w2 : w2.heap.size < w3.heap.size := by omega) | skip
      go_wp2_with fail
      all_goals first
        | (exfalso; apply NX.out; exact ⟨by assumption, by assumption, by assumption⟩)
        | (exfalso; apply NX'.out; exact ⟨by assumption, by assumption, by assumption⟩)
        | (refine (T.out _).mono ?_
           rintro e w4 ⟨rfl, hb⟩
           have HB4 := Lib.hid (HBw3.out.trans (hb.mono HBw3.out.size))
           clear hb
           go_wp2_with fail
           go_ret2
           exact ⟨rfl, HB4.out⟩)

theorem atan_of (c d : Int) (hc : 0 ≤ c ∧ c ≤ 100000000) (hd : -100000000 ≤ d ∧ d ≤ 100000000) : atanV c d = if c = 0 ∧ d = 0 then .tuple #[.int .i64 0, .int .i64 6] else .tuple #[.int .i64 (dirI c d), .int .i64 0] := by
  unfold atanV
  rw [if_pos ((inR_two _ _ _ _).2 ⟨⟨by omega, by omega⟩, by omega, by omega⟩)]

end Go.Proofs.YtjghopepgfgebaaGreatDoor
