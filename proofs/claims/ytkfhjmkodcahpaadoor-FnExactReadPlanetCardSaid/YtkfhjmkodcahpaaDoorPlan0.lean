/-
  Planets: as arguments; the contracts of szPlanet, toPlanet, eqPlanet (package laws), of ValidPlanet (packages impl and spec).
-/
import Derived.Test.YtkfhjmkodcahpaaDoorArg0
import Derived.Test.YtkfhjmkodcahpaaDoorNam
import Derived.Test.YtkfhjmkodcahpaaDoorVec0
import Derived.RegionTactic
import Derived.Deep.QuietTactic
import Derived.BigQuiet
import Derived.Deep.Draws
namespace Go.Proofs.YtkfhjmkodcahpaaDoor
open Go.RowKit Go.Joins Go.ChangeShapes Go.WideShapes Go.Deep
set_option linter.unusedVariables false

def PlanetOk (s : ByteArray) (a b c : Int) : Prop := s.size ≤ maxLen ∧ fits a ∧ fits b ∧ fits c
set_option maxHeartbeats 1000000 in
theorem eqPlanet_same (s : ByteArray) (a b c : Int) (w : World) :
    Calls Tryd.prog 7 #[.agg #[.string s, .int .i64 a, .int .i64 b, .int .i64 c], .agg #[.string s, .int .i64 a, .int .i64 b, .int .i64 c]] w fun e w' => e = .returned (.bool true) ∧ Below w.heap.size w w' := by
  go_enter Tryd.func7, Tryd.ntmps7
  go_wp2_with fail
  go_ret
  refine ⟨rfl, ?_⟩
  repeat (first | exact Below.refl _ _ | refine Below.setCell ?_ (by first | (simp; done) | omega | (simp; omega)) _ | refine Below.alloc ?_ (by first | (simp; done) | omega | (simp; omega)) _ | refine bel_drew ?_)
def planetB (s : ByteArray) (a b c : Int) : Bool := nameB s.data.toList && (inR 1000 100000000 [a] && (inR 1 50000 [b] && inR 0 359999 [c]))
set_option maxHeartbeats 400000 in
theorem isTurnP_any (a : Int) (w : World) :
    Calls Tryd.prog 26 #[.int .i64 a] w fun e w' => e = .returned (.bool (inR 0 359999 [a])) ∧ Below w.heap.size w w' := by
  go_enter Tryd.func26, Tryd.ntmps26
  go_wp2_with fail
  refine (within1 _ _ a _ _ _ (by simp)).mono ?_
  rintro e w' ⟨rfl, rfl⟩
  go_wp2_with fail
  go_ret
  refine ⟨rfl, ?_⟩
  repeat (first | exact Below.refl _ _ | refine Below.setCell ?_ (by first | (simp; done) | omega | (simp; omega)) _ | refine Below.alloc ?_ (by first | (simp; done) | omega | (simp; omega)) _ | refine bel_drew ?_)
set_option maxHeartbeats 1000000 in
theorem validPlanet_any (s : ByteArray) (a b c : Int) (hmax : s.size ≤ maxLen) (w : World) :
    Calls Tryd.prog 15 #[.agg #[.string s, .int .i64 a, .int .i64 b, .int .i64 c]] w fun e w' => e = .returned (.bool (planetB s a b c)) ∧ Below w.heap.size w w' := by
  unfold planetB
  have hm : s.size ≤ 9223372036854775807 := by unfold maxLen at hmax; omega
  have I1 := Lib.hid (fun w => implName_any s w hm)
  have I4 := Lib.hid (fun w => isTurnP_any c w)
  clear hm hmax
  generalize nameB s.data.toList = p1 at *
  generalize inR 0 359999 [c] = p4 at *
  cases p1 with
  | false =>
    rw [Bool.false_and]
    go_enter Tryd.func15, Tryd.ntmps15
    go_wp2_with fail
    refine (I1.out _).mono ?_
    rintro e w1 ⟨rfl, hb⟩
    have hsw1 := hb.size
    try simp at hsw1
    obtain ⟨hcw1, hfw1⟩ := bcell hb
    have HBw1 : Hid (Below w.heap.size w w1) := by
      apply Lib.hid
      refine Below.trans ?_ (hb.mono ?_)
      · repeat (first | exact Below.refl _ _ | refine Below.setCell ?_ (by first | (simp; done) | omega | (simp; omega)) _ | refine Below.alloc ?_ (by first | (simp; done) | omega | (simp; omega)) _)
      · first | (simp; done) | omega | (simp; omega)
    have hzw1 : w.heap.size < w1.heap.size := by have := hb.size; (try simp at this); omega
    clear hb
    go_wp2_with fail
    go_ret
    refine ⟨rfl, ?_⟩
    repeat (first | exact Below.refl _ _ | exact HBw1.out | refine Below.setCell ?_ (by first | (simp; done) | omega | (simp; omega)) _ | refine Below.alloc ?_ (by first | (simp; done) | omega | (simp; omega)) _ | refine bel_drew ?_)
  | true =>
    rw [Bool.true_and]
    cases h2 : inR 1000 100000000 [a] with
    | false =>
      rw [Bool.false_and]
      have H2 := Lib.hid h2
      clear h2
      go_enter Tryd.func15, Tryd.ntmps15
      go_wp2_with fail
      refine (I1.out _).mono ?_
      rintro e w1 ⟨rfl, hb⟩
      have hsw1 := hb.size
      try simp at hsw1
      obtain ⟨hcw1, hfw1⟩ := bcell hb
      have HBw1 : Hid (Below w.heap.size w w1) := by
        apply Lib.hid
        refine Below.trans ?_ (hb.mono ?_)
        · repeat (first | exact Below.refl _ _ | refine Below.setCell ?_ (by first | (simp; done) | omega | (simp; omega)) _ | refine Below.alloc ?_ (by first | (simp; done) | omega | (simp; omega)) _)
        · first | (simp; done) | omega | (simp; omega)
      have hzw1 : w.heap.size < w1.heap.size := by have := hb.size; (try simp at this); omega
      clear hb
      go_wp2_with fail
      refine (within1 _ _ a _ _ _ (by first | (simp; done) | (rw [World.cell?_alloc_at _ _ _ _ (by simp)]; rfl))).mono ?_
      rintro e w' ⟨rfl, rfl⟩
      rw [H2.out]
      go_wp2_with fail
      go_ret
      refine ⟨rfl, ?_⟩
      repeat (first | exact Below.refl _ _ | exact HBw1.out | refine Below.setCell ?_ (by first | (simp; done) | omega | (simp; omega)) _ | refine Below.alloc ?_ (by first | (simp; done) | omega | (simp; omega)) _ | refine bel_drew ?_)
    | true =>
      rw [Bool.true_and]
      have H2 := Lib.hid h2
      clear h2
      cases h3 : inR 1 50000 [b] with
      | false =>
        rw [Bool.false_and]
        have H3 := Lib.hid h3
        clear h3
        go_enter Tryd.func15, Tryd.ntmps15
        go_wp2_with fail
        refine (I1.out _).mono ?_
        rintro e w1 ⟨rfl, hb⟩
        have hsw1 := hb.size
        try simp at hsw1
        obtain ⟨hcw1, hfw1⟩ := bcell hb
        have HBw1 : Hid (Below w.heap.size w w1) := by
          apply Lib.hid
          refine Below.trans ?_ (hb.mono ?_)
          · repeat (first | exact Below.refl _ _ | refine Below.setCell ?_ (by first | (simp; done) | omega | (simp; omega)) _ | refine Below.alloc ?_ (by first | (simp; done) | omega | (simp; omega)) _)
          · first | (simp; done) | omega | (simp; omega)
        have hzw1 : w.heap.size < w1.heap.size := by have := hb.size; (try simp at this); omega
        clear hb
        go_wp2_with fail
        refine (within1 _ _ a _ _ _ (by first | (simp; done) | (rw [World.cell?_alloc_at _ _ _ _ (by simp)]; rfl))).mono ?_
        rintro e w' ⟨rfl, rfl⟩
        rw [H2.out]
        go_wp2_with fail
        refine (within1 _ _ b _ _ _ (by first | (simp; done) | (rw [World.cell?_alloc_at _ _ _ _ (by simp)]; rfl))).mono ?_
        rintro e w' ⟨rfl, rfl⟩
        rw [H3.out]
        go_wp2_with fail
        go_ret
        refine ⟨rfl, ?_⟩
        repeat (first | exact Below.refl _ _ | exact HBw1.out | refine Below.setCell ?_ (by first | (simp; done) | omega | (simp; omega)) _ | refine Below.alloc ?_ (by first | (simp; done) | omega | (simp; omega)) _ | refine bel_drew ?_)
      | true =>
        rw [Bool.true_and]
        have H3 := Lib.hid h3
        clear h3
        go_enter Tryd.func15, Tryd.ntmps15
        go_wp2_with fail
        refine (I1.out _).mono ?_
        rintro e w1 ⟨rfl, hb⟩
        have hsw1 := hb.size
        try simp at hsw1
        obtain ⟨hcw1, hfw1⟩ := bcell hb
        have HBw1 : Hid (Below w.heap.size w w1) := by
          apply Lib.hid
          refine Below.trans ?_ (hb.mono ?_)
          · repeat (first | exact Below.refl _ _ | refine Below.setCell ?_ (by first | (simp; done) | omega | (simp; omega)) _ | refine Below.alloc ?_ (by first | (simp; done) | omega | (simp; omega)) _)
          · first | (simp; done) | omega | (simp; omega)
        have hzw1 : w.heap.size < w1.heap.size := by have := hb.size; (try simp at this); omega
        clear hb
        go_wp2_with fail
        refine (within1 _ _ a _ _ _ (by first | (simp; done) | (rw [World.cell?_alloc_at _ _ _ _ (by simp)]; rfl))).mono ?_
        rintro e w' ⟨rfl, rfl⟩
        rw [H2.out]
        go_wp2_with fail
        refine (within1 _ _ b _ _ _ (by first | (simp; done) | (rw [World.cell?_alloc_at _ _ _ _ (by simp)]; rfl))).mono ?_
        rintro e w' ⟨rfl, rfl⟩
        rw [H3.out]
        go_wp2_with fail
        refine (I4.out _).mono ?_
        rintro e w2 ⟨rfl, hb⟩
        have hsw2 := hb.size
        try simp at hsw2
        obtain ⟨hcw2, hfw2⟩ := bcell hb
        have HBw2 : Hid (Below w.heap.size w w2) := by
          apply Lib.hid
          refine Below.trans ?_ (hb.mono ?_)
          · repeat (first | exact Below.refl _ _ | exact HBw1.out | refine Below.setCell ?_ (by first | (simp; done) | omega | (simp; omega)) _ | refine Below.alloc ?_ (by first | (simp; done) | omega | (simp; omega)) _)
          · first | (simp; done) | omega | (simp; omega)
        have hzw2 : w.heap.size < w2.heap.size := by have := hb.size; (try simp at this); omega
        clear hb
        first | (have gsw2w1 : w1.heap.size < w2.heap.size := by omega) | skip
        go_wp2_with fail
        go_ret
        refine ⟨rfl, ?_⟩
        repeat (first | exact Below.refl _ _ | exact HBw2.out | refine Below.setCell ?_ (by first | (simp; done) | omega | (simp; omega)) _ | refine Below.alloc ?_ (by first | (simp; done) | omega | (simp; omega)) _ | refine bel_drew ?_)

set_option maxHeartbeats 400000 in
theorem l03AngleP_any (a : Int) (w : World) :
    Calls Tryd.prog 21 #[.int .i64 a] w fun e w' => e = .returned (.bool (inR 0 359999 [a])) ∧ w = w' := by
  go_enter Tryd.func21, Tryd.ntmps21
  go_wp2_with fail
  refine (l00In_any _ _ _ _).mono ?_
  rintro e w' ⟨rfl, rfl⟩
  go_wp2_with fail
  go_ret
  exact ⟨rfl, rfl⟩
set_option maxHeartbeats 1000000 in
theorem l07One_at (g o : Nat) (s : ByteArray) (a b c : Int) (w : World) (c0 : w.cell? ⟨g, o, none⟩ = some (.string s)) (c1 : w.cell? ⟨g, o + 1, none⟩ = some (.int .i64 a)) (c2 : w.cell? ⟨g, o + 2, none⟩ = some (.int .i64 b)) (c3 : w.cell? ⟨g, o + 3, none⟩ = some (.int .i64 c)) :
    Calls Tryd.prog 13 #[.pointer (some ⟨g, o, none⟩)] w fun e w' => e = .returned (.bool (planetB s a b c)) ∧ w = w' := by
  unfold planetB
  have I1 := Lib.hid (fun w => l01Name_any s w)
  have I2 := Lib.hid (fun w => l00In_any a 1000 100000000 w)
  have I3 := Lib.hid (fun w => l00In_any b 1 50000 w)
  have I4 := Lib.hid (fun w => l03AngleP_any c w)
  generalize nameB s.data.toList = p1 at *
  generalize inR 1000 100000000 [a] = p2 at *
  generalize inR 1 50000 [b] = p3 at *
  generalize inR 0 359999 [c] = p4 at *
  cases p1 with
  | false =>
    rw [Bool.false_and]
    go_enter Tryd.func13, Tryd.ntmps13
    go_wp2_with fail
    refine (I1.out _).mono ?_
    rintro e w' ⟨rfl, rfl⟩
    go_wp2_with fail
    go_ret
    exact ⟨rfl, rfl⟩
  | true =>
    rw [Bool.true_and]
    cases p2 with
    | false =>
      rw [Bool.false_and]
      go_enter Tryd.func13, Tryd.ntmps13
      go_wp2_with fail
      refine (I1.out _).mono ?_
      rintro e w' ⟨rfl, rfl⟩
      go_wp2_with fail
      refine (I2.out _).mono ?_
      rintro e w' ⟨rfl, rfl⟩
      go_wp2_with fail
      go_ret
      exact ⟨rfl, rfl⟩
    | true =>
      rw [Bool.true_and]
      cases p3 with
      | false =>
        rw [Bool.false_and]
        go_enter Tryd.func13, Tryd.ntmps13
        go_wp2_with fail
        refine (I1.out _).mono ?_
        rintro e w' ⟨rfl, rfl⟩
        go_wp2_with fail
        refine (I2.out _).mono ?_
        rintro e w' ⟨rfl, rfl⟩
        go_wp2_with fail
        refine (I3.out _).mono ?_
        rintro e w' ⟨rfl, rfl⟩
        go_wp2_with fail
        go_ret
        exact ⟨rfl, rfl⟩
      | true =>
        rw [Bool.true_and]
        go_enter Tryd.func13, Tryd.ntmps13
        go_wp2_with fail
        refine (I1.out _).mono ?_
        rintro e w' ⟨rfl, rfl⟩
        go_wp2_with fail
        refine (I2.out _).mono ?_
        rintro e w' ⟨rfl, rfl⟩
        go_wp2_with fail
        refine (I3.out _).mono ?_
        rintro e w' ⟨rfl, rfl⟩
        go_wp2_with fail
        refine (I4.out _).mono ?_
        rintro e w' ⟨rfl, rfl⟩
        go_wp2_with fail
        go_ret
        exact ⟨rfl, rfl⟩
end Go.Proofs.YtkfhjmkodcahpaaDoor
