/-
  The day on which two planets are nearest: the contracts of anglesAt, both (for views), NearestDay (package impl).
-/
import Derived.Test.YtmdjogjcdjaafaaDoorPlan9
namespace Go.Proofs.YtmdjogjcdjaafaaDoor
open Go.RowKit
set_option linter.unusedVariables false

set_option maxHeartbeats 1000000 in
theorem anglesAt_any (d m : Int) (w : World) :
    Calls Tryd.prog 57 #[.agg #[.int .i64 d, .int .i64 m]] w fun e w' => ∃ g : Nat, e = .returned (.func (.func 76) #[] #[.pointer (some ⟨g, 0, none⟩)]) ∧ Mo w' g d m ∧ Below w.heap.size w w' := by
  go_enter Tryd.func57, Tryd.ntmps57
  go_wp2_with fail
  refine bodyPost_ret (v := .func (.func 76) #[] #[.pointer (some ⟨w.heap.size, 0, none⟩)]) (by first | (simp [results, Tryd.results57, go_sem]; done)) rfl ⟨w.heap.size, rfl, Mo.new _ _ _ _, (Below.refl _ _).alloc (Nat.le_refl _) _⟩

set_option maxHeartbeats 1000000 in
theorem anglesIn_any (g : Nat) (s : ByteArray) (a b c : Int) (t : ByteArray) (x y z d m : Int) (hmax : s.size ≤ maxLen) (tmax : t.size ≤ maxLen) (w : World) (hs : SinesOK w) (hm : Mo w g d m) :
    Calls Tryd.prog 76 #[.agg #[.string s, .int .i64 a, .int .i64 b, .int .i64 c, .string t, .int .i64 x, .int .i64 y, .int .i64 z], .pointer (some ⟨g, 0, none⟩)] w fun e w' => e = .returned (.tuple #[.int .i64 (seeR s a b c t x y z d m), .int .i64 (askP s a b c t x y z d m)]) ∧ Below w.heap.size w w' := by
  have A := fun w hs => viewAngle_any s a b c t x y z d m hmax tmax w hs
  simp only [seeV_eq] at A
  have AA := Lib.hid A
  have E := Lib.hid hs
  obtain ⟨m0, m1⟩ := hm
  clear hs hmax tmax A
  generalize seeR s a b c t x y z d m = R at *
  generalize askP s a b c t x y z d m = K at *
  have lg := World.block_lt_of_cell? w ⟨g, 0, none⟩ m0
  go_enter Tryd.func76, Tryd.ntmps76
  go_wp2_with fail
  refine (AA.out _ (E.out.below (by first | exact Below.refl _ _ | exact (Below.refl _ _).alloc (Nat.le_refl _) _))).mono ?_
  rintro e w1 ⟨rfl, hb⟩
  have HB : Hid (Below w.heap.size w w1) := Lib.hid (((Below.refl _ _).alloc (Nat.le_refl _) _).trans (hb.mono (by simp)))
  clear hb
  go_wp2_with fail
  refine bodyPost_ret (v := .tuple #[.int .i64 R, .int .i64 K]) (by first | (simp [results, Tryd.results76, go_sem]; done) | (simp [results, Tryd.results76, go_sem, *]; done)) rfl ⟨rfl, ?_⟩
  repeat (first | exact Below.refl _ _ | exact HB.out | refine Below.setCell ?_ (by first | (simp; done) | omega | (simp; omega)) _ | refine Below.alloc ?_ (by first | (simp; done) | omega | (simp; omega)) _ | refine bel_drew ?_)

set_option maxRecDepth 100000 in
set_option maxHeartbeats 2000000 in
theorem bothW_any (g : Nat) (s : ByteArray) (a b c : Int) (t : ByteArray) (x y z : Int) (u : ByteArray) (i j l : Int) (r1 c1 r2 c2 : Int) (w : World) (h1 : ∀ W, Below w.heap.size w W → Calls Tryd.prog 76 #[.agg #[.string s, .int .i64 a, .int .i64 b, .int .i64 c, .string u, .int .i64 i, .int .i64 j, .int .i64 l], .pointer (some ⟨g, 0, none⟩)] W fun e w' => e = .returned (.tuple #[.int .i64 r1, .int .i64 c1]) ∧ Below W.heap.size W w') (h2 : ∀ W, Below w.heap.size w W → Calls Tryd.prog 76 #[.agg #[.string t, .int .i64 x, .int .i64 y, .int .i64 z, .string u, .int .i64 i, .int .i64 j, .int .i64 l], .pointer (some ⟨g, 0, none⟩)] W fun e w' => e = .returned (.tuple #[.int .i64 r2, .int .i64 c2]) ∧ Below W.heap.size W w') :
    Calls Tryd.prog 56 #[.agg #[.string s, .int .i64 a, .int .i64 b, .int .i64 c, .string u, .int .i64 i, .int .i64 j, .int .i64 l, .string t, .int .i64 x, .int .i64 y, .int .i64 z, .string u, .int .i64 i, .int .i64 j, .int .i64 l], .func (.func 76) #[] #[.pointer (some ⟨g, 0, none⟩)]] w fun e w' => e = .returned (bothV r1 c1 r2 c2) ∧ Below w.heap.size w w' := by
  unfold bothV
  have H1 := Lib.hid h1
  have H2 := Lib.hid h2
  clear h1 h2
  by_cases e1 : c1 = 0
  · rw [if_pos e1]
    subst e1
    by_cases e2 : c2 = 0
    · rw [if_pos e2]
      subst e2
      obtain ⟨W0, hW0⟩ : ∃ W0, W0 = (w.alloc (.cells #[.string s, .int .i64 a, .int .i64 b, .int .i64 c, .string u, .int .i64 i, .int .i64 j, .int .i64 l, .string t, .int .i64 x, .int .i64 y, .int .i64 z, .string u, .int .i64 i, .int .i64 j, .int .i64 l] 71)).alloc (.cells #[.int .i64 0, .int .i64 0] 60) := ⟨_, rfl⟩
      have HB0 : Hid (Below w.heap.size w W0) := Lib.hid (by rw [hW0]; exact ((Below.refl _ _).alloc (Nat.le_refl _) _).alloc (by first | (simp; done) | (simp; omega)) _)
      have K0 : Hid (W0.cell? ⟨w.heap.size, 0, none⟩ = some (.string s) ∧ W0.cell? ⟨w.heap.size, 1, none⟩ = some (.int .i64 a) ∧ W0.cell? ⟨w.heap.size, 2, none⟩ = some (.int .i64 b) ∧ W0.cell? ⟨w.heap.size, 3, none⟩ = some (.int .i64 c) ∧ W0.cell? ⟨w.heap.size, 4, none⟩ = some (.string u) ∧ W0.cell? ⟨w.heap.size, 5, none⟩ = some (.int .i64 i) ∧ W0.cell? ⟨w.heap.size, 6, none⟩ = some (.int .i64 j) ∧ W0.cell? ⟨w.heap.size, 7, none⟩ = some (.int .i64 l) ∧ W0.cell? ⟨w.heap.size, 8, none⟩ = some (.string t) ∧ W0.cell? ⟨w.heap.size, 9, none⟩ = some (.int .i64 x) ∧ W0.cell? ⟨w.heap.size, 10, none⟩ = some (.int .i64 y) ∧ W0.cell? ⟨w.heap.size, 11, none⟩ = some (.int .i64 z) ∧ W0.cell? ⟨w.heap.size, 12, none⟩ = some (.string u) ∧ W0.cell? ⟨w.heap.size, 13, none⟩ = some (.int .i64 i) ∧ W0.cell? ⟨w.heap.size, 14, none⟩ = some (.int .i64 j) ∧ W0.cell? ⟨w.heap.size, 15, none⟩ = some (.int .i64 l)) := Lib.hid (by rw [hW0]; exact ⟨by rw [World.cell?_alloc_lt _ _ _ (by first | (simp; done) | (simp; omega))]; simp, by rw [World.cell?_alloc_lt _ _ _ (by first | (simp; done) | (simp; omega))]; simp, by rw [World.cell?_alloc_lt _ _ _ (by first | (simp; done) | (simp; omega))]; simp, by rw [World.cell?_alloc_lt _ _ _ (by first | (simp; done) | (simp; omega))]; simp, by rw [World.cell?_alloc_lt _ _ _ (by first | (simp; done) | (simp; omega))]; simp, by rw [World.cell?_alloc_lt _ _ _ (by first | (simp; done) | (simp; omega))]; simp, by rw [World.cell?_alloc_lt _ _ _ (by first | (simp; done) | (simp; omega))]; simp, by rw [World.cell?_alloc_lt _ _ _ (by first | (simp; done) | (simp; omega))]; simp, by rw [World.cell?_alloc_lt _ _ _ (by first | (simp; done) | (simp; omega))]; simp, by rw [World.cell?_alloc_lt _ _ _ (by first | (simp; done) | (simp; omega))]; simp, by rw [World.cell?_alloc_lt _ _ _ (by first | (simp; done) | (simp; omega))]; simp, by rw [World.cell?_alloc_lt _ _ _ (by first | (simp; done) | (simp; omega))]; simp, by rw [World.cell?_alloc_lt _ _ _ (by first | (simp; done) | (simp; omega))]; simp, by rw [World.cell?_alloc_lt _ _ _ (by first | (simp; done) | (simp; omega))]; simp, by rw [World.cell?_alloc_lt _ _ _ (by first | (simp; done) | (simp; omega))]; simp, by rw [World.cell?_alloc_lt _ _ _ (by first | (simp; done) | (simp; omega))]; simp⟩)
      have R0 : Hid (C2 W0 (w.heap.size + 1) 0 0) := Lib.hid (by rw [hW0]; simpa using C2.new (w.alloc (.cells #[.string s, .int .i64 a, .int .i64 b, .int .i64 c, .string u, .int .i64 i, .int .i64 j, .int .i64 l, .string t, .int .i64 x, .int .i64 y, .int .i64 z, .string u, .int .i64 i, .int .i64 j, .int .i64 l] 71)) 60 0 0)
      have HW := Lib.hid hW0
      clear hW0
      go_enter Tryd.func56, Tryd.ntmps56
      obtain ⟨k0, k1, k2, k3, k4, k5, k6, k7, k8, k9, k10, k11, k12, k13, k14, k15⟩ := K0.out
      go_wp2_with fail
      rw [← HW.out]
      clear HW
      refine (H1.out _ HB0.out).mono ?_
      rintro e w1 ⟨rfl, hb⟩
      have lw := World.block_lt_of_cell? W0 ⟨w.heap.size, 0, none⟩ k0
      have HB1 := Lib.hid (HB0.out.trans (hb.mono HB0.out.size))
      have R1 := Lib.hid (R0.out.go hb)
      have K1 : Hid (w1.cell? ⟨w.heap.size, 0, none⟩ = some (.string s) ∧ w1.cell? ⟨w.heap.size, 1, none⟩ = some (.int .i64 a) ∧ w1.cell? ⟨w.heap.size, 2, none⟩ = some (.int .i64 b) ∧ w1.cell? ⟨w.heap.size, 3, none⟩ = some (.int .i64 c) ∧ w1.cell? ⟨w.heap.size, 4, none⟩ = some (.string u) ∧ w1.cell? ⟨w.heap.size, 5, none⟩ = some (.int .i64 i) ∧ w1.cell? ⟨w.heap.size, 6, none⟩ = some (.int .i64 j) ∧ w1.cell? ⟨w.heap.size, 7, none⟩ = some (.int .i64 l) ∧ w1.cell? ⟨w.heap.size, 8, none⟩ = some (.string t) ∧ w1.cell? ⟨w.heap.size, 9, none⟩ = some (.int .i64 x) ∧ w1.cell? ⟨w.heap.size, 10, none⟩ = some (.int .i64 y) ∧ w1.cell? ⟨w.heap.size, 11, none⟩ = some (.int .i64 z) ∧ w1.cell? ⟨w.heap.size, 12, none⟩ = some (.string u) ∧ w1.cell? ⟨w.heap.size, 13, none⟩ = some (.int .i64 i) ∧ w1.cell? ⟨w.heap.size, 14, none⟩ = some (.int .i64 j) ∧ w1.cell? ⟨w.heap.size, 15, none⟩ = some (.int .i64 l)) := Lib.hid ⟨((bcell hb).1 _ _ lw).trans k0, ((bcell hb).1 _ _ lw).trans k1, ((bcell hb).1 _ _ lw).trans k2, ((bcell hb).1 _ _ lw).trans k3, ((bcell hb).1 _ _ lw).trans k4, ((bcell hb).1 _ _ lw).trans k5, ((bcell hb).1 _ _ lw).trans k6, ((bcell hb).1 _ _ lw).trans k7, ((bcell hb).1 _ _ lw).trans k8, ((bcell hb).1 _ _ lw).trans k9, ((bcell hb).1 _ _ lw).trans k10, ((bcell hb).1 _ _ lw).trans k11, ((bcell hb).1 _ _ lw).trans k12, ((bcell hb).1 _ _ lw).trans k13, ((bcell hb).1 _ _ lw).trans k14, ((bcell hb).1 _ _ lw).trans k15⟩
      clear hb lw k0 k1 k2 k3 k4 k5 k6 k7 k8 k9 k10 k11 k12 k13 k14 k15
      obtain ⟨k0, k1, k2, k3, k4, k5, k6, k7, k8, k9, k10, k11, k12, k13, k14, k15⟩ := K1.out
      go_wp2_with fail
      refine (H2.out _ HB1.out).mono ?_
      rintro e w2 ⟨rfl, hb⟩
      have HB2 := Lib.hid (HB1.out.trans (hb.mono HB1.out.size))
      have R2 := R1.out.go hb
      clear hb k0 k1 k2 k3 k4 k5 k6 k7 k8 k9 k10 k11 k12 k13 k14 k15
      obtain ⟨q0, q1, q2, q3⟩ := R2
      go_wp2_with fail
      refine bodyPost_ret (v := .tuple #[.agg #[.int .i64 r1, .int .i64 r2], .int .i64 0]) (by first | (simp [results, Tryd.results56, go_sem]; done) | (simp [results, Tryd.results56, go_sem, *]; done)) rfl ⟨rfl, ?_⟩
      repeat (first | exact Below.refl _ _ | exact HB2.out | refine Below.setCell ?_ (by first | (simp; done) | omega | (simp; omega)) _ | refine Below.alloc ?_ (by first | (simp; done) | omega | (simp; omega)) _ | refine bel_drew ?_)
    · rw [if_neg e2]
      have e2' : (c2 == 0) = false := by simpa using e2
      obtain ⟨W0, hW0⟩ : ∃ W0, W0 = (w.alloc (.cells #[.string s, .int .i64 a, .int .i64 b, .int .i64 c, .string u, .int .i64 i, .int .i64 j, .int .i64 l, .string t, .int .i64 x, .int .i64 y, .int .i64 z, .string u, .int .i64 i, .int .i64 j, .int .i64 l] 71)).alloc (.cells #[.int .i64 0, .int .i64 0] 60) := ⟨_, rfl⟩
      have HB0 : Hid (Below w.heap.size w W0) := Lib.hid (by rw [hW0]; exact ((Below.refl _ _).alloc (Nat.le_refl _) _).alloc (by first | (simp; done) | (simp; omega)) _)
      have K0 : Hid (W0.cell? ⟨w.heap.size, 0, none⟩ = some (.string s) ∧ W0.cell? ⟨w.heap.size, 1, none⟩ = some (.int .i64 a) ∧ W0.cell? ⟨w.heap.size, 2, none⟩ = some (.int .i64 b) ∧ W0.cell? ⟨w.heap.size, 3, none⟩ = some (.int .i64 c) ∧ W0.cell? ⟨w.heap.size, 4, none⟩ = some (.string u) ∧ W0.cell? ⟨w.heap.size, 5, none⟩ = some (.int .i64 i) ∧ W0.cell? ⟨w.heap.size, 6, none⟩ = some (.int .i64 j) ∧ W0.cell? ⟨w.heap.size, 7, none⟩ = some (.int .i64 l) ∧ W0.cell? ⟨w.heap.size, 8, none⟩ = some (.string t) ∧ W0.cell? ⟨w.heap.size, 9, none⟩ = some (.int .i64 x) ∧ W0.cell? ⟨w.heap.size, 10, none⟩ = some (.int .i64 y) ∧ W0.cell? ⟨w.heap.size, 11, none⟩ = some (.int .i64 z) ∧ W0.cell? ⟨w.heap.size, 12, none⟩ = some (.string u) ∧ W0.cell? ⟨w.heap.size, 13, none⟩ = some (.int .i64 i) ∧ W0.cell? ⟨w.heap.size, 14, none⟩ = some (.int .i64 j) ∧ W0.cell? ⟨w.heap.size, 15, none⟩ = some (.int .i64 l)) := Lib.hid (by rw [hW0]; exact ⟨by rw [World.cell?_alloc_lt _ _ _ (by first | (simp; done) | (simp; omega))]; simp, by rw [World.cell?_alloc_lt _ _ _ (by first | (simp; done) | (simp; omega))]; simp, by rw [World.cell?_alloc_lt _ _ _ (by first | (simp; done) | (simp; omega))]; simp, by rw [World.cell?_alloc_lt _ _ _ (by first | (simp; done) | (simp; omega))]; simp, by rw [World.cell?_alloc_lt _ _ _ (by first | (simp; done) | (simp; omega))]; simp, by rw [World.cell?_alloc_lt _ _ _ (by first | (simp; done) | (simp; omega))]; simp, by rw [World.cell?_alloc_lt _ _ _ (by first | (simp; done) | (simp; omega))]; simp, by rw [World.cell?_alloc_lt _ _ _ (by first | (simp; done) | (simp; omega))]; simp, by rw [World.cell?_alloc_lt _ _ _ (by first | (simp; done) | (simp; omega))]; simp, by rw [World.cell?_alloc_lt _ _ _ (by first | (simp; done) | (simp; omega))]; simp, by rw [World.cell?_alloc_lt _ _ _ (by first | (simp; done) | (simp; omega))]; simp, by rw [World.cell?_alloc_lt _ _ _ (by first | (simp; done) | (simp; omega))]; simp, by rw [World.cell?_alloc_lt _ _ _ (by first | (simp; done) | (simp; omega))]; simp, by rw [World.cell?_alloc_lt _ _ _ (by first | (simp; done) | (simp; omega))]; simp, by rw [World.cell?_alloc_lt _ _ _ (by first | (simp; done) | (simp; omega))]; simp, by rw [World.cell?_alloc_lt _ _ _ (by first | (simp; done) | (simp; omega))]; simp⟩)
      have R0 : Hid (C2 W0 (w.heap.size + 1) 0 0) := Lib.hid (by rw [hW0]; simpa using C2.new (w.alloc (.cells #[.string s, .int .i64 a, .int .i64 b, .int .i64 c, .string u, .int .i64 i, .int .i64 j, .int .i64 l, .string t, .int .i64 x, .int .i64 y, .int .i64 z, .string u, .int .i64 i, .int .i64 j, .int .i64 l] 71)) 60 0 0)
      have HW := Lib.hid hW0
      clear hW0
      go_enter Tryd.func56, Tryd.ntmps56
      obtain ⟨k0, k1, k2, k3, k4, k5, k6, k7, k8, k9, k10, k11, k12, k13, k14, k15⟩ := K0.out
      go_wp2_with fail
      rw [← HW.out]
      clear HW
      refine (H1.out _ HB0.out).mono ?_
      rintro e w1 ⟨rfl, hb⟩
      have lw := World.block_lt_of_cell? W0 ⟨w.heap.size, 0, none⟩ k0
      have HB1 := Lib.hid (HB0.out.trans (hb.mono HB0.out.size))
      have R1 := Lib.hid (R0.out.go hb)
      have K1 : Hid (w1.cell? ⟨w.heap.size, 0, none⟩ = some (.string s) ∧ w1.cell? ⟨w.heap.size, 1, none⟩ = some (.int .i64 a) ∧ w1.cell? ⟨w.heap.size, 2, none⟩ = some (.int .i64 b) ∧ w1.cell? ⟨w.heap.size, 3, none⟩ = some (.int .i64 c) ∧ w1.cell? ⟨w.heap.size, 4, none⟩ = some (.string u) ∧ w1.cell? ⟨w.heap.size, 5, none⟩ = some (.int .i64 i) ∧ w1.cell? ⟨w.heap.size, 6, none⟩ = some (.int .i64 j) ∧ w1.cell? ⟨w.heap.size, 7, none⟩ = some (.int .i64 l) ∧ w1.cell? ⟨w.heap.size, 8, none⟩ = some (.string t) ∧ w1.cell? ⟨w.heap.size, 9, none⟩ = some (.int .i64 x) ∧ w1.cell? ⟨w.heap.size, 10, none⟩ = some (.int .i64 y) ∧ w1.cell? ⟨w.heap.size, 11, none⟩ = some (.int .i64 z) ∧ w1.cell? ⟨w.heap.size, 12, none⟩ = some (.string u) ∧ w1.cell? ⟨w.heap.size, 13, none⟩ = some (.int .i64 i) ∧ w1.cell? ⟨w.heap.size, 14, none⟩ = some (.int .i64 j) ∧ w1.cell? ⟨w.heap.size, 15, none⟩ = some (.int .i64 l)) := Lib.hid ⟨((bcell hb).1 _ _ lw).trans k0, ((bcell hb).1 _ _ lw).trans k1, ((bcell hb).1 _ _ lw).trans k2, ((bcell hb).1 _ _ lw).trans k3, ((bcell hb).1 _ _ lw).trans k4, ((bcell hb).1 _ _ lw).trans k5, ((bcell hb).1 _ _ lw).trans k6, ((bcell hb).1 _ _ lw).trans k7, ((bcell hb).1 _ _ lw).trans k8, ((bcell hb).1 _ _ lw).trans k9, ((bcell hb).1 _ _ lw).trans k10, ((bcell hb).1 _ _ lw).trans k11, ((bcell hb).1 _ _ lw).trans k12, ((bcell hb).1 _ _ lw).trans k13, ((bcell hb).1 _ _ lw).trans k14, ((bcell hb).1 _ _ lw).trans k15⟩
      clear hb lw k0 k1 k2 k3 k4 k5 k6 k7 k8 k9 k10 k11 k12 k13 k14 k15
      obtain ⟨k0, k1, k2, k3, k4, k5, k6, k7, k8, k9, k10, k11, k12, k13, k14, k15⟩ := K1.out
      go_wp2_with fail
      refine (H2.out _ HB1.out).mono ?_
      rintro e w2 ⟨rfl, hb⟩
      have HB2 := Lib.hid (HB1.out.trans (hb.mono HB1.out.size))
      have R2 := R1.out.go hb
      clear hb k0 k1 k2 k3 k4 k5 k6 k7 k8 k9 k10 k11 k12 k13 k14 k15
      obtain ⟨q0, q1, q2, q3⟩ := R2
      go_wp2_with fail
      refine bodyPost_ret (v := .tuple #[.agg #[.int .i64 0, .int .i64 0], .int .i64 c2]) (by first | (simp [results, Tryd.results56, go_sem]; done) | (simp [results, Tryd.results56, go_sem, *]; done)) rfl ⟨rfl, ?_⟩
      repeat (first | exact Below.refl _ _ | exact HB2.out | refine Below.setCell ?_ (by first | (simp; done) | omega | (simp; omega)) _ | refine Below.alloc ?_ (by first | (simp; done) | omega | (simp; omega)) _ | refine bel_drew ?_)
  · rw [if_neg e1]
    have e1' : (c1 == 0) = false := by simpa using e1
    obtain ⟨W0, hW0⟩ : ∃ W0, W0 = (w.alloc (.cells #[.string s, .int .i64 a, .int .i64 b, .int .i64 c, .string u, .int .i64 i, .int .i64 j, .int .i64 l, .string t, .int .i64 x, .int .i64 y, .int .i64 z, .string u, .int .i64 i, .int .i64 j, .int .i64 l] 71)).alloc (.cells #[.int .i64 0, .int .i64 0] 60) := ⟨_, rfl⟩
    have HB0 : Hid (Below w.heap.size w W0) := Lib.hid (by rw [hW0]; exact ((Below.refl _ _).alloc (Nat.le_refl _) _).alloc (by first | (simp; done) | (simp; omega)) _)
    have K0 : Hid (W0.cell? ⟨w.heap.size, 0, none⟩ = some (.string s) ∧ W0.cell? ⟨w.heap.size, 1, none⟩ = some (.int .i64 a) ∧ W0.cell? ⟨w.heap.size, 2, none⟩ = some (.int .i64 b) ∧ W0.cell? ⟨w.heap.size, 3, none⟩ = some (.int .i64 c) ∧ W0.cell? ⟨w.heap.size, 4, none⟩ = some (.string u) ∧ W0.cell? ⟨w.heap.size, 5, none⟩ = some (.int .i64 i) ∧ W0.cell? ⟨w.heap.size, 6, none⟩ = some (.int .i64 j) ∧ W0.cell? ⟨w.heap.size, 7, none⟩ = some (.int .i64 l) ∧ W0.cell? ⟨w.heap.size, 8, none⟩ = some (.string t) ∧ W0.cell? ⟨w.heap.size, 9, none⟩ = some (.int .i64 x) ∧ W0.cell? ⟨w.heap.size, 10, none⟩ = some (.int .i64 y) ∧ W0.cell? ⟨w.heap.size, 11, none⟩ = some (.int .i64 z) ∧ W0.cell? ⟨w.heap.size, 12, none⟩ = some (.string u) ∧ W0.cell? ⟨w.heap.size, 13, none⟩ = some (.int .i64 i) ∧ W0.cell? ⟨w.heap.size, 14, none⟩ = some (.int .i64 j) ∧ W0.cell? ⟨w.heap.size, 15, none⟩ = some (.int .i64 l)) := Lib.hid (by rw [hW0]; exact ⟨by rw [World.cell?_alloc_lt _ _ _ (by first | (simp; done) | (simp; omega))]; simp, by rw [World.cell?_alloc_lt _ _ _ (by first | (simp; done) | (simp; omega))]; simp, by rw [World.cell?_alloc_lt _ _ _ (by first | (simp; done) | (simp; omega))]; simp, by rw [World.cell?_alloc_lt _ _ _ (by first | (simp; done) | (simp; omega))]; simp, by rw [World.cell?_alloc_lt _ _ _ (by first | (simp; done) | (simp; omega))]; simp, by rw [World.cell?_alloc_lt _ _ _ (by first | (simp; done) | (simp; omega))]; simp, by rw [World.cell?_alloc_lt _ _ _ (by first | (simp; done) | (simp; omega))]; simp, by rw [World.cell?_alloc_lt _ _ _ (by first | (simp; done) | (simp; omega))]; simp, by rw [World.cell?_alloc_lt _ _ _ (by first | (simp; done) | (simp; omega))]; simp, by rw [World.cell?_alloc_lt _ _ _ (by first | (simp; done) | (simp; omega))]; simp, by rw [World.cell?_alloc_lt _ _ _ (by first | (simp; done) | (simp; omega))]; simp, by rw [World.cell?_alloc_lt _ _ _ (by first | (simp; done) | (simp; omega))]; simp, by rw [World.cell?_alloc_lt _ _ _ (by first | (simp; done) | (simp; omega))]; simp, by rw [World.cell?_alloc_lt _ _ _ (by first | (simp; done) | (simp; omega))]; simp, by rw [World.cell?_alloc_lt _ _ _ (by first | (simp; done) | (simp; omega))]; simp, by rw [World.cell?_alloc_lt _ _ _ (by first | (simp; done) | (simp; omega))]; simp⟩)
    have R0 : Hid (C2 W0 (w.heap.size + 1) 0 0) := Lib.hid (by rw [hW0]; simpa using C2.new (w.alloc (.cells #[.string s, .int .i64 a, .int .i64 b, .int .i64 c, .string u, .int .i64 i, .int .i64 j, .int .i64 l, .string t, .int .i64 x, .int .i64 y, .int .i64 z, .string u, .int .i64 i, .int .i64 j, .int .i64 l] 71)) 60 0 0)
    have HW := Lib.hid hW0
    clear hW0
    go_enter Tryd.func56, Tryd.ntmps56
    obtain ⟨k0, k1, k2, k3, k4, k5, k6, k7, k8, k9, k10, k11, k12, k13, k14, k15⟩ := K0.out
    go_wp2_with fail
    rw [← HW.out]
    clear HW
    refine (H1.out _ HB0.out).mono ?_
    rintro e w1 ⟨rfl, hb⟩
    have lw := World.block_lt_of_cell? W0 ⟨w.heap.size, 0, none⟩ k0
    have HB1 := Lib.hid (HB0.out.trans (hb.mono HB0.out.size))
    have R1 := Lib.hid (R0.out.go hb)
    have K1 : Hid (w1.cell? ⟨w.heap.size, 0, none⟩ = some (.string s) ∧ w1.cell? ⟨w.heap.size, 1, none⟩ = some (.int .i64 a) ∧ w1.cell? ⟨w.heap.size, 2, none⟩ = some (.int .i64 b) ∧ w1.cell? ⟨w.heap.size, 3, none⟩ = some (.int .i64 c) ∧ w1.cell? ⟨w.heap.size, 4, none⟩ = some (.string u) ∧ w1.cell? ⟨w.heap.size, 5, none⟩ = some (.int .i64 i) ∧ w1.cell? ⟨w.heap.size, 6, none⟩ = some (.int .i64 j) ∧ w1.cell? ⟨w.heap.size, 7, none⟩ = some (.int .i64 l) ∧ w1.cell? ⟨w.heap.size, 8, none⟩ = some (.string t) ∧ w1.cell? ⟨w.heap.size, 9, none⟩ = some (.int .i64 x) ∧ w1.cell? ⟨w.heap.size, 10, none⟩ = some (.int .i64 y) ∧ w1.cell? ⟨w.heap.size, 11, none⟩ = some (.int .i64 z) ∧ w1.cell? ⟨w.heap.size, 12, none⟩ = some (.string u) ∧ w1.cell? ⟨w.heap.size, 13, none⟩ = some (.int .i64 i) ∧ w1.cell? ⟨w.heap.size, 14, none⟩ = some (.int .i64 j) ∧ w1.cell? ⟨w.heap.size, 15, none⟩ = some (.int .i64 l)) := Lib.hid ⟨((bcell hb).1 _ _ lw).trans k0, ((bcell hb).1 _ _ lw).trans k1, ((bcell hb).1 _ _ lw).trans k2, ((bcell hb).1 _ _ lw).trans k3, ((bcell hb).1 _ _ lw).trans k4, ((bcell hb).1 _ _ lw).trans k5, ((bcell hb).1 _ _ lw).trans k6, ((bcell hb).1 _ _ lw).trans k7, ((bcell hb).1 _ _ lw).trans k8, ((bcell hb).1 _ _ lw).trans k9, ((bcell hb).1 _ _ lw).trans k10, ((bcell hb).1 _ _ lw).trans k11, ((bcell hb).1 _ _ lw).trans k12, ((bcell hb).1 _ _ lw).trans k13, ((bcell hb).1 _ _ lw).trans k14, ((bcell hb).1 _ _ lw).trans k15⟩
    clear hb lw k0 k1 k2 k3 k4 k5 k6 k7 k8 k9 k10 k11 k12 k13 k14 k15
    obtain ⟨k0, k1, k2, k3, k4, k5, k6, k7, k8, k9, k10, k11, k12, k13, k14, k15⟩ := K1.out
    obtain ⟨q0, q1, q2, q3⟩ := R1.out
    go_wp2_with fail
    refine bodyPost_ret (v := .tuple #[.agg #[.int .i64 0, .int .i64 0], .int .i64 c1]) (by first | (simp [results, Tryd.results56, go_sem]; done) | (simp [results, Tryd.results56, go_sem, *]; done)) rfl ⟨rfl, ?_⟩
    repeat (first | exact Below.refl _ _ | exact HB1.out | refine Below.setCell ?_ (by first | (simp; done) | omega | (simp; omega)) _ | refine Below.alloc ?_ (by first | (simp; done) | omega | (simp; omega)) _ | refine bel_drew ?_)

end Go.Proofs.YtmdjogjcdjaafaaDoor
