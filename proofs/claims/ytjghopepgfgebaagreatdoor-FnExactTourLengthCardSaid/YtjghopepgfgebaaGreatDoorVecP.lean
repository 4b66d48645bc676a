/-
  Vectors of package impl: the contracts of components, vector, hasLength, products, quotients.
-/
import Derived.Test.YtjghopepgfgebaaGreatDoorVec
import Derived.Test.YtjghopepgfgebaaGreatDoorQ2
import Derived.Deep.LoopGhost
namespace Go.Proofs.YtjghopepgfgebaaGreatDoor
open Go.RowKit
set_option linter.unusedVariables false

set_option maxHeartbeats 400000 in
theorem comps_any (x y z : Int) (w : World) :
    Calls Tryz.prog 180 #[.agg #[.int .i64 x, .int .i64 y, .int .i64 z]] w fun e w' => e = .returned (.agg #[.int .i64 x, .int .i64 y, .int .i64 z]) ∧ Below w.heap.size w w' := by
  go_enter Tryz.func180, Tryz.ntmps180
  go_wp2_with fail
  refine bodyPost_ret (v := .agg #[.int .i64 x, .int .i64 y, .int .i64 z]) (by first | (simp [results, Tryz.results180, go_sem]; done) | (simp [results, Tryz.results180, go_sem]; done)) rfl ⟨rfl, ?_⟩
  repeat (first | exact Below.refl _ _ | refine Below.setCell ?_ (by first | (simp; done) | omega | (simp; omega)) _ | refine Below.alloc ?_ (by first | (simp; done) | omega | (simp; omega)) _ | refine bel_drew ?_)
set_option maxHeartbeats 400000 in
theorem vector_any (x y z : Int) (w : World) :
    Calls Tryz.prog 155 #[.agg #[.int .i64 x, .int .i64 y, .int .i64 z]] w fun e w' => e = .returned (.agg #[.int .i64 x, .int .i64 y, .int .i64 z]) ∧ Below w.heap.size w w' := by
  go_enter Tryz.func155, Tryz.ntmps155
  go_wp2_with fail
  refine bodyPost_ret (v := .agg #[.int .i64 x, .int .i64 y, .int .i64 z]) (by first | (simp [results, Tryz.results155, go_sem]; done) | (simp [results, Tryz.results155, go_sem]; done)) rfl ⟨rfl, ?_⟩
  repeat (first | exact Below.refl _ _ | refine Below.setCell ?_ (by first | (simp; done) | omega | (simp; omega)) _ | refine Below.alloc ?_ (by first | (simp; done) | omega | (simp; omega)) _ | refine bel_drew ?_)
theorem at0 (a b c : Int) (w : World) : (Instr.index 172 (.agg #[.int .i64 a, .int .i64 b, .int .i64 c]) (.int .i64 0)).run Tryz.prog w = .ok (.int .i64 a) w := by kernel_rfl
theorem at1 (a b c : Int) (w : World) : (Instr.index 172 (.agg #[.int .i64 a, .int .i64 b, .int .i64 c]) (.int .i64 1)).run Tryz.prog w = .ok (.int .i64 b) w := by kernel_rfl
theorem at2 (a b c : Int) (w : World) : (Instr.index 172 (.agg #[.int .i64 a, .int .i64 b, .int .i64 c]) (.int .i64 2)).run Tryz.prog w = .ok (.int .i64 c) w := by kernel_rfl
/-- The sum of the first k of three numbers. -/
def ps (a b c : Int) : Nat → Int
  | 0 => 0
  | 1 => a
  | 2 => a + b
  | _ => a + b + c
set_option maxHeartbeats 1000000 in
theorem products_any (x y z x' y' z' : Int) (w : World) (p0 : -1000000000000000 ≤ x * x') (p1 : x * x' ≤ 1000000000000000) (q0 : -1000000000000000 ≤ y * y') (q1 : y * y' ≤ 1000000000000000) (r0 : -1000000000000000 ≤ z * z') (r1 : z * z' ≤ 1000000000000000) :
    Calls Tryz.prog 167 #[.agg #[.int .i64 x, .int .i64 y, .int .i64 z], .agg #[.int .i64 x', .int .i64 y', .int .i64 z']] w fun e w' => e = .returned (.int .i64 (x * x' + y * y' + z * z')) ∧ Below w.heap.size w w' := by
  have C1 := Lib.hid (fun w => comps_any x y z w)
  have C2 := Lib.hid (fun w => comps_any x' y' z' w)
  have i0 := at0 x y z
  have i1 := at1 x y z
  have i2 := at2 x y z
  go_enter Tryz.func167, Tryz.ntmps167
  go_wp2_with fail
  refine (C2.out _).mono ?_
  rintro e w1 ⟨rfl, hb⟩
  have hsw1 := hb.size
  try simp at hsw1
  obtain ⟨hcw1, hfw1⟩ := bcell hb
  have HBw1 : Hid (Below w.heap.size w w1) := by
    apply Lib.hid
    refine Below.trans ?_ (hb.mono ?_)
    · repeat (first | exact Below.refl _ _ | refine Below.setCell ?_ (by first | (simp; done) | omega | (simp; omega)) _ | refine Below.alloc ?_ (by first | (simp; done) | omega | (simp; omega)) _)
    · first | (simp; done) | omega | (simp; omega)
  have hzw1 : w.heap.size + 1 < w1.heap.size := by have := hb.size; (try simp at this); omega
  have hyw1 : w.heap.size < w1.heap.size := by have := hb.size; (try simp at this); omega
  clear hb
  go_wp2_with fail
  refine (C1.out _).mono ?_
  rintro e w2 ⟨rfl, hb⟩
  have hsw2 := hb.size
  try simp at hsw2
  obtain ⟨hcw2, hfw2⟩ := bcell hb
  have HBw2 : Hid (Below w.heap.size w w2) := by
    apply Lib.hid
    refine Below.trans ?_ (hb.mono ?_)
    · repeat (first | exact Below.refl _ _ | exact HBw1.out | refine Below.setCell ?_ (by first | (simp; done) | omega | (simp; omega)) _ | refine Below.alloc ?_ (by first | (simp; done) | omega | (simp; omega)) _)
    · first | (simp; done) | omega | (simp; omega)
  have hzw2 : w.heap.size + 1 < w2.heap.size := by have := hb.size; (try simp at this); omega
  have hyw2 : w.heap.size < w2.heap.size := by have := hb.size; (try simp at this); omega
  clear hb
  go_wp2_with fail
  go_loop [5, 13] (fun s i => ∃ k : Nat, k ≤ 3 ∧ i = .int .i64 k ∧ s = .int .i64 (ps (x * x') (y * y') (z * z') k)) (fun _ i => 3 - (intOf i).toNat)
  case atStart => exact ⟨0, by omega, rfl, rfl⟩
  case round =>
    obtain ⟨k, hk, rfl, rfl⟩ := hrel
    rcases (by omega : k = 0 ∨ k = 1 ∨ k = 2 ∨ k = 3) with rfl | rfl | rfl | rfl
    · go_wp2_with fail
      go_round
      case rel => exact ⟨1, by omega, by go_num, by simp only [ps, Int.zero_add]; congr 1; exact IntWalk.wrap64_in _ (by omega)⟩
      case measure => simp [intOf]
    · go_wp2_with fail
      go_round
      case rel => exact ⟨2, by omega, by go_num, by simp only [ps, Int.zero_add]; congr 1; exact IntWalk.wrap64_in _ (by omega)⟩
      case measure => simp [intOf]
    · go_wp2_with fail
      go_round
      case rel => exact ⟨3, by omega, by go_num, by simp only [ps, Int.zero_add]; congr 1; exact IntWalk.wrap64_in _ (by omega)⟩
      case measure => simp [intOf]
    · go_wp2_with fail
      go_ret
      refine ⟨rfl, ?_⟩
      repeat (first | exact Below.refl _ _ | exact HBw2.out | refine Below.setCell ?_ (by first | (simp; done) | omega | (simp; omega)) _ | refine Below.alloc ?_ (by first | (simp; done) | omega | (simp; omega)) _ | refine bel_drew ?_)

/-- Three numbers that lie one behind the other and may be written. -/
structure C3 (w : World) (g : Nat) (a b c : Int) : Prop where
  c0 : w.cell? ⟨g, 0, none⟩ = some (.int .i64 a)
  c1 : w.cell? ⟨g, 1, none⟩ = some (.int .i64 b)
  c2 : w.cell? ⟨g, 2, none⟩ = some (.int .i64 c)
  f0 : w.frozen? ⟨g, 0, none⟩ = false
  f1 : w.frozen? ⟨g, 1, none⟩ = false
  f2 : w.frozen? ⟨g, 2, none⟩ = false
theorem C3.stays {w w' : World} {g : Nat} {a b c : Int} (h : C3 w g a b c) (hb : Below w.heap.size w w') (hg : g < w.heap.size) : C3 w' g a b c := by
  obtain ⟨k1, k2⟩ := bcell hb
  exact ⟨(k1 g 0 hg).trans h.c0, (k1 g 1 hg).trans h.c1, (k1 g 2 hg).trans h.c2, (k2 g 0 hg).trans h.f0, (k2 g 1 hg).trans h.f1, (k2 g 2 hg).trans h.f2⟩
theorem C3.set0 {w : World} {g : Nat} {a b c : Int} (h : C3 w g a b c) (p : Int) : C3 (w.setCell ⟨g, 0, none⟩ (.int .i64 p)) g p b c :=
  ⟨by rw [World.cell?_setCell_same (h := h.c0)], by rw [World.cell?_setCell_other (h := by simp)]; exact h.c1, by rw [World.cell?_setCell_other (h := by simp)]; exact h.c2, by simp [h.f0], by simp [h.f1], by simp [h.f2]⟩
theorem C3.set1 {w : World} {g : Nat} {a b c : Int} (h : C3 w g a b c) (p : Int) : C3 (w.setCell ⟨g, 1, none⟩ (.int .i64 p)) g a p c :=
  ⟨by rw [World.cell?_setCell_other (h := by simp)]; exact h.c0, by rw [World.cell?_setCell_same (h := h.c1)], by rw [World.cell?_setCell_other (h := by simp)]; exact h.c2, by simp [h.f0], by simp [h.f1], by simp [h.f2]⟩
theorem C3.set2 {w : World} {g : Nat} {a b c : Int} (h : C3 w g a b c) (p : Int) : C3 (w.setCell ⟨g, 2, none⟩ (.int .i64 p)) g a b p :=
  ⟨by rw [World.cell?_setCell_other (h := by simp)]; exact h.c0, by rw [World.cell?_setCell_other (h := by simp)]; exact h.c1, by rw [World.cell?_setCell_same (h := h.c2)], by simp [h.f0], by simp [h.f1], by simp [h.f2]⟩
theorem C3.other {w : World} {g g' o : Nat} {v : Value} {a b c : Int} (h : C3 w g a b c) (hg : g' ≠ g) : C3 (w.setCell ⟨g', o, none⟩ v) g a b c :=
  ⟨by rw [World.cell?_setCell_other (h := by simp [hg])]; exact h.c0, by rw [World.cell?_setCell_other (h := by simp [hg])]; exact h.c1, by rw [World.cell?_setCell_other (h := by simp [hg])]; exact h.c2, by simp [h.f0], by simp [h.f1], by simp [h.f2]⟩
set_option maxHeartbeats 1000000 in
theorem quotients_any (x y z d : Int) (w : World) (x0 : -1000000000000000 ≤ x) (x1 : x ≤ 1000000000000000) (y0 : -1000000000000000 ≤ y) (y1 : y ≤ 1000000000000000) (z0 : -1000000000000000 ≤ z) (z1 : z ≤ 1000000000000000) (d0 : -1000000000000000 ≤ d) (d1 : d ≤ 1000000000000000) :
    Calls Tryz.prog 154 #[.agg #[.int .i64 x, .int .i64 y, .int .i64 z], .int .i64 d] w fun e w' => e = .returned (.agg #[.int .i64 (nearQ x d), .int .i64 (nearQ y d), .int .i64 (nearQ z d)]) ∧ Below w.heap.size w w' := by
  have N0 := Lib.hid (fun w => nearest_any x d w (by omega) (by omega) (by omega) (by omega))
  have N1 := Lib.hid (fun w => nearest_any y d w (by omega) (by omega) (by omega) (by omega))
  have N2 := Lib.hid (fun w => nearest_any z d w (by omega) (by omega) (by omega) (by omega))
  generalize nearQ x d = p at *
  generalize nearQ y d = q at *
  generalize nearQ z d = r at *
  have i0 := at0 x y z
  have i1 := at1 x y z
  have i2 := at2 x y z
  go_enter Tryz.func154, Tryz.ntmps154
  go_wp2_with fail
  go_loopg [8] 3 (fun kx s8 wr => ∃ (k : Nat) (a b c : Int), k ≤ 3 ∧ kx = 3 - k ∧ s8 = .int .i64 k ∧ a = (if 0 < k then p else x) ∧ b = (if 1 < k then q else y) ∧ c = (if 2 < k then r else z) ∧ Hid (C3 wr w.heap.size a b c) ∧ Hid (C3 wr (w.heap.size + 1) 0 0 0) ∧ w.heap.size + 1 < wr.heap.size ∧ Hid (Below w.heap.size w wr))
  case atStart =>
    refine ⟨0, x, y, z, by omega, rfl, rfl, rfl, rfl, rfl, Lib.hid ⟨by simp, by simp, by simp, by simp, by simp, by simp⟩, Lib.hid ⟨by simp, by simp, by simp, by simp, by simp, by simp⟩, by simp, Lib.hid ?_⟩
    repeat (first | exact Below.refl _ _ | refine Below.setCell ?_ (by first | (simp; done) | omega | (simp; omega)) _ | refine Below.alloc ?_ (by first | (simp; done) | omega | (simp; omega)) _ | refine bel_drew ?_)
  case round =>
    obtain ⟨k, a, b, c, hk, rfl, rfl, ha, hb, hc, A, Z, hsz, B⟩ := hrel
    rcases (by omega : k = 0 ∨ k = 1 ∨ k = 2 ∨ k = 3) with rfl | rfl | rfl | rfl
    · have ea : a = x := by simpa using ha
      have eb : b = y := by simpa using hb
      have ec : c = z := by simpa using hc
      rw [ea, eb, ec] at A
      clear ha hb hc ea eb ec
      go_wp2_with fail
      refine (N0.out _).mono ?_
      rintro e w1 ⟨rfl, hb⟩
      obtain ⟨c0, c1, c2, f0, f1, f2⟩ := A.out.stays hb (by omega)
      have Z1 := Lib.hid (Z.out.stays hb (by omega))
      have HB := Lib.hid (B.out.trans (hb.mono B.out.size))
      have hs1 : w.heap.size + 1 < w1.heap.size := by have := hb.size; omega
      clear hb
      go_wp2_with fail
      go_roundg (3 - 1)
      case measure => omega
      case rel =>
        exact ⟨1, p, y, z, by omega, rfl, by go_num, rfl, rfl, rfl, Lib.hid (C3.set0 ⟨c0, c1, c2, f0, f1, f2⟩ _), Lib.hid (C3.other Z1.out (by omega)), by simp; omega, Lib.hid (HB.out.setCell (by simp) _)⟩
    · have ea : a = p := by simpa using ha
      have eb : b = y := by simpa using hb
      have ec : c = z := by simpa using hc
      rw [ea, eb, ec] at A
      clear ha hb hc ea eb ec
      go_wp2_with fail
      refine (N1.out _).mono ?_
      rintro e w1 ⟨rfl, hb⟩
      obtain ⟨c0, c1, c2, f0, f1, f2⟩ := A.out.stays hb (by omega)
      have Z1 := Lib.hid (Z.out.stays hb (by omega))
      have HB := Lib.hid (B.out.trans (hb.mono B.out.size))
      have hs1 : w.heap.size + 1 < w1.heap.size := by have := hb.size; omega
      clear hb
      go_wp2_with fail
      go_roundg (3 - 2)
      case measure => omega
      case rel =>
        exact ⟨2, p, q, z, by omega, rfl, by go_num, rfl, rfl, rfl, Lib.hid (C3.set1 ⟨c0, c1, c2, f0, f1, f2⟩ _), Lib.hid (C3.other Z1.out (by omega)), by simp; omega, Lib.hid (HB.out.setCell (by simp) _)⟩
    · have ea : a = p := by simpa using ha
      have eb : b = q := by simpa using hb
      have ec : c = z := by simpa using hc
      rw [ea, eb, ec] at A
      clear ha hb hc ea eb ec
      go_wp2_with fail
      refine (N2.out _).mono ?_
      rintro e w1 ⟨rfl, hb⟩
      obtain ⟨c0, c1, c2, f0, f1, f2⟩ := A.out.stays hb (by omega)
      have Z1 := Lib.hid (Z.out.stays hb (by omega))
      have HB := Lib.hid (B.out.trans (hb.mono B.out.size))
      have hs1 : w.heap.size + 1 < w1.heap.size := by have := hb.size; omega
      clear hb
      go_wp2_with fail
      go_roundg (3 - 3)
      case measure => omega
      case rel =>
        exact ⟨3, p, q, r, by omega, rfl, by go_num, rfl, rfl, rfl, Lib.hid (C3.set2 ⟨c0, c1, c2, f0, f1, f2⟩ _), Lib.hid (C3.other Z1.out (by omega)), by simp; omega, Lib.hid (HB.out.setCell (by simp) _)⟩
    · obtain rfl : a = p := by simpa using ha
      obtain rfl : b = q := by simpa using hb
      obtain rfl : c = r := by simpa using hc
      clear ha hb hc
      obtain ⟨c0, c1, c2, f0, f1, f2⟩ := A.out
      obtain ⟨z0, z1, z2, g0, g1, g2⟩ := Z.out
      go_wp2_with fail
      refine bodyPost_ret (v := .agg #[.int .i64 a, .int .i64 b, .int .i64 c]) (by first | (simp [results, Tryz.results154, go_sem]; done) | (simp [results, Tryz.results154, go_sem, *]; done)) rfl ⟨rfl, ?_⟩
      repeat (first | exact Below.refl _ _ | exact B.out | refine Below.setCell ?_ (by first | (simp; done) | omega | (simp; omega)) _ | refine Below.alloc ?_ (by first | (simp; done) | omega | (simp; omega)) _ | refine bel_drew ?_)
end Go.Proofs.YtjghopepgfgebaaGreatDoor
