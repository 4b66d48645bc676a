/-
  The vector of a direction: the contract of the method towards (package impl).
-/
import Derived.Test.YtjghopepgfgebaaGreatDoorDir
import Derived.Test.YtjghopepgfgebaaGreatDoorArg0
import Derived.Handy
import Derived.Deep.Cut
namespace Go.Proofs.YtjghopepgfgebaaGreatDoor
open Go.RowKit
set_option linter.unusedVariables false

/-- The vector that leads to a direction. -/
def dirT (lon lat : Int) : Int × Int × Int := if inR (-90000) 90000 [lat] = true then (nearQ (cosI lat * cosI lon) 1000000, nearQ (cosI lat * sinI lon) 1000000, sinI lat) else (0, 0, 0)
theorem dirT_eq (lon lat : Int) : ∃ d : Int, dirV lon lat = .tuple #[.agg #[.int .i64 ((dirT lon lat).1), .int .i64 ((dirT lon lat).2.1), .int .i64 ((dirT lon lat).2.2)], .int .i64 d] := by
  unfold dirV dirT
  split
  · exact ⟨_, rfl⟩
  · exact ⟨_, rfl⟩
theorem set3N {W : World} {g : Nat} {p q r x y z : Value} (h0 : W.cell? ⟨g, 0, none⟩ = some p) (h1 : W.cell? ⟨g, 1, none⟩ = some q) (h2 : W.cell? ⟨g, 2, none⟩ = some r) :
    (((W.setCell ⟨g, 0, none⟩ x).setCell ⟨g, 1, none⟩ y).setCell ⟨g, 2, none⟩ z).cell? ⟨g, 0, none⟩ = some x ∧ (((W.setCell ⟨g, 0, none⟩ x).setCell ⟨g, 1, none⟩ y).setCell ⟨g, 2, none⟩ z).cell? ⟨g, 1, none⟩ = some y ∧ (((W.setCell ⟨g, 0, none⟩ x).setCell ⟨g, 1, none⟩ y).setCell ⟨g, 2, none⟩ z).cell? ⟨g, 2, none⟩ = some z := by
  have k1 : (W.setCell ⟨g, 0, none⟩ x).cell? ⟨g, 1, none⟩ = some q := by rw [World.cell?_setCell_other (h := by simp)]; exact h1
  have k2 : ((W.setCell ⟨g, 0, none⟩ x).setCell ⟨g, 1, none⟩ y).cell? ⟨g, 2, none⟩ = some r := by rw [World.cell?_setCell_other (h := by simp), World.cell?_setCell_other (h := by simp)]; exact h2
  refine ⟨?_, ?_, ?_⟩
  · rw [World.cell?_setCell_other (h := by simp), World.cell?_setCell_other (h := by simp), World.cell?_setCell_same (h := h0)]
  · rw [World.cell?_setCell_other (h := by simp), World.cell?_setCell_same (h := k1)]
  · rw [World.cell?_setCell_same (h := k2)]

set_option maxRecDepth 100000 in
set_option maxHeartbeats 1000000 in
theorem dirTow_any (a b : Int) (fa : fits a) (w : World) (hs : SinesOK w) :
    Calls Tryz.prog 82 #[.agg #[.int .i64 a, .int .i64 b]] w fun e w' => e = .returned (.agg #[.int .i64 ((dirT a b).1), .int .i64 ((dirT a b).2.1), .int .i64 ((dirT a b).2.2)]) ∧ Below w.heap.size w w' := by
  obtain ⟨d, hd⟩ := dirT_eq a b
  have F := Lib.hid (fun w hs => implDir_any a b fa.1 fa.2 w hs)
  rw [hd] at F
  clear hd
  have E := Lib.hid hs
  clear hs fa
  generalize (dirT a b).1 = x at *
  generalize (dirT a b).2.1 = y at *
  generalize (dirT a b).2.2 = z at *
  go_enter Tryz.func82, Tryz.ntmps82
  go_wp2_with fail
  refine (F.out _ (E.out.below (((Below.refl _ w).alloc (Nat.le_refl _) _).alloc (by simp) _))).mono ?_
  rintro e w1 ⟨rfl, hb⟩
  have hB1 : Below w.heap.size w w1 := (((Below.refl _ w).alloc (Nat.le_refl _) _).alloc (by simp) _).trans (hb.mono (by first | (simp; done) | (simp; omega)))
  have hs1 := hb.size
  simp at hs1
  have q0 : w1.cell? ⟨w.heap.size + 1, 0, none⟩ = some (.int .i64 0) := (hb.cell (p := ⟨w.heap.size + 1, 0, none⟩) (by simp)).trans (by simp)
  have q1 : w1.cell? ⟨w.heap.size + 1, 1, none⟩ = some (.int .i64 0) := (hb.cell (p := ⟨w.heap.size + 1, 1, none⟩) (by simp)).trans (by simp)
  have q2 : w1.cell? ⟨w.heap.size + 1, 2, none⟩ = some (.int .i64 0) := (hb.cell (p := ⟨w.heap.size + 1, 2, none⟩) (by simp)).trans (by simp)
  have p0 : w1.frozen? ⟨w.heap.size + 1, 0, none⟩ = false := (hb.frozen (p := ⟨w.heap.size + 1, 0, none⟩) (by simp)).trans (by simp)
  have p1 : w1.frozen? ⟨w.heap.size + 1, 1, none⟩ = false := (hb.frozen (p := ⟨w.heap.size + 1, 1, none⟩) (by simp)).trans (by simp)
  have p2 : w1.frozen? ⟨w.heap.size + 1, 2, none⟩ = false := (hb.frozen (p := ⟨w.heap.size + 1, 2, none⟩) (by simp)).trans (by simp)
  obtain ⟨W2, hW2⟩ : ∃ W2, W2 = w1.alloc (.cells #[.int .i64 x, .int .i64 y, .int .i64 z] 71) := ⟨_, rfl⟩
  have hb2 : Below w1.heap.size w1 W2 := by rw [hW2]; exact (Below.refl _ w1).alloc (Nat.le_refl _) _
  have c0 : W2.cell? ⟨w1.heap.size, 0, none⟩ = some (.int .i64 x) := by rw [hW2]; simp
  have c1 : W2.cell? ⟨w1.heap.size, 1, none⟩ = some (.int .i64 y) := by rw [hW2]; simp
  have c2 : W2.cell? ⟨w1.heap.size, 2, none⟩ = some (.int .i64 z) := by rw [hW2]; simp
  have hl : w.heap.size + 1 < w1.heap.size := by omega
  have Q0 := (hb2.cell (p := ⟨w.heap.size + 1, 0, none⟩) hl).trans q0
  have Q1 := (hb2.cell (p := ⟨w.heap.size + 1, 1, none⟩) hl).trans q1
  have Q2 := (hb2.cell (p := ⟨w.heap.size + 1, 2, none⟩) hl).trans q2
  have P0 := (hb2.frozen (p := ⟨w.heap.size + 1, 0, none⟩) hl).trans p0
  have P1 := (hb2.frozen (p := ⟨w.heap.size + 1, 1, none⟩) hl).trans p1
  have P2 := (hb2.frozen (p := ⟨w.heap.size + 1, 2, none⟩) hl).trans p2
  have HB2 := Lib.hid (hB1.trans (hb2.mono hB1.size))
  have HW := Lib.hid hW2
  clear hW2 hb hb2 hB1 q0 q1 q2 p0 p1 p2
  go_upto_region 2 with fail
  rw [← HW.out]
  clear HW
  obtain ⟨r0, r1, r2⟩ := set3N (x := .int .i64 x) (y := .int .i64 y) (z := .int .i64 z) Q0 Q1 Q2
  go_wp2_with fail
  exact bodyPost_ret (v := .agg #[.int .i64 x, .int .i64 y, .int .i64 z]) (by simp [results, Tryz.results82, go_sem, r0, r1, r2]) rfl ⟨rfl, ((HB2.out.setCell (by simp) _).setCell (by simp) _).setCell (by simp) _⟩
end Go.Proofs.YtjghopepgfgebaaGreatDoor
