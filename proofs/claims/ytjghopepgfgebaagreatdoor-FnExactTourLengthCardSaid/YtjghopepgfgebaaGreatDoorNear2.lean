/-
  Distances of stars: the contracts of towards of a star and of distanceOf (package impl).
-/
import Derived.Test.YtjghopepgfgebaaGreatDoorNear1
import Derived.Test.YtjghopepgfgebaaGreatDoorSep
namespace Go.Proofs.YtjghopepgfgebaaGreatDoor
open Go.RowKit
set_option linter.unusedVariables false

theorem starTow_any (s : ByteArray) (a b c e : Int) (fa : fits a) (w : World) (hs : SinesOK w) :
    Calls Tryz.prog 204 #[.agg #[.string s, .int .i64 a, .int .i64 b, .int .i64 c, .int .i64 e]] w fun r w' => r = .returned (.agg #[.int .i64 ((dirT a b).1), .int .i64 ((dirT a b).2.1), .int .i64 ((dirT a b).2.2)]) ∧ Below w.heap.size w w' := by
  have D := Lib.hid (fun w => starDir_any s a b c e w)
  have T := Lib.hid (fun w hs => dirTow_any a b fa w hs)
  have E := Lib.hid hs
  clear hs fa
  generalize (dirT a b).1 = x at *
  generalize (dirT a b).2.1 = y at *
  generalize (dirT a b).2.2 = z at *
  go_enter Tryz.func204, Tryz.ntmps204
  go_wp2_with fail
  refine (D.out _).mono ?_
  rintro r w1 ⟨rfl, hb⟩
  have h1 : Below w.heap.size w w1 := (((Below.refl _ w).alloc (Nat.le_refl _) _).alloc (by simp) _).trans (hb.mono (by first | (simp; done) | (simp; omega)))
  have q0 : w1.cell? ⟨w.heap.size + 1, 0, none⟩ = some (.int .i64 0) := (hb.cell (p := ⟨w.heap.size + 1, 0, none⟩) (by simp)).trans (by simp)
  have q1 : w1.cell? ⟨w.heap.size + 1, 1, none⟩ = some (.int .i64 0) := (hb.cell (p := ⟨w.heap.size + 1, 1, none⟩) (by simp)).trans (by simp)
  have q2 : w1.cell? ⟨w.heap.size + 1, 2, none⟩ = some (.int .i64 0) := (hb.cell (p := ⟨w.heap.size + 1, 2, none⟩) (by simp)).trans (by simp)
  have p0 : w1.frozen? ⟨w.heap.size + 1, 0, none⟩ = false := (hb.frozen (p := ⟨w.heap.size + 1, 0, none⟩) (by simp)).trans (by simp)
  have p1 : w1.frozen? ⟨w.heap.size + 1, 1, none⟩ = false := (hb.frozen (p := ⟨w.heap.size + 1, 1, none⟩) (by simp)).trans (by simp)
  have p2 : w1.frozen? ⟨w.heap.size + 1, 2, none⟩ = false := (hb.frozen (p := ⟨w.heap.size + 1, 2, none⟩) (by simp)).trans (by simp)
  have hs1 : w.heap.size + 1 < w1.heap.size := by have := hb.size; simp at this; omega
  have H1 := Lib.hid h1
  clear hb h1 D
  go_wp2_with fail
  refine (T.out _ (E.out.below H1.out)).mono ?_
  rintro r w2 ⟨rfl, hb⟩
  have Q0 := (hb.cell (p := ⟨w.heap.size + 1, 0, none⟩) hs1).trans q0
  have Q1 := (hb.cell (p := ⟨w.heap.size + 1, 1, none⟩) hs1).trans q1
  have Q2 := (hb.cell (p := ⟨w.heap.size + 1, 2, none⟩) hs1).trans q2
  have P0 := (hb.frozen (p := ⟨w.heap.size + 1, 0, none⟩) hs1).trans p0
  have P1 := (hb.frozen (p := ⟨w.heap.size + 1, 1, none⟩) hs1).trans p1
  have P2 := (hb.frozen (p := ⟨w.heap.size + 1, 2, none⟩) hs1).trans p2
  have H2 := Lib.hid (H1.out.trans (hb.mono H1.out.size))
  clear hb T q0 q1 q2 p0 p1 p2
  obtain ⟨r0, r1, r2⟩ := set3N (x := .int .i64 x) (y := .int .i64 y) (z := .int .i64 z) Q0 Q1 Q2
  go_wp2_with fail
  exact bodyPost_ret (v := .agg #[.int .i64 x, .int .i64 y, .int .i64 z]) (by simp [results, Tryz.results204, go_sem, r0, r1, r2]) rfl ⟨rfl, ((H2.out.setCell (by simp) _).setCell (by simp) _).setCell (by simp) _⟩

/-- A sight as a value: a direction or a star. -/
def sightD (a b : Int) : Value := .iface 76 (.agg #[.int .i64 a, .int .i64 b])
def sightS (s : ByteArray) (a b c e : Int) : Value := .iface 49 (.agg #[.string s, .int .i64 a, .int .i64 b, .int .i64 c, .int .i64 e])

theorem distSD_any (s : ByteArray) (a b c e : Int) (fa : fits a) (p q : Int) (fp : fits p) (w : World) (hs : SinesOK w) :
    Calls Tryz.prog 68 #[sightS s a b c e, sightD p q] w fun r w' => r = .returned (.int .i64 (sepN (dirT a b) (dirT p q))) ∧ Below w.heap.size w w' := by
  obtain ⟨d, hd⟩ := sepN_eq (dirT a b) (dirT p q)
  have S := Lib.hid (fun w hs => starTow_any s a b c e fa w hs)
  have T := Lib.hid (fun w hs => dirTow_any p q fp w hs)
  have F := Lib.hid (fun w hs => implSep_any (dirT a b).1 (dirT a b).2.1 (dirT a b).2.2 (dirT p q).1 (dirT p q).2.1 (dirT p q).2.2 w hs)
  rw [hd] at F
  have E := Lib.hid hs
  clear hs hd fa fp
  generalize sepN (dirT a b) (dirT p q) = n at *
  generalize (dirT a b).1 = x at *
  generalize (dirT a b).2.1 = y at *
  generalize (dirT a b).2.2 = z at *
  generalize (dirT p q).1 = x' at *
  generalize (dirT p q).2.1 = y' at *
  generalize (dirT p q).2.2 = z' at *
  unfold sightS sightD
  go_enter Tryz.func68, Tryz.ntmps68
  go_wp2_with fail
  refine (S.out _ E.out).mono ?_
  rintro r w1 ⟨rfl, hb⟩
  have H1 := Lib.hid hb
  clear hb S
  go_wp2_with fail
  refine (T.out _ (E.out.below H1.out)).mono ?_
  rintro r w2 ⟨rfl, hb⟩
  have H2 := Lib.hid (H1.out.trans (hb.mono H1.out.size))
  clear hb T
  go_wp2_with fail
  refine (F.out _ (E.out.below H2.out)).mono ?_
  rintro r w3 ⟨rfl, hb⟩
  have H3 := Lib.hid (H2.out.trans (hb.mono H2.out.size))
  clear hb F
  go_wp2_with fail
  exact bodyPost_ret (v := .int .i64 n) (by simp [results, Tryz.results68, go_sem]) rfl ⟨rfl, H3.out⟩
end Go.Proofs.YtjghopepgfgebaaGreatDoor
