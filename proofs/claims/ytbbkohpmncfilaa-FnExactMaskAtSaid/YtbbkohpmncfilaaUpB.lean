/-
  Directions that are up: the contract of isUp (package impl).
-/
import Derived.Test.YtbbkohpmncfilaaDirV
import Derived.IntWalk
namespace Go.Proofs.Ytbbkohpmncfilaa
open Go.RowKit
set_option linter.unusedVariables false

/-- A direction that is up. -/
def upB (a h : Int) : Bool := inR 0 359999 [a] && inR 0 90000 [h]
theorem upB_eq (a h : Int) : upB a h = (dirB a h && decide (0 ≤ h)) := by
  rw [Bool.eq_iff_iff]
  unfold upB dirB
  simp only [Bool.and_eq_true, inR_1, decide_eq_true_eq]
  constructor
  · rintro ⟨h1, h2⟩; exact ⟨⟨h1, by omega⟩, by omega⟩
  · rintro ⟨⟨h1, h2⟩, h3⟩; exact ⟨h1, by omega⟩
theorem upB_bd {a h : Int} (H : upB a h = true) : (0 ≤ a ∧ a ≤ 359999) ∧ 0 ≤ h ∧ h ≤ 90000 := by
  unfold upB at H
  simp only [Bool.and_eq_true, inR_1] at H
  exact H
set_option maxHeartbeats 400000 in
theorem isUp_any (a b : Int) (w : World) :
    Calls Try.prog 101 #[.agg #[.int .i64 a, .int .i64 b]] w fun e w' => e = .returned (.bool (upB a b)) ∧ Below w.heap.size w w' := by
  rw [upB_eq]
  have I1 := Lib.hid (fun w => dirValid_any a b w)
  generalize dirB a b = p1 at *
  cases p1 with
  | false =>
    rw [Bool.false_and]
    go_enter Try.func101, Try.ntmps101
    go_wp2_with fail
    refine (I1.out _).mono ?_
    rintro e w1 ⟨rfl, hb⟩
    have hsw1 := hb.size
    try simp at hsw1
    obtain ⟨hcw1, hfw1⟩ := bcell hb
    have HBw1 : Hid (Below w.heap.size w w1) := by
      apply Lib.hid
      refine Below.trans ?_ (hb.mono ?_)
      · repeat (first | exact Below.refl _ _ | refine Below.setCell ?_ (by first | (simp; done) | omega | (simp; omega)) _ | refine Below.alloc ?_ (by first | (simp; done) | omega | (simp; omega)) _)
      · first | (simp; done) | omega | (simp; omega)
    have hzw1 : w.heap.size < w1.heap.size := by have := hb.size; (try simp at this); omega
    clear hb
    go_wp2_with fail
    go_ret
    refine ⟨rfl, ?_⟩
    repeat (first | exact Below.refl _ _ | exact HBw1.out | refine Below.setCell ?_ (by first | (simp; done) | omega | (simp; omega)) _ | refine Below.alloc ?_ (by first | (simp; done) | omega | (simp; omega)) _ | refine bel_drew ?_)
  | true =>
    rw [Bool.true_and]
    go_enter Try.func101, Try.ntmps101
    go_wp2_with fail
    refine (I1.out _).mono ?_
    rintro e w1 ⟨rfl, hb⟩
    have q1 : w1.cell? ⟨w.heap.size, 1, none⟩ = some (.int .i64 b) := (hb.cell (p := ⟨w.heap.size, 1, none⟩) (by simp)).trans (by simp)
    have HB : Hid (Below w.heap.size w w1) := Lib.hid (((Below.refl _ _).alloc (Nat.le_refl _) _).trans (hb.mono (by simp)))
    clear hb
    go_wp2_with fail
    go_ret
    refine ⟨rfl, ?_⟩
    repeat (first | exact Below.refl _ _ | exact HB.out | refine Below.setCell ?_ (by first | (simp; done) | omega | (simp; omega)) _ | refine Below.alloc ?_ (by first | (simp; done) | omega | (simp; omega)) _ | refine bel_drew ?_)
end Go.Proofs.Ytbbkohpmncfilaa
