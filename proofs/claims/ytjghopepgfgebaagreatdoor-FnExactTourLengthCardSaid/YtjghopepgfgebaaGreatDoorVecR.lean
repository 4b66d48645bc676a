/-
  Vectors of package impl: the contracts of validResult, LengthOf, DotOf, CrossOf, NormalVector, BlendVectors.
-/
import Derived.Test.YtjghopepgfgebaaGreatDoorVecQ
namespace Go.Proofs.YtjghopepgfgebaaGreatDoor
open Go.RowKit
set_option linter.unusedVariables false

set_option maxHeartbeats 400000 in
theorem validResult_any (x y z : Int) (w : World) :
    Calls Tryz.prog 126 #[.agg #[.int .i64 x, .int .i64 y, .int .i64 z]] w fun e w' => e = .returned (doneV x y z) ∧ Below w.heap.size w w' := by
  have I := Lib.hid (fun w => validV_any x y z w)
  unfold doneV
  cases ho : okV x y z with
  | false =>
    rw [if_neg (by simp)]
    rw [ho] at I
    clear ho
    go_enter Tryz.func126, Tryz.ntmps126
    go_wp2_with fail
    refine (I.out _).mono ?_
    rintro e w1 ⟨rfl, hb⟩
    have hsw1 := hb.size
    try simp at hsw1
    obtain ⟨hcw1, hfw1⟩ := bcell hb
    have HBw1 : Hid (Below w.heap.size w w1) := by
      apply Lib.hid
      refine Below.trans ?_ (hb.mono ?_)
      · repeat (first | exact Below.refl _ _ | refine Below.setCell ?_ (by first | (simp; done) | omega | (simp; omega)) _ | refine Below.alloc ?_ (by first | (simp; done) | omega | (simp; omega)) _)
      · first | (simp; done) | omega | (simp; omega)
    have hzw1 : w.heap.size + 1 < w1.heap.size := by have := hb.size; (try simp at this); omega
    have hyw1 : w.heap.size < w1.heap.size := by have := hb.size; (try simp at this); omega
    clear hb
    go_wp2_with fail
    refine bodyPost_ret (v := .tuple #[.agg #[.int .i64 0, .int .i64 0, .int .i64 0], .int .i64 6]) (by first | (simp [results, Tryz.results126, go_sem]; done) | (simp [results, Tryz.results126, go_sem, *]; done)) rfl ⟨rfl, ?_⟩
    repeat (first | exact Below.refl _ _ | exact HBw1.out | refine Below.setCell ?_ (by first | (simp; done) | omega | (simp; omega)) _ | refine Below.alloc ?_ (by first | (simp; done) | omega | (simp; omega)) _ | refine bel_drew ?_)
  | true =>
    rw [if_pos rfl]
    rw [ho] at I
    clear ho
    go_enter Tryz.func126, Tryz.ntmps126
    go_wp2_with fail
    refine (I.out _).mono ?_
    rintro e w1 ⟨rfl, hb⟩
    have hsw1 := hb.size
    try simp at hsw1
    obtain ⟨hcw1, hfw1⟩ := bcell hb
    have HBw1 : Hid (Below w.heap.size w w1) := by
      apply Lib.hid
      refine Below.trans ?_ (hb.mono ?_)
      · repeat (first | exact Below.refl _ _ | refine Below.setCell ?_ (by first | (simp; done) | omega | (simp; omega)) _ | refine Below.alloc ?_ (by first | (simp; done) | omega | (simp; omega)) _)
      · first | (simp; done) | omega | (simp; omega)
    have hzw1 : w.heap.size + 1 < w1.heap.size := by have := hb.size; (try simp at this); omega
    have hyw1 : w.heap.size < w1.heap.size := by have := hb.size; (try simp at this); omega
    clear hb
    go_wp2_with fail
    refine bodyPost_ret (v := .tuple #[.agg #[.int .i64 x, .int .i64 y, .int .i64 z], .int .i64 0]) (by first | (simp [results, Tryz.results126, go_sem]; done) | (simp [results, Tryz.results126, go_sem, *]; done)) rfl ⟨rfl, ?_⟩
    repeat (first | exact Below.refl _ _ | exact HBw1.out | refine Below.setCell ?_ (by first | (simp; done) | omega | (simp; omega)) _ | refine Below.alloc ?_ (by first | (simp; done) | omega | (simp; omega)) _ | refine bel_drew ?_)

def lenV (x y z : Int) : Value := if okV x y z = true then .tuple #[.int .i64 (len3 x y z), .int .i64 0] else .tuple #[.int .i64 0, .int .i64 1]
theorem inV_up {m n x y z : Int} (h : inV m x y z) (hm : m ≤ n) : inV n x y z := by
  obtain ⟨⟨a0, a1⟩, ⟨b0, b1⟩, c0, c1⟩ := h
  exact ⟨⟨by omega, by omega⟩, ⟨by omega, by omega⟩, by omega, by omega⟩
def dotV (x y z x' y' z' : Int) : Value := if okV x y z = true then (if okV x' y' z' = true then .tuple #[.int .i64 (dotI x y z x' y' z'), .int .i64 0] else .tuple #[.int .i64 0, .int .i64 1]) else .tuple #[.int .i64 0, .int .i64 1]
def crossV (x y z x' y' z' : Int) : Value := if okV x y z = true then (if okV x' y' z' = true then doneV (crI y z' z y') (crI z x' x z') (crI x y' y x') else .tuple #[.agg #[.int .i64 0, .int .i64 0, .int .i64 0], .int .i64 1]) else .tuple #[.agg #[.int .i64 0, .int .i64 0, .int .i64 0], .int .i64 1]
theorem doneV_form (x y z : Int) : ∃ a b c d : Int, doneV x y z = .tuple #[.agg #[.int .i64 a, .int .i64 b, .int .i64 c], .int .i64 d] := by
  unfold doneV
  split <;> exact ⟨_, _, _, _, rfl⟩
end Go.Proofs.YtjghopepgfgebaaGreatDoor
