/-
  Moments after some time, times between moments: the contracts of momentOf, MomentAfter, MilliBetween (package impl), l03Most, l03At, MomentAfter, MilliBetween (package spec).
-/
import Derived.Test.YtnadgldgdmppkaaMomM
namespace Go.Proofs.Ytnadgldgdmppkaa
open Go.RowKit
set_option linter.unusedVariables false

def momAt (x : Int) : Value := .agg #[.int .i64 (x / 86400000), .int .i64 (x % 86400000)]
def mom0 : Value := .agg #[.int .i64 0, .int .i64 0]
def momV (x : Int) : Value := if inR 0 8639999999999 [x] = true then .tuple #[.agg #[.int .i64 (x / 86400000), .int .i64 (x % 86400000)], .int .i64 0] else .tuple #[.agg #[.int .i64 0, .int .i64 0], .int .i64 6]
def afterV (d m x : Int) : Value :=
  if okM d m = true then (if inR (-8640000000000) 8640000000000 [x] = true then momV (d * 86400000 + m + x) else .tuple #[.agg #[.int .i64 0, .int .i64 0], .int .i64 2]) else .tuple #[.agg #[.int .i64 0, .int .i64 0], .int .i64 1]
theorem momV_form (x : Int) : ∃ p q r : Int, momV x = .tuple #[.agg #[.int .i64 p, .int .i64 q], .int .i64 r] := by
  unfold momV
  split
  · exact ⟨_, _, _, rfl⟩
  · exact ⟨_, _, _, rfl⟩

set_option maxHeartbeats 400000 in
theorem momentOf_any (x : Int) (w : World) :
    Calls Try.prog 32 #[.int .i64 x] w fun e w' => e = .returned (momV x) ∧ Below w.heap.size w w' := by
  unfold momV
  cases hin : inR 0 8639999999999 [x] with
  | false =>
    rw [if_neg (by simp)]
    have HI := Lib.hid hin
    clear hin
    go_enter Try.func32, Try.ntmps32
    go_wp2_with fail
    refine (within1 _ _ x _ _ _ (by simp)).mono ?_
    rintro e w' ⟨rfl, rfl⟩
    rw [HI.out]
    go_wp2_with fail
    refine bodyPost_ret (v := .tuple #[.agg #[.int .i64 0, .int .i64 0], .int .i64 6]) (by first | (simp [results, Try.results32, go_sem]; done) | (simp [results, Try.results32, go_sem]; done)) rfl ⟨rfl, ?_⟩
    repeat (first | exact Below.refl _ _ | refine Below.setCell ?_ (by first | (simp; done) | omega | (simp; omega)) _ | refine Below.alloc ?_ (by first | (simp; done) | omega | (simp; omega)) _)
  | true =>
    rw [if_pos rfl]
    obtain ⟨x0, x1⟩ := (inR_1 _ _ _).1 hin
    have HI := Lib.hid hin
    clear hin
    go_enter Try.func32, Try.ntmps32
    go_wp2_with fail
    refine (within1 _ _ x _ _ _ (by simp)).mono ?_
    rintro e w' ⟨rfl, rfl⟩
    rw [HI.out]
    go_wp2_with fail
    refine bodyPost_ret (v := .tuple #[.agg #[.int .i64 (x / 86400000), .int .i64 (x % 86400000)], .int .i64 0]) (by first | (simp [results, Try.results32, go_sem]; done) | (simp [results, Try.results32, go_sem]; done)) rfl ⟨rfl, ?_⟩
    repeat (first | exact Below.refl _ _ | refine Below.setCell ?_ (by first | (simp; done) | omega | (simp; omega)) _ | refine Below.alloc ?_ (by first | (simp; done) | omega | (simp; omega)) _)

set_option maxHeartbeats 400000 in
theorem l03At_any (x : Int) (x0 : 0 ≤ x) (x1 : x ≤ 9000000000000) (w : World) :
    Calls Try.prog 24 #[.int .i64 x] w fun e w' => e = .returned (.agg #[.int .i64 (x / 86400000), .int .i64 (x % 86400000)]) ∧ Below w.heap.size w w' := by
  go_enter Try.func24, Try.ntmps24
  go_wp2_with fail
  refine bodyPost_ret (v := .agg #[.int .i64 (x / 86400000), .int .i64 (x % 86400000)]) (by first | (simp [results, Try.results24, go_sem]; done) | (simp [results, Try.results24, go_sem]; done)) rfl ⟨rfl, ?_⟩
  repeat (first | exact Below.refl _ _ | refine Below.setCell ?_ (by first | (simp; done) | omega | (simp; omega)) _ | refine Below.alloc ?_ (by first | (simp; done) | omega | (simp; omega)) _)

set_option maxHeartbeats 400000 in
theorem l03Most_any (w : World) :
    Calls Try.prog 23 #[] w fun e w' => e = .returned (.int .i64 8640000000000) ∧ w = w' := by
  go_enter Try.func23, Try.ntmps23
  go_wp2_with fail
  go_ret
  exact ⟨rfl, rfl⟩

end Go.Proofs.Ytnadgldgdmppkaa
