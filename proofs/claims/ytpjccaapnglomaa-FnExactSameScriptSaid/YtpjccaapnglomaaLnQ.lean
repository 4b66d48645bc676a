/-
  SameScript (both packages).
-/
import Derived.Test.YtpjccaapnglomaaLnS
import Derived.Test.YtpjccaapnglomaaLnL
import Derived.RegionTactic
import Derived.Deep.QuietTactic
import Derived.BigQuiet
import Derived.Deep.LoopGhost
import Derived.Handy
namespace Go.Proofs.Ytpjccaapnglomaa.Ln
open Go.RowKit
set_option linter.unusedVariables false

set_option maxRecDepth 100000 in
set_option maxHeartbeats 1000000 in
theorem same_full (g g' cap cap' : Nat) (xs ys : List V) (w : World) (hb : xs.length ≤ 1048577) (hl : xs.length = ys.length) (h1 : Row w g xs) (h2 : Row w g' ys) :
    Calls Try.prog 10 #[.slice (some ⟨g, 0, none⟩) xs.length cap, .slice (some ⟨g', 0, none⟩) ys.length cap'] w fun e w' => e = .returned (.bool (eqTo xs ys xs.length)) ∧ Below w.heap.size w w' := by
  have H1 := Lib.hid h1
  have H2 := Lib.hid h2
  have KN := Lib.hid (eqTo_next xs ys)
  have KS := Lib.hid (eqTo_stop xs ys)
  clear h1 h2
  rw [← hl]
  have HL := Lib.hid hl
  clear hl
  go_enter Try.func10, Try.ntmps10
  go_wp2_with fail
  go_loopg [5] (xs.length + 1) (fun kx s5 wr => ∃ j : Nat, s5 = .int .i64 (j : Int) ∧ j ≤ xs.length ∧ kx = xs.length + 1 - j ∧ Hid (eqTo xs ys j = true) ∧ Hid (Below w.heap.size w wr))
  case atStart => exact ⟨0, rfl, Nat.zero_le _, rfl, Lib.hid rfl, Lib.hid (Below.refl _ _)⟩
  case round =>
    obtain ⟨j, rfl, hj, rfl, HO, HB⟩ := hrel
    by_cases hlt : j < xs.length
    · have hlt' : j < ys.length := by rw [← HL.out]; exact hlt
      obtain ⟨c0, c1, c2⟩ := (H1.out.below HB.out).at j hlt
      obtain ⟨d0, d1, d2⟩ := (H2.out.below HB.out).at j hlt'
      have HN := Lib.hid (KN.out j)
      have HS := Lib.hid (KS.out j hlt)
      rw [getD_at xs j hlt, getD_at ys j hlt'] at HN HS
      generalize xs[j] = x at *
      generalize ys[j] = y at *
      have NE : ∀ w, (binOp .neq 31 (.agg #[.int .i64 x.f0, .string x.f1, .int .i64 x.f2]) (.agg #[.int .i64 y.f0, .string y.f1, .int .i64 y.f2])).run Try.prog w = .ok (.bool (!(eqV x y))) w := fun w => neq_run x y w
      have EG : ∀ (p q : Operand) (w : World), (eqGuard .neq 31 p q (.agg #[.int .i64 x.f0, .string x.f1, .int .i64 x.f2]) (.agg #[.int .i64 y.f0, .string y.f1, .int .i64 y.f2])).run Try.prog w = .ok () w := fun p q w => run_eqGuard_agg w .neq 31 p q _ _ eq_guard
      generalize eqV x y = q at *
      obtain ⟨x0, x1, x2⟩ := x
      obtain ⟨y0, y1, y2⟩ := y
      simp only at c0 c1 c2 d0 d1 d2 NE EG
      have j0 : (0 : Int) ≤ (j : Int) := by omega
      have j1 : (j : Int) < (xs.length : Int) := by omega
      cases q with
      | true =>
        have HT : Hid (eqTo xs ys (j + 1) = true) := Lib.hid (by rw [HN.out, HO.out]; rfl)
        clear HN HS KN KS
        go_wp2_with fail
        go_quiet (fail)
        rename Nat => q1
        go_wp2_with fail
        go_roundg (xs.length + 1 - (j + 1))
        case measure => omega
        case rel => exact ⟨j + 1, by go_num, by omega, by omega, HT, Lib.hid (bel_drewNS HB.out _)⟩
      | false =>
        have HR := Lib.hid (HS.out rfl)
        clear HN HS KN KS
        go_wp2_with fail
        go_quiet (fail)
        rename Nat => q1
        go_wp2_with fail
        go_ret
        exact ⟨ret_bool HR.out.symm, bel_drewNS HB.out _⟩
    · obtain rfl : j = xs.length := by omega
      go_wp2_with fail
      go_ret
      exact ⟨ret_bool HO.out.symm, HB.out⟩
set_option maxHeartbeats 400000 in
theorem same_any (g g' cap cap' : Nat) (xs ys : List V) (w : World) (hb : xs.length ≤ 1048577) (hb2 : ys.length ≤ 1048577) (h1 : Row w g xs) (h2 : Row w g' ys) :
    Calls Try.prog 10 #[.slice (some ⟨g, 0, none⟩) xs.length cap, .slice (some ⟨g', 0, none⟩) ys.length cap'] w fun e w' => e = .returned (.bool (sameL xs ys)) ∧ Below w.heap.size w w' := by
  by_cases hl : xs.length = ys.length
  · have : sameL xs ys = eqTo xs ys xs.length := by unfold sameL; simp [hl]
    rw [this]
    exact same_full g g' cap cap' xs ys w hb hl h1 h2
  · have : sameL xs ys = false := by unfold sameL; simp [hl]
    rw [this]
    have hne : ((xs.length : Int) = (ys.length : Int)) = False := by simp; omega
    clear h1 h2 this
    go_enter Try.func10, Try.ntmps10
    go_wp2_with fail
    go_ret
    exact ⟨rfl, Below.refl _ _⟩


set_option maxHeartbeats 400000 in
theorem specSame_any (g g' cap cap' : Nat) (xs ys : List V) (w : World) (hb : xs.length ≤ 1048577) (hb2 : ys.length ≤ 1048577) (h1 : Row w g xs) (h2 : Row w g' ys) :
    Calls Try.prog 5 #[.slice (some ⟨g, 0, none⟩) xs.length cap, .slice (some ⟨g', 0, none⟩) ys.length cap'] w fun e w' => e = .returned (.bool (sameL xs ys)) ∧ Below w.heap.size w w' := by
  have O := Lib.hid (same_any g g' cap cap' xs ys w hb hb2 h1 h2)
  clear h1 h2
  go_enter Try.func5, Try.ntmps5
  go_wp2_with fail
  refine (O.out).mono ?_
  rintro e w1 ⟨rfl, hb1⟩
  go_wp2_with fail
  go_ret
  exact ⟨rfl, hb1⟩
set_option maxHeartbeats 400000 in
theorem implSame_any (g g' cap cap' : Nat) (xs ys : List V) (w : World) (hb : xs.length ≤ 1048577) (hb2 : ys.length ≤ 1048577) (h1 : Row w g xs) (h2 : Row w g' ys) :
    Calls Try.prog 7 #[.slice (some ⟨g, 0, none⟩) xs.length cap, .slice (some ⟨g', 0, none⟩) ys.length cap'] w fun e w' => e = .returned (.bool (sameL xs ys)) ∧ Below w.heap.size w w' := by
  have O := Lib.hid (equal_any g g' cap cap' xs ys w hb hb2 h1 h2)
  clear h1 h2
  go_enter Try.func7, Try.ntmps7
  go_wp2_with fail
  refine (O.out).mono ?_
  rintro e w1 ⟨rfl, hb1⟩
  go_wp2_with fail
  go_ret
  exact ⟨rfl, hb1⟩

end Go.Proofs.Ytpjccaapnglomaa.Ln
