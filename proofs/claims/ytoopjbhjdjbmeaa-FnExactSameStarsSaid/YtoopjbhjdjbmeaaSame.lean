/-
  Equal lists of stars: the contracts of slices.Equal, SameStars (package impl) and of l05Same, SameStars (package spec).
-/
import Derived.Test.YtoopjbhjdjbmeaaStarL
import Derived.RegionTactic
import Derived.Deep.QuietTactic
import Derived.BigQuiet
import Derived.Laws.StructEq
namespace Go.Proofs.Ytoopjbhjdjbmeaa
open Go.RowKit
set_option linter.unusedVariables false

/-- Two stars are equal. -/
def eqV (x y : StarV) : Bool := (x.s.toList == y.s.toList) && ((x.a == y.a) && ((x.b == y.b) && ((x.c == y.c) && (x.d == y.d))))
def eqTo (xs ys : List StarV) (j : Nat) : Bool := (List.range j).all fun i => eqV (xs.getD i star0) (ys.getD i star0)
def sameL (xs ys : List StarV) : Bool := decide (xs.length = ys.length) && eqTo xs ys xs.length
theorem eqTo_next (xs ys : List StarV) (j : Nat) : eqTo xs ys (j + 1) = (eqTo xs ys j && eqV (xs.getD j star0) (ys.getD j star0)) := by
  unfold eqTo
  rw [List.range_succ, List.all_append]
  simp
theorem eqTo_stop (xs ys : List StarV) (j : Nat) (h : j < xs.length) (hs : eqV (xs.getD j star0) (ys.getD j star0) = false) : eqTo xs ys xs.length = false := by
  unfold eqTo
  rw [List.all_eq_false]
  exact ⟨j, List.mem_range.2 h, by rw [hs]; simp⟩
theorem getS_at (zs : List StarV) (j : Nat) (h : j < zs.length) : zs.getD j star0 = zs[j] := by rw [List.getD, List.getElem?_eq_getElem h]; rfl

set_option maxRecDepth 100000 in
theorem star_neq (x y : StarV) (w : World) : (binOp .neq 26 x.val y.val).run Try.prog w = .ok (.bool (!(eqV x y))) w := by
  unfold StarV.val
  rw [run_neq_struct]
  have hu : Try.prog.underlying 26 = some (.struct (Try.prog.fieldsOf 26)) := by kernel_rfl
  have hp : Try.prog.stoodInHeld 26 = false := by kernel_rfl
  rw [run_equalIn_agg w 9999 26 _ _ hu hp]
  simp only [Program.fieldsOf, Try.underlying26]
  simp [Op.eqFields, go_sem, Try.underlying2, Try.underlying9]
  unfold eqV
  by_cases h0 : x.s.toList = y.s.toList <;> by_cases h1 : x.a = y.a <;> by_cases h2 : x.b = y.b <;> by_cases h3 : x.c = y.c <;> by_cases h4 : x.d = y.d <;> simp [h0, h1, h2, h3, h4]
theorem star_guard : Try.prog.eqGuardType Try.prog.depth 26 = false := by kernel_rfl

set_option maxRecDepth 100000 in
set_option maxHeartbeats 1000000 in
theorem l05Same_full (g g' cap cap' : Nat) (xs ys : List StarV) (w : World) (hb : xs.length ≤ 1048577) (hl : xs.length = ys.length) (h1 : Row w g xs) (h2 : Row w g' ys) :
    Calls Try.prog 33 #[.slice (some ⟨g, 0, none⟩) xs.length cap, .slice (some ⟨g', 0, none⟩) ys.length cap'] w fun e w' => e = .returned (.bool (eqTo xs ys xs.length)) ∧ Below w.heap.size w w' := by
  have H1 := Lib.hid h1
  have H2 := Lib.hid h2
  have KN := Lib.hid (eqTo_next xs ys)
  have KS := Lib.hid (eqTo_stop xs ys)
  have KE : Hid (eqTo xs ys xs.length = eqTo xs ys xs.length) := Lib.hid rfl
  clear h1 h2
  rw [← hl]
  have HL := Lib.hid hl
  clear hl
  go_enter Try.func33, Try.ntmps33
  go_wp2_with fail
  go_loopg [5] (xs.length + 1) (fun kx s5 wr => ∃ j : Nat, s5 = .int .i64 (j : Int) ∧ j ≤ xs.length ∧ kx = xs.length + 1 - j ∧ Hid (eqTo xs ys j = true) ∧ Hid (Below w.heap.size w wr))
  case atStart => exact ⟨0, rfl, Nat.zero_le _, rfl, Lib.hid rfl, Lib.hid (Below.refl _ _)⟩
  case round =>
    obtain ⟨j, rfl, hj, rfl, HO, HB⟩ := hrel
    by_cases hlt : j < xs.length
    · have hlt' : j < ys.length := by rw [← HL.out]; exact hlt
      obtain ⟨c0, c1, c2, c3, c4⟩ := (H1.out.below HB.out).at j hlt
      obtain ⟨d0, d1, d2, d3, d4⟩ := (H2.out.below HB.out).at j hlt'
      have HN := Lib.hid (KN.out j)
      have HS := Lib.hid (KS.out j hlt)
      rw [getS_at xs j hlt, getS_at ys j hlt'] at HN HS
      generalize xs[j] = x at *
      generalize ys[j] = y at *
      have NE : ∀ w, (binOp .neq 26 (.agg #[.string x.s, .int .i64 x.a, .int .i64 x.b, .int .i64 x.c, .int .i64 x.d]) (.agg #[.string y.s, .int .i64 y.a, .int .i64 y.b, .int .i64 y.c, .int .i64 y.d])).run Try.prog w = .ok (.bool (!(eqV x y))) w := fun w => star_neq x y w
      have EG : ∀ (p q : Operand) (w : World), (eqGuard .neq 26 p q (.agg #[.string x.s, .int .i64 x.a, .int .i64 x.b, .int .i64 x.c, .int .i64 x.d]) (.agg #[.string y.s, .int .i64 y.a, .int .i64 y.b, .int .i64 y.c, .int .i64 y.d])).run Try.prog w = .ok () w := fun p q w => run_eqGuard_agg w .neq 26 p q _ _ star_guard
      generalize eqV x y = q at *
      obtain ⟨xs', xa, xb, xc, xd⟩ := x
      obtain ⟨ys', ya, yb, yc, yd⟩ := y
      simp only at c0 c1 c2 c3 c4 d0 d1 d2 d3 d4 NE EG
      have j0 : (0 : Int) ≤ (j : Int) := by omega
      have j1 : (j : Int) < (xs.length : Int) := by omega
      cases q with
      | true =>
        have HT : Hid (eqTo xs ys (j + 1) = true) := Lib.hid (by rw [HN.out, HO.out]; rfl)
        clear HN HS KN KS
        go_wp2_with fail
        go_quiet (fail)
        rename Nat => q1
        go_wp2_with fail
        go_roundg (xs.length + 1 - (j + 1))
        case measure => omega
        case rel => exact ⟨j + 1, by go_num, by omega, by omega, HT, Lib.hid (bel_drewNS HB.out _)⟩
      | false =>
        have HR := Lib.hid (HS.out rfl)
        clear HN HS KN KS
        go_wp2_with fail
        go_quiet (fail)
        rename Nat => q1
        go_wp2_with fail
        go_ret
        exact ⟨ret_bool HR.out.symm, bel_drewNS HB.out _⟩
    · obtain rfl : j = xs.length := by omega
      go_wp2_with fail
      go_ret
      exact ⟨ret_bool HO.out.symm, HB.out⟩
set_option maxRecDepth 100000 in
set_option maxHeartbeats 1000000 in
theorem equal_full (g g' cap cap' : Nat) (xs ys : List StarV) (w : World) (hb : xs.length ≤ 1048577) (hl : xs.length = ys.length) (h1 : Row w g xs) (h2 : Row w g' ys) :
    Calls Try.prog 34 #[.slice (some ⟨g, 0, none⟩) xs.length cap, .slice (some ⟨g', 0, none⟩) ys.length cap'] w fun e w' => e = .returned (.bool (eqTo xs ys xs.length)) ∧ Below w.heap.size w w' := by
  have H1 := Lib.hid h1
  have H2 := Lib.hid h2
  have KN := Lib.hid (eqTo_next xs ys)
  have KS := Lib.hid (eqTo_stop xs ys)
  have KE : Hid (eqTo xs ys xs.length = eqTo xs ys xs.length) := Lib.hid rfl
  clear h1 h2
  rw [← hl]
  have HL := Lib.hid hl
  clear hl
  go_enter Try.func34, Try.ntmps34
  go_wp2_with fail
  go_loopg [13] (xs.length + 1) (fun kx s13 wr => ∃ j : Nat, s13 = .int .i64 (j : Int) ∧ j ≤ xs.length ∧ kx = xs.length + 1 - j ∧ Hid (eqTo xs ys j = true) ∧ Hid (Below w.heap.size w wr))
  case atStart => exact ⟨0, rfl, Nat.zero_le _, rfl, Lib.hid rfl, Lib.hid (Below.refl _ _)⟩
  case round =>
    obtain ⟨j, rfl, hj, rfl, HO, HB⟩ := hrel
    by_cases hlt : j < xs.length
    · have hlt' : j < ys.length := by rw [← HL.out]; exact hlt
      obtain ⟨c0, c1, c2, c3, c4⟩ := (H1.out.below HB.out).at j hlt
      obtain ⟨d0, d1, d2, d3, d4⟩ := (H2.out.below HB.out).at j hlt'
      have HN := Lib.hid (KN.out j)
      have HS := Lib.hid (KS.out j hlt)
      rw [getS_at xs j hlt, getS_at ys j hlt'] at HN HS
      generalize xs[j] = x at *
      generalize ys[j] = y at *
      have NE : ∀ w, (binOp .neq 26 (.agg #[.string x.s, .int .i64 x.a, .int .i64 x.b, .int .i64 x.c, .int .i64 x.d]) (.agg #[.string y.s, .int .i64 y.a, .int .i64 y.b, .int .i64 y.c, .int .i64 y.d])).run Try.prog w = .ok (.bool (!(eqV x y))) w := fun w => star_neq x y w
      have EG : ∀ (p q : Operand) (w : World), (eqGuard .neq 26 p q (.agg #[.string x.s, .int .i64 x.a, .int .i64 x.b, .int .i64 x.c, .int .i64 x.d]) (.agg #[.string y.s, .int .i64 y.a, .int .i64 y.b, .int .i64 y.c, .int .i64 y.d])).run Try.prog w = .ok () w := fun p q w => run_eqGuard_agg w .neq 26 p q _ _ star_guard
      generalize eqV x y = q at *
      obtain ⟨xs', xa, xb, xc, xd⟩ := x
      obtain ⟨ys', ya, yb, yc, yd⟩ := y
      simp only at c0 c1 c2 c3 c4 d0 d1 d2 d3 d4 NE EG
      have j0 : (0 : Int) ≤ (j : Int) := by omega
      have j1 : (j : Int) < (xs.length : Int) := by omega
      cases q with
      | true =>
        have HT : Hid (eqTo xs ys (j + 1) = true) := Lib.hid (by rw [HN.out, HO.out]; rfl)
        clear HN HS KN KS
        go_wp2_with fail
        go_quiet (fail)
        rename Nat => q1
        go_wp2_with fail
        go_roundg (xs.length + 1 - (j + 1))
        case measure => omega
        case rel => exact ⟨j + 1, by go_num, by omega, by omega, HT, Lib.hid (bel_drewNS HB.out _)⟩
      | false =>
        have HR := Lib.hid (HS.out rfl)
        clear HN HS KN KS
        go_wp2_with fail
        go_quiet (fail)
        rename Nat => q1
        go_wp2_with fail
        go_ret
        exact ⟨ret_bool HR.out.symm, bel_drewNS HB.out _⟩
    · obtain rfl : j = xs.length := by omega
      go_wp2_with fail
      go_ret
      exact ⟨ret_bool HO.out.symm, HB.out⟩

set_option maxHeartbeats 400000 in
theorem l05Same_ne (a a' : Option Addr) (m n cap cap' : Nat) (w : World) (hl : ¬ m = n) :
    Calls Try.prog 33 #[.slice a m cap, .slice a' n cap'] w fun e w' => e = .returned (.bool false) ∧ Below w.heap.size w w' := by
  have hne : ¬ (m : Int) = (n : Int) := by omega
  go_enter Try.func33, Try.ntmps33
  go_wp2_with fail
  go_ret
  exact ⟨rfl, Below.refl _ _⟩

set_option maxHeartbeats 400000 in
theorem equal_ne (a a' : Option Addr) (m n cap cap' : Nat) (w : World) (hl : ¬ m = n) :
    Calls Try.prog 34 #[.slice a m cap, .slice a' n cap'] w fun e w' => e = .returned (.bool false) ∧ Below w.heap.size w w' := by
  have hne : ¬ (m : Int) = (n : Int) := by omega
  go_enter Try.func34, Try.ntmps34
  go_wp2_with fail
  go_ret
  exact ⟨rfl, Below.refl _ _⟩

theorem specSame0_any (g g' cap cap' : Nat) (xs ys : List StarV) (w : World) (hb : xs.length ≤ 1048577) (h1 : Row w g xs) (h2 : Row w g' ys) :
    Calls Try.prog 33 #[.slice (some ⟨g, 0, none⟩) xs.length cap, .slice (some ⟨g', 0, none⟩) ys.length cap'] w fun e w' => e = .returned (.bool (sameL xs ys)) ∧ Below w.heap.size w w' := by
  unfold sameL
  by_cases h : xs.length = ys.length
  · rw [show decide (xs.length = ys.length) = true by simpa using h, Bool.true_and]
    exact l05Same_full g g' cap cap' xs ys w hb h h1 h2
  · rw [show decide (xs.length = ys.length) = false by simpa using h, Bool.false_and]
    exact l05Same_ne _ _ _ _ _ _ w h
set_option maxHeartbeats 400000 in
theorem specSame_any (g g' cap cap' : Nat) (xs ys : List StarV) (w : World) (hb : xs.length ≤ 1048577) (h1 : Row w g xs) (h2 : Row w g' ys) :
    Calls Try.prog 17 #[.slice (some ⟨g, 0, none⟩) xs.length cap, .slice (some ⟨g', 0, none⟩) ys.length cap'] w fun e w' => e = .returned (.bool (sameL xs ys)) ∧ Below w.heap.size w w' := by
  have O := Lib.hid (specSame0_any g g' cap cap' xs ys w hb h1 h2)
  clear h1 h2
  generalize sameL xs ys = r at *
  go_enter Try.func17, Try.ntmps17
  go_wp2_with fail
  refine O.out.mono ?_
  rintro e w1 ⟨rfl, hb1⟩
  have HB := Lib.hid hb1
  clear hb1
  go_wp2_with fail
  go_ret
  exact ⟨rfl, HB.out⟩

theorem implSame0_any (g g' cap cap' : Nat) (xs ys : List StarV) (w : World) (hb : xs.length ≤ 1048577) (h1 : Row w g xs) (h2 : Row w g' ys) :
    Calls Try.prog 34 #[.slice (some ⟨g, 0, none⟩) xs.length cap, .slice (some ⟨g', 0, none⟩) ys.length cap'] w fun e w' => e = .returned (.bool (sameL xs ys)) ∧ Below w.heap.size w w' := by
  unfold sameL
  by_cases h : xs.length = ys.length
  · rw [show decide (xs.length = ys.length) = true by simpa using h, Bool.true_and]
    exact equal_full g g' cap cap' xs ys w hb h h1 h2
  · rw [show decide (xs.length = ys.length) = false by simpa using h, Bool.false_and]
    exact equal_ne _ _ _ _ _ _ w h
set_option maxHeartbeats 400000 in
theorem implSame_any (g g' cap cap' : Nat) (xs ys : List StarV) (w : World) (hb : xs.length ≤ 1048577) (h1 : Row w g xs) (h2 : Row w g' ys) :
    Calls Try.prog 18 #[.slice (some ⟨g, 0, none⟩) xs.length cap, .slice (some ⟨g', 0, none⟩) ys.length cap'] w fun e w' => e = .returned (.bool (sameL xs ys)) ∧ Below w.heap.size w w' := by
  have O := Lib.hid (implSame0_any g g' cap cap' xs ys w hb h1 h2)
  clear h1 h2
  generalize sameL xs ys = r at *
  go_enter Try.func18, Try.ntmps18
  go_wp2_with fail
  refine O.out.mono ?_
  rintro e w1 ⟨rfl, hb1⟩
  have HB := Lib.hid hb1
  clear hb1
  go_wp2_with fail
  go_ret
  exact ⟨rfl, HB.out⟩
end Go.Proofs.Ytoopjbhjdjbmeaa
