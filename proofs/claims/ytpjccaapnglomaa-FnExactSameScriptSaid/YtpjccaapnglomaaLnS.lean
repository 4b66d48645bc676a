/-
  Package slices on rows of Lines: IndexFunc, ContainsFunc, Equal, Clone; equality of two of them.
-/
import Derived.Test.YtpjccaapnglomaaLnR
import Derived.RegionTactic
import Derived.Deep.QuietTactic
import Derived.Deep.LoopGhost
import Derived.Deep.Draws
import Derived.BigQuiet
import Derived.Laws.StructEq
import Derived.Shelf.Abstract
import Derived.Handy
namespace Go.Proofs.Ytpjccaapnglomaa.Ln
open Go.RowKit
set_option linter.unusedVariables false

theorem bel_drewNS {B : Nat} {a w : World} (h : Below B a w) (n : Nat) : Below B a (w.drewN n) := ⟨h.os, h.tape, h.output, h.size, h.block⟩
/-- Two are equal. -/
def eqV (x y : V) : Bool := ((x.f0 == y.f0) && ((x.f1.toList == y.f1.toList) && (x.f2 == y.f2)))
theorem eqV_iff (x y : V) : eqV x y = true ↔ x = y := by
  obtain ⟨x0, x1, x2⟩ := x
  obtain ⟨y0, y1, y2⟩ := y
  have tl : ∀ a b : ByteArray, a.toList = b.toList ↔ a = b := fun a b => ⟨fun h => by
    rw [ByteArray.toList_eq, ByteArray.toList_eq] at h
    exact ByteArray.ext (Array.toList_inj.mp h), fun h => congrArg _ h⟩
  simp [eqV, tl]
def eqTo (xs ys : List V) (j : Nat) : Bool := (List.range j).all fun i => eqV (xs.getD i zero) (ys.getD i zero)
def sameL (xs ys : List V) : Bool := decide (xs.length = ys.length) && eqTo xs ys xs.length
theorem eqTo_next (xs ys : List V) (j : Nat) : eqTo xs ys (j + 1) = (eqTo xs ys j && eqV (xs.getD j zero) (ys.getD j zero)) := by
  unfold eqTo
  rw [List.range_succ, List.all_append]
  simp
theorem eqTo_stop (xs ys : List V) (j : Nat) (h : j < xs.length) (hs : eqV (xs.getD j zero) (ys.getD j zero) = false) : eqTo xs ys xs.length = false := by
  unfold eqTo
  rw [List.all_eq_false]
  exact ⟨j, List.mem_range.2 h, by rw [hs]; simp⟩

set_option maxRecDepth 100000 in
theorem neq_run (x y : V) (w : World) : (binOp .neq 31 x.val y.val).run Try.prog w = .ok (.bool (!(eqV x y))) w := by
  unfold V.val
  rw [run_neq_struct]
  have hu : Try.prog.underlying 31 = some (.struct (Try.prog.fieldsOf 31)) := by kernel_rfl
  have hp : Try.prog.stoodInHeld 31 = false := by kernel_rfl
  rw [run_equalIn_agg w 9999 31 _ _ hu hp]
  simp only [Program.fieldsOf, Try.underlying31]
  simp [Op.eqFields, go_sem, Try.underlying2, Try.underlying9]
  unfold eqV
  by_cases h0 : x.f0 = y.f0 <;> by_cases h1 : x.f1.toList = y.f1.toList <;> by_cases h2 : x.f2 = y.f2 <;> simp [h0, h1, h2]
theorem eq_guard : Try.prog.eqGuardType Try.prog.depth 31 = false := by kernel_rfl

set_option maxRecDepth 100000 in
set_option maxHeartbeats 1000000 in
theorem equal_full (g g' cap cap' : Nat) (xs ys : List V) (w : World) (hb : xs.length ≤ 1048577) (hl : xs.length = ys.length) (h1 : Row w g xs) (h2 : Row w g' ys) :
    Calls Try.prog 12 #[.slice (some ⟨g, 0, none⟩) xs.length cap, .slice (some ⟨g', 0, none⟩) ys.length cap'] w fun e w' => e = .returned (.bool (eqTo xs ys xs.length)) ∧ Below w.heap.size w w' := by
  have H1 := Lib.hid h1
  have H2 := Lib.hid h2
  have KN := Lib.hid (eqTo_next xs ys)
  have KS := Lib.hid (eqTo_stop xs ys)
  clear h1 h2
  rw [← hl]
  have HL := Lib.hid hl
  clear hl
  go_enter Try.func12, Try.ntmps12
  go_wp2_with fail
  go_loopg [13] (xs.length + 1) (fun kx s13 wr => ∃ j : Nat, s13 = .int .i64 (j : Int) ∧ j ≤ xs.length ∧ kx = xs.length + 1 - j ∧ Hid (eqTo xs ys j = true) ∧ Hid (Below w.heap.size w wr))
  case atStart => exact ⟨0, rfl, Nat.zero_le _, rfl, Lib.hid rfl, Lib.hid (Below.refl _ _)⟩
  case round =>
    obtain ⟨j, rfl, hj, rfl, HO, HB⟩ := hrel
    by_cases hlt : j < xs.length
    · have hlt' : j < ys.length := by rw [← HL.out]; exact hlt
      obtain ⟨c0, c1, c2⟩ := (H1.out.below HB.out).at j hlt
      obtain ⟨d0, d1, d2⟩ := (H2.out.below HB.out).at j hlt'
      have HN := Lib.hid (KN.out j)
      have HS := Lib.hid (KS.out j hlt)
      rw [getD_at xs j hlt, getD_at ys j hlt'] at HN HS
      generalize xs[j] = x at *
      generalize ys[j] = y at *
      have NE : ∀ w, (binOp .neq 31 (.agg #[.int .i64 x.f0, .string x.f1, .int .i64 x.f2]) (.agg #[.int .i64 y.f0, .string y.f1, .int .i64 y.f2])).run Try.prog w = .ok (.bool (!(eqV x y))) w := fun w => neq_run x y w
      have EG : ∀ (p q : Operand) (w : World), (eqGuard .neq 31 p q (.agg #[.int .i64 x.f0, .string x.f1, .int .i64 x.f2]) (.agg #[.int .i64 y.f0, .string y.f1, .int .i64 y.f2])).run Try.prog w = .ok () w := fun p q w => run_eqGuard_agg w .neq 31 p q _ _ eq_guard
      generalize eqV x y = q at *
      obtain ⟨x0, x1, x2⟩ := x
      obtain ⟨y0, y1, y2⟩ := y
      simp only at c0 c1 c2 d0 d1 d2 NE EG
      have j0 : (0 : Int) ≤ (j : Int) := by omega
      have j1 : (j : Int) < (xs.length : Int) := by omega
      cases q with
      | true =>
        have HT : Hid (eqTo xs ys (j + 1) = true) := Lib.hid (by rw [HN.out, HO.out]; rfl)
        clear HN HS KN KS
        go_wp2_with fail
        go_quiet (fail)
        rename Nat => q1
        go_wp2_with fail
        go_roundg (xs.length + 1 - (j + 1))
        case measure => omega
        case rel => exact ⟨j + 1, by go_num, by omega, by omega, HT, Lib.hid (bel_drewNS HB.out _)⟩
      | false =>
        have HR := Lib.hid (HS.out rfl)
        clear HN HS KN KS
        go_wp2_with fail
        go_quiet (fail)
        rename Nat => q1
        go_wp2_with fail
        go_ret
        exact ⟨ret_bool HR.out.symm, bel_drewNS HB.out _⟩
    · obtain rfl : j = xs.length := by omega
      go_wp2_with fail
      go_ret
      exact ⟨ret_bool HO.out.symm, HB.out⟩
set_option maxHeartbeats 400000 in
theorem equal_any (g g' cap cap' : Nat) (xs ys : List V) (w : World) (hb : xs.length ≤ 1048577) (hb2 : ys.length ≤ 1048577) (h1 : Row w g xs) (h2 : Row w g' ys) :
    Calls Try.prog 12 #[.slice (some ⟨g, 0, none⟩) xs.length cap, .slice (some ⟨g', 0, none⟩) ys.length cap'] w fun e w' => e = .returned (.bool (sameL xs ys)) ∧ Below w.heap.size w w' := by
  by_cases hl : xs.length = ys.length
  · have : sameL xs ys = eqTo xs ys xs.length := by unfold sameL; simp [hl]
    rw [this]
    exact equal_full g g' cap cap' xs ys w hb hl h1 h2
  · have : sameL xs ys = false := by unfold sameL; simp [hl]
    rw [this]
    have hne : ((xs.length : Int) = (ys.length : Int)) = False := by simp; omega
    clear h1 h2 this
    go_enter Try.func12, Try.ntmps12
    go_wp2_with fail
    go_ret
    exact ⟨rfl, Below.refl _ _⟩

theorem any_at {p : V → Bool} {zs : List V} (j : Nat) (hj : j < zs.length) (h : p zs[j] = true) : zs.any p = true := by
  rw [List.any_eq_true]
  exact ⟨zs[j], List.getElem_mem hj, h⟩
theorem any_none {p : V → Bool} {zs : List V} (h : ∀ j, (hj : j < zs.length) → p zs[j] = false) : zs.any p = false := by
  rw [List.any_eq_false]
  intro x hx
  obtain ⟨j, hj, rfl⟩ := List.getElem_of_mem hx
  rw [h j hj]; simp
theorem Row.src {w : World} {g : Nat} {zs : List V} (h : Row w g zs) : ∀ j u, (flat zs)[j]? = some u → w.cell? ((⟨g, 0, none⟩ : Addr).add j) = some u := by
  intro j u hj
  have ea : ((⟨g, 0, none⟩ : Addr).add j) = ⟨g, j, none⟩ := by unfold Addr.add; split <;> simp_all
  have hl : j < zs.length * 3 := by
    rcases (show j < zs.length * 3 ∨ zs.length * 3 ≤ j by omega) with c | c
    · exact c
    · rw [List.getElem?_eq_none (by rw [flat_len]; exact c)] at hj; cases hj
  have hk : j / 3 < zs.length := by omega
  have h1 := flat_get zs (j / 3) hk (j % 3) (by omega)
  rw [show j / 3 * 3 + j % 3 = j by omega] at h1
  obtain ⟨m, F, hF, hm, hc⟩ := h
  rw [ea, World.rowIs.cell hF (show j < m by omega), hc j hl]
  rw [h1] at hj
  injection hj with hj
  rw [← hj]
  unfold rowF
  rw [getD_at zs _ hk]
theorem nilP (g n cap : Nat) (w : World) : (binOp .eql 25 (.slice (some ⟨g, 0, none⟩) n cap) (.slice none 0 0)).run Try.prog w = .ok (.bool false) w := by kernel_rfl
end Go.Proofs.Ytpjccaapnglomaa.Ln
