/-
  Package slices on rows of Keys: IndexFunc, ContainsFunc, Equal, Clone; equality of two of them.
-/
import Derived.Test.YtdbocpcijkngpaaKyR
import Derived.RegionTactic
import Derived.Deep.QuietTactic
import Derived.Deep.LoopGhost
import Derived.Deep.Draws
import Derived.BigQuiet
import Derived.Laws.StructEq
import Derived.Shelf.Abstract
import Derived.Handy
namespace Go.Proofs.Ytdbocpcijkngpaa.Ky
open Go.RowKit
set_option linter.unusedVariables false

theorem bel_drewNS {B : Nat} {a w : World} (h : Below B a w) (n : Nat) : Below B a (w.drewN n) := ⟨h.os, h.tape, h.output, h.size, h.block⟩
/-- Two are equal. -/
def eqV (x y : V) : Bool := ((x.f0 == y.f0) && (x.f1 == y.f1))
theorem eqV_iff (x y : V) : eqV x y = true ↔ x = y := by
  obtain ⟨x0, x1⟩ := x
  obtain ⟨y0, y1⟩ := y
  simp [eqV]
def eqTo (xs ys : List V) (j : Nat) : Bool := (List.range j).all fun i => eqV (xs.getD i zero) (ys.getD i zero)
def sameL (xs ys : List V) : Bool := decide (xs.length = ys.length) && eqTo xs ys xs.length
theorem eqTo_next (xs ys : List V) (j : Nat) : eqTo xs ys (j + 1) = (eqTo xs ys j && eqV (xs.getD j zero) (ys.getD j zero)) := by
  unfold eqTo
  rw [List.range_succ, List.all_append]
  simp
theorem eqTo_stop (xs ys : List V) (j : Nat) (h : j < xs.length) (hs : eqV (xs.getD j zero) (ys.getD j zero) = false) : eqTo xs ys xs.length = false := by
  unfold eqTo
  rw [List.all_eq_false]
  exact ⟨j, List.mem_range.2 h, by rw [hs]; simp⟩

set_option maxRecDepth 100000 in
theorem neq_run (x y : V) (w : World) : (binOp .neq 48 x.val y.val).run Try.prog w = .ok (.bool (!(eqV x y))) w := by
  unfold V.val
  rw [run_neq_struct]
  have hu : Try.prog.underlying 48 = some (.struct (Try.prog.fieldsOf 48)) := by kernel_rfl
  have hp : Try.prog.stoodInHeld 48 = false := by kernel_rfl
  rw [run_equalIn_agg w 9999 48 _ _ hu hp]
  simp only [Program.fieldsOf, Try.underlying48]
  simp [Op.eqFields, go_sem, Try.underlying2]
  unfold eqV
  by_cases h0 : x.f0 = y.f0 <;> by_cases h1 : x.f1 = y.f1 <;> simp [h0, h1]
theorem eq_guard : Try.prog.eqGuardType Try.prog.depth 48 = false := by kernel_rfl

set_option maxRecDepth 100000 in
set_option maxHeartbeats 1000000 in
theorem equal_full (g g' cap cap' : Nat) (xs ys : List V) (w : World) (hb : xs.length ≤ 1048577) (hl : xs.length = ys.length) (h1 : Row w g xs) (h2 : Row w g' ys) :
    Calls Try.prog 66 #[.slice (some ⟨g, 0, none⟩) xs.length cap, .slice (some ⟨g', 0, none⟩) ys.length cap'] w fun e w' => e = .returned (.bool (eqTo xs ys xs.length)) ∧ Below w.heap.size w w' := by
  have H1 := Lib.hid h1
  have H2 := Lib.hid h2
  have KN := Lib.hid (eqTo_next xs ys)
  have KS := Lib.hid (eqTo_stop xs ys)
  clear h1 h2
  rw [← hl]
  have HL := Lib.hid hl
  clear hl
  go_enter Try.func66, Try.ntmps66
  go_wp2_with fail
  go_loopg [13] (xs.length + 1) (fun kx s13 wr => ∃ j : Nat, s13 = .int .i64 (j : Int) ∧ j ≤ xs.length ∧ kx = xs.length + 1 - j ∧ Hid (eqTo xs ys j = true) ∧ Hid (Below w.heap.size w wr))
  case atStart => exact ⟨0, rfl, Nat.zero_le _, rfl, Lib.hid rfl, Lib.hid (Below.refl _ _)⟩
  case round =>
    obtain ⟨j, rfl, hj, rfl, HO, HB⟩ := hrel
    by_cases hlt : j < xs.length
    · have hlt' : j < ys.length := by rw [← HL.out]; exact hlt
      obtain ⟨c0, c1⟩ := (H1.out.below HB.out).at j hlt
      obtain ⟨d0, d1⟩ := (H2.out.below HB.out).at j hlt'
      have HN := Lib.hid (KN.out j)
      have HS := Lib.hid (KS.out j hlt)
      rw [getD_at xs j hlt, getD_at ys j hlt'] at HN HS
      generalize xs[j] = x at *
      generalize ys[j] = y at *
      have NE : ∀ w, (binOp .neq 48 (.agg #[.int .i64 x.f0, .int .i64 x.f1]) (.agg #[.int .i64 y.f0, .int .i64 y.f1])).run Try.prog w = .ok (.bool (!(eqV x y))) w := fun w => neq_run x y w
      have EG : ∀ (p q : Operand) (w : World), (eqGuard .neq 48 p q (.agg #[.int .i64 x.f0, .int .i64 x.f1]) (.agg #[.int .i64 y.f0, .int .i64 y.f1])).run Try.prog w = .ok () w := fun p q w => run_eqGuard_agg w .neq 48 p q _ _ eq_guard
      generalize eqV x y = q at *
      obtain ⟨x0, x1⟩ := x
      obtain ⟨y0, y1⟩ := y
      simp only at c0 c1 d0 d1 NE EG
      have j0 : (0 : Int) ≤ (j : Int) := by omega
      have j1 : (j : Int) < (xs.length : Int) := by omega
      cases q with
      | true =>
        have HT : Hid (eqTo xs ys (j + 1) = true) := Lib.hid (by rw [HN.out, HO.out]; rfl)
        clear HN HS KN KS
        go_wp2_with fail
        go_quiet (fail)
        rename Nat => q1
        go_wp2_with fail
        go_roundg (xs.length + 1 - (j + 1))
        case measure => omega
        case rel => exact ⟨j + 1, by go_num, by omega, by omega, HT, Lib.hid (bel_drewNS HB.out _)⟩
      | false =>
        have HR := Lib.hid (HS.out rfl)
        clear HN HS KN KS
        go_wp2_with fail
        go_quiet (fail)
        rename Nat => q1
        go_wp2_with fail
        go_ret
        exact ⟨ret_bool HR.out.symm, bel_drewNS HB.out _⟩
    · obtain rfl : j = xs.length := by omega
      go_wp2_with fail
      go_ret
      exact ⟨ret_bool HO.out.symm, HB.out⟩
set_option maxHeartbeats 400000 in
theorem equal_any (g g' cap cap' : Nat) (xs ys : List V) (w : World) (hb : xs.length ≤ 1048577) (hb2 : ys.length ≤ 1048577) (h1 : Row w g xs) (h2 : Row w g' ys) :
    Calls Try.prog 66 #[.slice (some ⟨g, 0, none⟩) xs.length cap, .slice (some ⟨g', 0, none⟩) ys.length cap'] w fun e w' => e = .returned (.bool (sameL xs ys)) ∧ Below w.heap.size w w' := by
  by_cases hl : xs.length = ys.length
  · have : sameL xs ys = eqTo xs ys xs.length := by unfold sameL; simp [hl]
    rw [this]
    exact equal_full g g' cap cap' xs ys w hb hl h1 h2
  · have : sameL xs ys = false := by unfold sameL; simp [hl]
    rw [this]
    have hne : ((xs.length : Int) = (ys.length : Int)) = False := by simp; omega
    clear h1 h2 this
    go_enter Try.func66, Try.ntmps66
    go_wp2_with fail
    go_ret
    exact ⟨rfl, Below.refl _ _⟩

theorem any_at {p : V → Bool} {zs : List V} (j : Nat) (hj : j < zs.length) (h : p zs[j] = true) : zs.any p = true := by
  rw [List.any_eq_true]
  exact ⟨zs[j], List.getElem_mem hj, h⟩
theorem any_none {p : V → Bool} {zs : List V} (h : ∀ j, (hj : j < zs.length) → p zs[j] = false) : zs.any p = false := by
  rw [List.any_eq_false]
  intro x hx
  obtain ⟨j, hj, rfl⟩ := List.getElem_of_mem hx
  rw [h j hj]; simp
theorem Row.src {w : World} {g : Nat} {zs : List V} (h : Row w g zs) : ∀ j u, (flat zs)[j]? = some u → w.cell? ((⟨g, 0, none⟩ : Addr).add j) = some u := by
  intro j u hj
  have ea : ((⟨g, 0, none⟩ : Addr).add j) = ⟨g, j, none⟩ := by unfold Addr.add; split <;> simp_all
  have hl : j < zs.length * 2 := by
    rcases (show j < zs.length * 2 ∨ zs.length * 2 ≤ j by omega) with c | c
    · exact c
    · rw [List.getElem?_eq_none (by rw [flat_len]; exact c)] at hj; cases hj
  have hk : j / 2 < zs.length := by omega
  have h1 := flat_get zs (j / 2) hk (j % 2) (by omega)
  rw [show j / 2 * 2 + j % 2 = j by omega] at h1
  obtain ⟨m, F, hF, hm, hc⟩ := h
  rw [ea, World.rowIs.cell hF (show j < m by omega), hc j hl]
  rw [h1] at hj
  injection hj with hj
  rw [← hj]
  unfold rowF
  rw [getD_at zs _ hk]
theorem nilP (g n cap : Nat) (w : World) : (binOp .eql 27 (.slice (some ⟨g, 0, none⟩) n cap) (.slice none 0 0)).run Try.prog w = .ok (.bool false) w := by kernel_rfl
set_option maxRecDepth 100000 in
set_option maxHeartbeats 2000000 in
theorem clone_any (g cap : Nat) (zs : List V) (w : World) (hb : zs.length ≤ 1048577) (h1 : Row w g zs) :
    Calls Try.prog 109 #[.slice (some ⟨g, 0, none⟩) zs.length cap] w fun e w' => ∃ v, e = .returned v ∧ Own w' w.heap.size w'.heap.size v zs ∧ v ≠ .slice none 0 0 ∧ Below w.heap.size w w' := by
  have H1 := Lib.hid h1
  have HB0 := Lib.hid (Below.refl w.heap.size w)
  have NP := nilP
  clear h1
  obtain ⟨i0, hi, hzz⟩ := Option.map_eq_some_iff.1 info_rec
  simp only [Prod.mk.injEq] at hzz
  obtain ⟨hz0, hz1, hz2⟩ := hzz
  go_enter Try.func109, Try.ntmps109
  have own0 : (w.alloc (Obj.cells #[] 48)).ownsRow w.heap.size 48 2 (.slice (some ⟨w.heap.size, 0, none⟩) 0 0) 0 [] := World.ownsRow_made w #[] 0 HB0.out.size (Nat.zero_le _) rfl
  have hb2 : Below w.heap.size w (w.alloc (Obj.cells #[] 48)) := HB0.out.alloc HB0.out.size _
  have L1 : (flat zs).length = zs.length * 2 := flat_len zs
  have P1 := flat_one zs
  have S1 := (H1.out.below hb2).src
  have hm1 : 0 + zs.length ≤ maxLen := by unfold maxLen; omega
  have hy1 : (0 + zs.length) * 16 ≤ 140737488355328 := by omega
  go_wp2_with (at_builtin; refine wpList_append_own _ rfl _ _ 27 rfl w.heap.size 48 i0 (.agg #[.int .i64 0, .int .i64 0]) 2 16 Try.underlying27 hi hz0 hz1 hz2 rfl (by decide) _ _ _ rfl own0 ⟨g, 0, none⟩ zs.length _ (flat zs) rfl L1 S1 P1 hm1 hy1 hb2.size ?_; intro v3 w3 hown3 hgrow3 hnil3; have hb3 : Below w.heap.size w w3 := hb2.grown hgrow3 hb2.size (fun kk hk => (own0.lt kk hk).1); have O3 : Hid (Own w3 w.heap.size w3.heap.size v3 zs) := Lib.hid (Own.mk (by simpa using hown3)); have N3 : Hid (v3 ≠ .slice none 0 0) := Lib.hid (fun e => by have := (hnil3.1 e).1; cases this))
  have HB3 := Lib.hid hb3
  clear hb3 hgrow3 hown3 own0 hb2 L1 P1 S1 hi hz0 hz1 hz2 hnil3
  go_returns
  exact ⟨_, rfl, O3.out, N3.out, HB3.out⟩
end Go.Proofs.Ytdbocpcijkngpaa.Ky
