/-
  Package slices on rows of Masks: IndexFunc, ContainsFunc, Equal, Clone; equality of two of them.
-/
import Derived.Test.YtleaoemckdkndaaMkR
import Derived.RegionTactic
import Derived.Deep.QuietTactic
import Derived.Deep.LoopGhost
import Derived.Deep.Draws
import Derived.BigQuiet
import Derived.Laws.StructEq
import Derived.Shelf.Abstract
import Derived.Handy
namespace Go.Proofs.Ytleaoemckdkndaa.Mk
open Go.RowKit
set_option linter.unusedVariables false

theorem bel_drewNS {B : Nat} {a w : World} (h : Below B a w) (n : Nat) : Below B a (w.drewN n) := ⟨h.os, h.tape, h.output, h.size, h.block⟩
/-- Two are equal. -/
def eqV (x y : V) : Bool := ((x.f0 == y.f0) && ((x.f1 == y.f1) && ((x.f2 == y.f2) && ((x.f3 == y.f3) && (x.f4 == y.f4)))))
theorem eqV_iff (x y : V) : eqV x y = true ↔ x = y := by
  obtain ⟨x0, x1, x2, x3, x4⟩ := x
  obtain ⟨y0, y1, y2, y3, y4⟩ := y
  simp [eqV]
def eqTo (xs ys : List V) (j : Nat) : Bool := (List.range j).all fun i => eqV (xs.getD i zero) (ys.getD i zero)
def sameL (xs ys : List V) : Bool := decide (xs.length = ys.length) && eqTo xs ys xs.length
theorem eqTo_next (xs ys : List V) (j : Nat) : eqTo xs ys (j + 1) = (eqTo xs ys j && eqV (xs.getD j zero) (ys.getD j zero)) := by
  unfold eqTo
  rw [List.range_succ, List.all_append]
  simp
theorem eqTo_stop (xs ys : List V) (j : Nat) (h : j < xs.length) (hs : eqV (xs.getD j zero) (ys.getD j zero) = false) : eqTo xs ys xs.length = false := by
  unfold eqTo
  rw [List.all_eq_false]
  exact ⟨j, List.mem_range.2 h, by rw [hs]; simp⟩

set_option maxRecDepth 100000 in
theorem neq_run (x y : V) (w : World) : (binOp .neq 126 x.val y.val).run Try.prog w = .ok (.bool (!(eqV x y))) w := by
  unfold V.val
  rw [run_neq_struct]
  have hu : Try.prog.underlying 126 = some (.struct (Try.prog.fieldsOf 126)) := by kernel_rfl
  have hp : Try.prog.stoodInHeld 126 = false := by kernel_rfl
  rw [run_equalIn_agg w 9999 126 _ _ hu hp]
  simp only [Program.fieldsOf, Try.underlying126]
  simp [Op.eqFields, go_sem, Try.underlying2]
  unfold eqV
  by_cases h0 : x.f0 = y.f0 <;> by_cases h1 : x.f1 = y.f1 <;> by_cases h2 : x.f2 = y.f2 <;> by_cases h3 : x.f3 = y.f3 <;> by_cases h4 : x.f4 = y.f4 <;> simp [h0, h1, h2, h3, h4]
theorem eq_guard : Try.prog.eqGuardType Try.prog.depth 126 = false := by kernel_rfl

theorem any_at {p : V → Bool} {zs : List V} (j : Nat) (hj : j < zs.length) (h : p zs[j] = true) : zs.any p = true := by
  rw [List.any_eq_true]
  exact ⟨zs[j], List.getElem_mem hj, h⟩
theorem any_none {p : V → Bool} {zs : List V} (h : ∀ j, (hj : j < zs.length) → p zs[j] = false) : zs.any p = false := by
  rw [List.any_eq_false]
  intro x hx
  obtain ⟨j, hj, rfl⟩ := List.getElem_of_mem hx
  rw [h j hj]; simp
set_option maxRecDepth 100000 in
set_option maxHeartbeats 2000000 in
theorem index_any (F : Nat) (cb : Array Value) (p : V → Bool) (eg : ∀ args w, (callFunc F args).run Try.prog w = .ok (.enter F args) w) (g cap : Nat) (zs : List V) (w : World) (hb : zs.length ≤ 1048577) (h1 : Row w g zs)
    (hf : ∀ (W : World) (j : Nat) (hj : j < zs.length), Below w.heap.size w W → Calls Try.prog F (#[zs[j].val] ++ cb) W fun e w' => e = .returned (.bool (p zs[j])) ∧ Below W.heap.size W w') :
    Calls Try.prog 141 #[.slice (some ⟨g, 0, none⟩) zs.length cap, .func (.func F) #[] cb] w fun e w' => ∃ r : Int, e = .returned (.int .i64 r) ∧ (decide (0 ≤ r) = zs.any p) ∧ Below w.heap.size w w' := by
  have H1 := Lib.hid h1
  have HF := Lib.hid hf
  clear h1 hf
  go_enter Try.func141, Try.ntmps141
  go_wp2_with fail
  go_loopg [8] (zs.length + 1) (fun kx s8 wr => ∃ j : Nat, s8 = .int .i64 (j : Int) ∧ j ≤ zs.length ∧ kx = zs.length + 1 - j ∧ Hid (∀ k, (hk : k < zs.length) → k < j → p zs[k] = false) ∧ Hid (Below w.heap.size w wr))
  case atStart => exact ⟨0, rfl, Nat.zero_le _, rfl, Lib.hid (fun _ _ h => absurd h (Nat.not_lt_zero _)), Lib.hid (Below.refl _ _)⟩
  case round =>
    obtain ⟨j, rfl, hj, rfl, HG, HB⟩ := hrel
    by_cases hlt : j < zs.length
    · obtain ⟨c0, c1, c2, c3, c4⟩ := (H1.out.below HB.out).at j hlt
      have NG := Lib.hid (HF.out wr j hlt HB.out)
      have AF := Lib.hid (fun h => any_at (p := p) (zs := zs) j hlt h)
      have NX : Hid (p zs[j] = false → ∀ k, (hk : k < zs.length) → k < j + 1 → p zs[k] = false) := Lib.hid (fun h k hk hkj => by
        by_cases c : k = j
        · subst c; exact h
        · exact HG.out k hk (by omega))
      generalize p zs[j] = q at *
      generalize zs[j] = x at *
      obtain ⟨x0, x1, x2, x3, x4⟩ := x
      unfold V.val at NG
      simp only at c0 c1 c2 c3 c4 NG
      have j0 : (0 : Int) ≤ (j : Int) := by omega
      have j1 : (j : Int) < (zs.length : Int) := by omega
      cases q with
      | true =>
        go_wp2_with (go_at_fn F; refine NG.out.mono ?_; rintro e w2 ⟨rfl, hb2⟩)
        have HB2 := Lib.hid (HB.out.trans (hb2.mono HB.out.size))
        clear hb2
        go_wp2_with fail
        go_ret
        exact ⟨_, rfl, by rw [AF.out (by first | rfl | trivial)]; simp, HB2.out⟩
      | false =>
        go_wp2_with (go_at_fn F; refine NG.out.mono ?_; rintro e w2 ⟨rfl, hb2⟩)
        have HB2 := Lib.hid (HB.out.trans (hb2.mono HB.out.size))
        clear hb2 c0 c1 c2 c3 c4 NG
        go_wp2_with fail
        go_roundg (zs.length + 1 - (j + 1))
        case measure => omega
        case rel => exact ⟨j + 1, by go_num, by omega, by omega, Lib.hid (NX.out (by first | rfl | trivial)), HB2⟩
    · obtain rfl : j = zs.length := by omega
      have AT := Lib.hid (any_none (p := p) (zs := zs) (fun k hk => HG.out k hk hk))
      go_wp2_with fail
      go_ret
      exact ⟨_, rfl, by rw [AT.out]; simp, HB.out⟩
set_option maxRecDepth 100000 in
theorem contains_any (F : Nat) (cb : Array Value) (p : V → Bool) (eg : ∀ args w, (callFunc F args).run Try.prog w = .ok (.enter F args) w) (g cap : Nat) (zs : List V) (w : World) (hb : zs.length ≤ 1048577) (h1 : Row w g zs)
    (hf : ∀ (W : World) (j : Nat) (hj : j < zs.length), Below w.heap.size w W → Calls Try.prog F (#[zs[j].val] ++ cb) W fun e w' => e = .returned (.bool (p zs[j])) ∧ Below W.heap.size W w') :
    Calls Try.prog 135 #[.slice (some ⟨g, 0, none⟩) zs.length cap, .func (.func F) #[] cb] w fun e w' => e = .returned (.bool (zs.any p)) ∧ Below w.heap.size w w' := by
  have I := Lib.hid (index_any F cb p eg g cap zs w hb h1 hf)
  clear h1 hf
  go_enter Try.func135, Try.ntmps135
  go_wp2_with fail
  refine I.out.mono ?_
  rintro e w1 ⟨r, rfl, hr, hb1⟩
  have HB1 := Lib.hid hb1
  have HR := Lib.hid hr
  clear hb1 hr
  go_wp2_with fail
  go_ret
  exact ⟨by rw [← HR.out]; rfl, HB1.out⟩

theorem Row.src {w : World} {g : Nat} {zs : List V} (h : Row w g zs) : ∀ j u, (flat zs)[j]? = some u → w.cell? ((⟨g, 0, none⟩ : Addr).add j) = some u := by
  intro j u hj
  have ea : ((⟨g, 0, none⟩ : Addr).add j) = ⟨g, j, none⟩ := by unfold Addr.add; split <;> simp_all
  have hl : j < zs.length * 5 := by
    rcases (show j < zs.length * 5 ∨ zs.length * 5 ≤ j by omega) with c | c
    · exact c
    · rw [List.getElem?_eq_none (by rw [flat_len]; exact c)] at hj; cases hj
  have hk : j / 5 < zs.length := by omega
  have h1 := flat_get zs (j / 5) hk (j % 5) (by omega)
  rw [show j / 5 * 5 + j % 5 = j by omega] at h1
  obtain ⟨m, F, hF, hm, hc⟩ := h
  rw [ea, World.rowIs.cell hF (show j < m by omega), hc j hl]
  rw [h1] at hj
  injection hj with hj
  rw [← hj]
  unfold rowF
  rw [getD_at zs _ hk]
theorem nilP (g n cap : Nat) (w : World) : (binOp .eql 67 (.slice (some ⟨g, 0, none⟩) n cap) (.slice none 0 0)).run Try.prog w = .ok (.bool false) w := by kernel_rfl
end Go.Proofs.Ytleaoemckdkndaa.Mk
