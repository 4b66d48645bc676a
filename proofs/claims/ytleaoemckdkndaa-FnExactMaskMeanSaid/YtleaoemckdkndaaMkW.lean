/-
  MaskAt (packages impl and spec).
-/
import Derived.Test.YtleaoemckdkndaaMkT
namespace Go.Proofs.Ytleaoemckdkndaa.Mk
open Go.RowKit
set_option linter.unusedVariables false

theorem row_bd {zs : List V} (hg : masksB zs = true) (j : Nat) (hj : j < zs.length) : zs[j].good = true := by
  unfold masksB at hg
  simp only [Bool.and_eq_true, List.all_eq_true] at hg
  exact hg.2 _ (List.getElem_mem hj)
theorem lvN_bd {zs : List V} (hg : masksB zs = true) (a h : Int) : ∀ j, j ≤ zs.length → 0 ≤ lvN zs a h j ∧ lvN zs a h j ≤ 1000 := by
  intro j
  induction j with
  | zero => intro _; exact ⟨by show (0 : Int) ≤ 1000; omega, by show (1000 : Int) ≤ 1000; omega⟩
  | succ j ih =>
    intro hj
    rw [lvN_next zs a h j (by omega)]
    have := maskB_bd (row_bd hg j (by omega))
    exact lv1_bd (ih (by omega)) (by omega)
theorem lv1_yes {v a h : Int} {x : V} (e : hasB x.f0 x.f1 x.f2 x.f3 a h = true) : lv1 v x a h = v * x.f4 / 1000 := by unfold lv1; rw [if_pos e]
theorem lv1_no {v a h : Int} {x : V} (e : hasB x.f0 x.f1 x.f2 x.f3 a h = false) : lv1 v x a h = v := by unfold lv1; rw [if_neg (by simp [e])]
theorem td_lv {m : Int} (h : 0 ≤ m) : m.tdiv 1000 = m / 1000 := Int.tdiv_eq_ediv_of_nonneg h

set_option maxRecDepth 100000 in
set_option maxHeartbeats 4000000 in
theorem levelBehind_any (g cap : Nat) (zs : List V) (a h : Int) (w : World) (hb : zs.length ≤ 1048577) (h1 : Row w g zs) (hg : masksB zs = true) (ha : 0 ≤ a ∧ a ≤ 359999) :
    Calls Try.prog 109 #[.slice (some ⟨g, 0, none⟩) zs.length cap, .agg #[.int .i64 a, .int .i64 h]] w fun e w' => e = .returned (.int .i64 (levelB zs a h)) ∧ Below w.heap.size w w' := by
  have H1 := Lib.hid h1
  have hlg := h1.lt
  have LB := Lib.hid (lvN_bd hg a h)
  have LN := Lib.hid (lvN_next zs a h)
  have GB := Lib.hid (fun j hj => maskB_bd (row_bd hg j hj))
  have LA : Hid (lvN zs a h zs.length = levelB zs a h) := Lib.hid rfl
  clear h1
  generalize levelB zs a h = r at *
  go_enter Try.func109, Try.ntmps109
  go_wp2_with fail
  have hz : w.heap.size < (w.alloc (.cells #[.int .i64 a, .int .i64 h] 133)).heap.size := by simp
  have HB0 : Hid (Below w.heap.size w (w.alloc (.cells #[.int .i64 a, .int .i64 h] 133))) := Lib.hid ((Below.refl _ _).alloc (Nat.le_refl _) _)
  have C0 : Hid ((w.alloc (.cells #[.int .i64 a, .int .i64 h] 133)).cell? ⟨w.heap.size, 0, none⟩ = some (.int .i64 a) ∧ (w.alloc (.cells #[.int .i64 a, .int .i64 h] 133)).cell? ⟨w.heap.size, 1, none⟩ = some (.int .i64 h)) := Lib.hid ⟨by simp, by simp⟩
  obtain ⟨W0, hW0⟩ : ∃ W, W = w.alloc (.cells #[.int .i64 a, .int .i64 h] 133) := ⟨_, rfl⟩
  rw [← hW0] at hz HB0 C0 ⊢
  clear hW0
  go_loopg [10, 5] (zs.length + 1) (fun kx s10 s5 wr => ∃ (j : Nat) (v : Int), s10 = .int .i64 (j : Int) ∧ s5 = .int .i64 v ∧ j ≤ zs.length ∧ kx = zs.length + 1 - j ∧ Hid (lvN zs a h j = v) ∧ Hid (Below W0.heap.size W0 wr))
  case atStart => exact ⟨0, 1000, rfl, rfl, Nat.zero_le _, rfl, Lib.hid rfl, Lib.hid (Below.refl _ _)⟩
  case round =>
    obtain ⟨j, v, rfl, rfl, hj, rfl, HO, HB⟩ := hrel
    by_cases hlt : j < zs.length
    · obtain ⟨c0, c1, c2, c3, c4⟩ := (H1.out.below (HB0.out.trans (HB.out.mono HB0.out.size))).at j hlt
      have vb := LB.out j hj
      rw [HO.out] at vb
      have HN := Lib.hid (LN.out j hlt)
      rw [HO.out] at HN
      have gb := GB.out j hlt
      generalize zs[j] = x at *
      have Y := Lib.hid (fun (e : hasB x.f0 x.f1 x.f2 x.f3 a h = true) => lv1_yes (v := v) e)
      have N := Lib.hid (fun (e : hasB x.f0 x.f1 x.f2 x.f3 a h = false) => lv1_no (v := v) e)
      obtain ⟨x0, x1, x2, x3, x4⟩ := x
      simp only at c0 c1 c2 c3 c4 HN gb Y N
      have S := Lib.hid (fun w => has_any x0 x1 x2 x3 x4 a h (by omega) (by omega) ha w)
      have mb := mul_lv vb ⟨gb.2.2.2.2.2.1, gb.2.2.2.2.2.2⟩
      have q0 := td_lv mb.1
      obtain ⟨m, hm⟩ : ∃ m, m = v * x4 := ⟨_, rfl⟩
      have HM := Lib.hid hm
      rw [← hm] at mb q0
      clear hm gb
      have j0 : (0 : Int) ≤ (j : Int) := by omega
      have j1 : (j : Int) < (zs.length : Int) := by omega
      have d0 : wr.cell? ⟨w.heap.size, 0, none⟩ = some (.int .i64 a) := (HB.out.cell (p := ⟨w.heap.size, 0, none⟩) hz).trans C0.out.1
      have d1 : wr.cell? ⟨w.heap.size, 1, none⟩ = some (.int .i64 h) := (HB.out.cell (p := ⟨w.heap.size, 1, none⟩) hz).trans C0.out.2
      have hzr : w.heap.size < wr.heap.size := by have := HB.out.size; omega
      have HB1 : Hid (Below W0.heap.size W0 (wr.alloc (.cells #[.int .i64 x0, .int .i64 x1, .int .i64 x2, .int .i64 x3, .int .i64 x4] 126))) := Lib.hid (HB.out.alloc HB.out.size _)
      cases hs : hasB x0 x1 x2 x3 a h with
      | true =>
        rw [hs] at S
        have HN2 : Hid (lvN zs a h (j + 1) = v * x4 / 1000) := Lib.hid (by rw [HN.out, Y.out hs])
        clear hs HN Y N
        go_wp2_with fail
        refine (S.out _).mono ?_
        rintro e w2 ⟨rfl, hb2⟩
        have c4' : w2.cell? ⟨wr.heap.size, 4, none⟩ = some (.int .i64 x4) := (hb2.cell (p := ⟨wr.heap.size, 4, none⟩) (by simp)).trans (by simp)
        have HB2 := Lib.hid (HB1.out.trans (hb2.mono HB1.out.size))
        clear hb2 c0 c1 c2 c3 c4 d0 d1
        rw [HM.out] at mb q0
        go_wp2_with fail
        go_roundg (zs.length + 1 - (j + 1))
        case measure => omega
        case rel => exact ⟨j + 1, v * x4 / 1000, by go_num, by first | rfl | rw [q0], by omega, by omega, HN2, HB2⟩
      | false =>
        rw [hs] at S
        have HN2 : Hid (lvN zs a h (j + 1) = v) := Lib.hid (by rw [HN.out, N.out hs])
        clear hs HN Y N
        go_wp2_with fail
        refine (S.out _).mono ?_
        rintro e w2 ⟨rfl, hb2⟩
        have HB2 := Lib.hid (HB1.out.trans (hb2.mono HB1.out.size))
        clear hb2 c0 c1 c2 c3 c4 d0 d1
        go_wp2_with fail
        go_roundg (zs.length + 1 - (j + 1))
        case measure => omega
        case rel => exact ⟨j + 1, v, by go_num, rfl, by omega, by omega, HN2, HB2⟩
    · obtain rfl : j = zs.length := by omega
      have HR := Lib.hid (HO.out.symm.trans LA.out)
      have HB3 := Lib.hid (HB0.out.trans (HB.out.mono HB0.out.size))
      go_wp2_with fail
      go_ret
      exact ⟨ret_int HR.out, HB3.out⟩


/-- What MaskAt answers. -/
def maskAtV (zs : List V) (a h : Int) : Value := if masksB zs = true then (if upB a h = true then .tuple #[.int .i64 (levelB zs a h), .int .i64 0] else .tuple #[.int .i64 0, .int .i64 2]) else .tuple #[.int .i64 0, .int .i64 1]
theorem maskAtV_form (zs : List V) (a h : Int) : ∃ v k : Int, maskAtV zs a h = .tuple #[.int .i64 v, .int .i64 k] := by
  unfold maskAtV
  split
  · split <;> exact ⟨_, _, rfl⟩
  · exact ⟨_, _, rfl⟩

set_option maxRecDepth 100000 in
set_option maxHeartbeats 16000000 in
theorem l12Mask_any (g cap : Nat) (zs : List V) (a h : Int) (w : World) (hb : zs.length ≤ 1048577) (h1 : Row w g zs) (hg : masksB zs = true) (ha : 0 ≤ a ∧ a ≤ 359999) :
    Calls Try.prog 103 #[.slice (some ⟨g, 0, none⟩) zs.length cap, .int .i64 a, .int .i64 h] w fun e w' => e = .returned (.int .i64 (levelB zs a h)) ∧ Below w.heap.size w w' := by
  have H1 := Lib.hid h1
  have hlg := h1.lt
  have LB := Lib.hid (lvN_bd hg a h)
  have LN := Lib.hid (lvN_next zs a h)
  have GB := Lib.hid (fun j hj => maskB_bd (row_bd hg j hj))
  have LA : Hid (lvN zs a h zs.length = levelB zs a h) := Lib.hid rfl
  clear h1
  generalize levelB zs a h = r at *
  go_enter Try.func103, Try.ntmps103
  go_wp2_with fail
  go_loopg [8, 7] (zs.length + 1) (fun kx s8 s7 wr => ∃ (j : Nat) (v : Int), s8 = .int .i64 (j : Int) ∧ s7 = .int .i64 v ∧ j ≤ zs.length ∧ kx = zs.length + 1 - j ∧ Hid (lvN zs a h j = v) ∧ Hid (Below w.heap.size w wr))
  case atStart => exact ⟨0, 1000, rfl, rfl, Nat.zero_le _, rfl, Lib.hid rfl, Lib.hid (Below.refl _ _)⟩
  case round =>
    obtain ⟨j, v, rfl, rfl, hj, rfl, HO, HB⟩ := hrel
    by_cases hlt : j < zs.length
    · obtain ⟨c0, c1, c2, c3, c4⟩ := (H1.out.below HB.out).at j hlt
      have vb := LB.out j hj
      rw [HO.out] at vb
      have HN := Lib.hid (LN.out j hlt)
      rw [HO.out] at HN
      have gb := GB.out j hlt
      generalize zs[j] = x at *
      have Y := Lib.hid (fun (e : hasB x.f0 x.f1 x.f2 x.f3 a h = true) => lv1_yes (v := v) e)
      have N := Lib.hid (fun (e : hasB x.f0 x.f1 x.f2 x.f3 a h = false) => lv1_no (v := v) e)
      have HE := Lib.hid (hasB_eq x.f0 x.f1 x.f2 x.f3 a h gb.1 gb.2.1 ha)
      obtain ⟨x0, x1, x2, x3, x4⟩ := x
      simp only at c0 c1 c2 c3 c4 HN gb Y N HE
      rw [HE.out] at Y N
      unfold roundB at Y N
      have mb := mul_lv vb ⟨gb.2.2.2.2.2.1, gb.2.2.2.2.2.2⟩
      have q0 := td_lv mb.1
      clear gb HE
      have j0 : (0 : Int) ≤ (j : Int) := by omega
      have j1 : (j : Int) < (zs.length : Int) := by omega
      have HB1 : Hid (Below w.heap.size w (wr.alloc (.cells #[.int .i64 x0, .int .i64 x1, .int .i64 x2, .int .i64 x3, .int .i64 x4] 126))) := Lib.hid (HB.out.alloc HB.out.size _)
      by_cases hA : x0 ≤ a <;> by_cases hB : a ≤ x1 <;> by_cases hC : x1 < x0 <;> by_cases hD : x2 ≤ h <;> by_cases hE : h ≤ x3
      all_goals first
        | (exfalso; omega)
        | (have HN2 : Hid (lvN zs a h (j + 1) = v * x4 / 1000) := Lib.hid (by rw [HN.out, Y.out (by simp [hA, hB, hC, hD, hE])])
           clear HN Y N
           go_wp2_with fail
           go_roundg (zs.length + 1 - (j + 1))
           case measure => omega
           case rel => exact ⟨j + 1, v * x4 / 1000, by go_num, by first | rfl | rw [q0], by omega, by omega, HN2, HB1⟩)
        | (have HN2 : Hid (lvN zs a h (j + 1) = v) := Lib.hid (by rw [HN.out, N.out (by simp [hA, hB, hC, hD, hE])])
           clear HN Y N
           go_wp2_with fail
           go_roundg (zs.length + 1 - (j + 1))
           case measure => omega
           case rel => exact ⟨j + 1, v, by go_num, rfl, by omega, by omega, HN2, HB1⟩)
    · obtain rfl : j = zs.length := by omega
      have HR := Lib.hid (HO.out.symm.trans LA.out)
      go_wp2_with fail
      go_ret
      exact ⟨ret_int HR.out, HB.out⟩

end Go.Proofs.Ytleaoemckdkndaa.Mk
