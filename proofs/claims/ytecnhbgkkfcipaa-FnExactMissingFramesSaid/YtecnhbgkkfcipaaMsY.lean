/-
  MissingFrames (package impl).
-/
import Derived.Test.YtecnhbgkkfcipaaMsW
import Derived.Test.YtecnhbgkkfcipaaMsX
import Derived.Deep.LoopGhost
import Derived.Deep.AppendLies
namespace Go.Proofs.Ytecnhbgkkfcipaa.Ms
open Go.RowKit
open Tc (bel_dT)
set_option linter.unusedVariables false

set_option maxRecDepth 100000 in
set_option maxHeartbeats 8000000 in
theorem implMiss_any (g cap : Nat) (zs : List Int) (w : World) (hb : zs.length ≤ 1048577) (h1 : Cells w g zs) :
    Calls Try.prog 41 #[.slice (some ⟨g, 0, none⟩) zs.length cap] w (IPost (missV zs) w) := by
  have R := Lib.hid (incr_any g cap zs w hb h1)
  have H1 := Lib.hid h1
  clear h1
  unfold missV
  cases hr : risB zs zs.length with
  | false =>
    rw [hr] at R
    rw [if_neg (by simp)]
    clear hr
    go_enter Try.func41, Try.ntmps41
    go_wp2_with fail
    refine R.out.mono ?_
    rintro e w1 ⟨rfl, hb1⟩
    have HB1 := Lib.hid hb1
    clear hb1
    go_wp2_with fail
    go_ret2
    exact ⟨_, rfl, In.Own.nil _ _ _ _ _, HB1.out⟩
  | true =>
    rw [hr] at R
    rw [if_pos rfl]
    have BD := Lib.hid (fun j hj => step_bd zs j (risB_at zs zs.length hr j hj))
    have GM := Lib.hid (fun j k h => gapL_mono zs j k h)
    have GN := Lib.hid (fun j => gapL_len_next zs j)
    clear hr
    obtain ⟨N, hN⟩ : ∃ N, N = gapL zs zs.length := ⟨_, rfl⟩
    have HN := Lib.hid hN
    obtain ⟨R2, hR2⟩ : ∃ R2 : List Int × Int, R2 = (if (gapL zs zs.length).length ≤ 64 then (gapL zs zs.length, 0) else ([], 5)) := ⟨_, rfl⟩
    rw [← hR2]
    have HR2 := Lib.hid hR2
    clear hN hR2
    obtain ⟨i0, hi, hzz⟩ := Option.map_eq_some_iff.1 info_i64m
    simp only [Prod.mk.injEq] at hzz
    obtain ⟨hz0, hz1, hz2⟩ := hzz
    have HI0 := Lib.hid hi
    have HZ0 := Lib.hid hz0
    have HZ1 := Lib.hid hz1
    have HZ2 := Lib.hid hz2
    clear hi hz0 hz1 hz2
    go_enter Try.func41, Try.ntmps41
    go_wp2_with fail
    refine R.out.mono ?_
    rintro e w1 ⟨rfl, hb1⟩
    have HB1 := Lib.hid hb1
    clear hb1
    have hsz := HB1.out.size
    obtain ⟨W2, hW2⟩ : ∃ W, W = w1.alloc (Obj.cells #[] 2) := ⟨_, rfl⟩
    have ST0 : Hid (St w W2 (.slice (some ⟨w1.heap.size, 0, none⟩) 0 0) []) := Lib.hid (by
      rw [hW2]
      exact ⟨World.ownsRow_lit (base := w.heap.size) (e := 2) (size := 1) w1 #[] 0 hsz (by decide) rfl, HB1.out.alloc hsz _⟩)
    have HW2 := Lib.hid hW2
    clear hW2
    go_wp2_with fail
    rw [← HW2.out]
    clear HW2 R
    go_loopg [4, 14] (zs.length + 1) (fun kx s4 s14 wr => ∃ (i m : Nat) (ad : Option Addr) (cap4 : Nat), s4 = .slice ad m cap4 ∧ s14 = .int .i64 (i : Int) ∧ Hid (m = (gapL zs i).length) ∧ m ≤ 64 ∧ i ≤ zs.length ∧ kx = zs.length + 1 - i ∧ Hid (St w wr (.slice ad m cap4) (gapL zs i)))
    case atStart => exact ⟨0, 0, _, _, rfl, rfl, Lib.hid rfl, by omega, Nat.zero_le _, rfl, ST0⟩
    case round =>
      obtain ⟨i, m, ad, cap4, rfl, rfl, HM, hm, hin, rfl, HST⟩ := hrel
      have HCL := Lib.hid (H1.out.below HST.out.below)
      by_cases hlt : i < zs.length
      · obtain ⟨p, hp⟩ : ∃ p, p = i - 1 := ⟨_, rfl⟩
        have c0 := HCL.out.2 i hlt
        have d0 := HCL.out.2 p (by omega)
        obtain ⟨⟨x0, x1⟩, hor⟩ := BD.out i hlt
        obtain ⟨⟨y0, y1⟩, _⟩ := BD.out p (by omega)
        have hgap : (gapN zs i = 0 ∧ gz zs p = gz zs i) ∨ (gapN zs i : Int) = gz zs i - gz zs p - 1 := by
          unfold gapN
          by_cases hz : i = 0
          · rw [if_pos hz, show p = i by omega]; exact Or.inl ⟨rfl, rfl⟩
          · rw [if_neg hz, ← hp]
            rcases hor with h | h
            · exact absurd h hz
            · rw [← hp] at h; exact Or.inr (by omega)
        have hgn := GN.out i
        have hgm := GM.out (i + 1) zs.length (by omega)
        rw [hgn, ← HM.out] at hgm
        have HGM := Lib.hid hgm
        have HNX : Hid (gapL zs (i + 1) = gapL zs i ++ rng (gz zs p + 1) (gapN zs i)) := Lib.hid (by rw [gapL_next, ← hp])
        have i0' : (0 : Int) ≤ (i : Int) := by omega
        have i1' : (i : Int) < (zs.length : Int) := by omega
        have hif : (if (i : Int) - 1 < 0 then (0 : Int) else (i : Int) - 1) = (p : Int) := by split <;> omega
        have k0 : (0 : Int) ≤ (p : Int) := by omega
        have k1 : (p : Int) < (zs.length : Int) := by omega
        have wk : IntKind.i64.wrap ((i : Int) - 1) = (i : Int) - 1 := IntWalk.i64_in _ (by omega)
        clear hgn hgm hor hp
        generalize hX : gz zs i = x at *
        generalize hY : gz zs p = y at *
        have HX := Lib.hid hX
        clear hX hY
        have HG := Lib.hid hgap
        clear hgap
        generalize gapN zs i = gn at *
        go_wp2_with fail
        clear c0 d0
        go_loopg [4, 7] (gn + 1) (fun kx s4 s7 wr => ∃ (j m' : Nat) (ad : Option Addr) (cap4 : Nat), s4 = .slice ad m' cap4 ∧ s7 = .int .i64 (y + 1 + (j : Int)) ∧ Hid (m' = (gapL zs i ++ rng (y + 1) j).length) ∧ m' ≤ 64 ∧ j ≤ gn ∧ kx = gn + 1 - j ∧ Hid (St w wr (.slice ad m' cap4) (gapL zs i ++ rng (y + 1) j)))
        case atStart => exact ⟨0, m, _, _, rfl, by go_num, Lib.hid (by rw [← HM.out.symm]; simp [rng]), hm, Nat.zero_le _, rfl, by simpa [rng] using HST⟩
        case round =>
          obtain ⟨j, m2, ad2, cap2, rfl, rfl, HM2, hm2, hj, rfl, HST⟩ := hrel
          have hmj : m2 = m + j := by rw [HM2.out, List.length_append, rng_len, ← HM.out]
          have hgn := HG.out
          by_cases hjl : j < gn
          · have hlt3 : y + 1 + (j : Int) < x := by omega
            have hd3 : decide (y + 1 + (j : Int) < x) = true := decide_eq_true hlt3
            have HMJ := Lib.hid hmj
            have HGN := Lib.hid hgn
            clear hmj hgn
            by_cases hfull : m2 = 64
            · have e : R2 = ([], 5) := by
                rw [HR2.out, if_neg]
                have := HGM.out
                have := HMJ.out
                omega
              have HE := Lib.hid e
              have hq : ((m2 : Int) == 64) = true := by rw [hfull]; rfl
              clear e hfull
              go_wp2_with fail
              go_ret2
              rw [HE.out]
              exact ⟨_, rfl, In.Own.nil _ _ _ _ _, HST.out.below⟩
            · have hq : ((m2 : Int) == 64) = false := beq_eq_false_iff_ne.2 (by omega)
              have hm64 : m2 < 64 := by omega
              clear hfull
              obtain ⟨ho, hB⟩ := HST.out
              rw [← HM2.out] at ho
              have hi := HI0.out
              have hz0 := HZ0.out
              have hz1 := HZ1.out
              have hz2 := HZ2.out
              have hsB := hB.size
              go_wp2_with (at_builtin; refine wpList_append_lies _ rfl _ _ 48 rfl w.heap.size 2 i0 (.int .i64 0) 1 8 Try.underlying48 hi hz0 hz1 hz2 rfl (by decide) _ _ _ rfl (ho.alloc _) ⟨wr.heap.size, 0, none⟩ 1 1 [.int .i64 (y + 1 + (j : Int))] rfl rfl ?c1 ?c2 ?c0 ?c3 ?c4 ?c5 (wr.heap.size + 1) ?c6 ?_)
              case c1 => exact one_cellM _ _ _
              case c2 => exact one_plainM _
              case c0 => omega
              case c3 => unfold maxLen; omega
              case c4 => omega
              case c5 => simp; omega
              case c6 => simp
              intro gg cap3 w8 hown' hgrow hlies hlt3
              have hgB := own_belowM ho hB hsB hgrow
              have ST8 : Hid (St w w8 (.slice (some ⟨gg, 0, none⟩) (m2 + 1) cap3) (gapL zs i ++ rng (y + 1) j ++ [y + 1 + (j : Int)])) := Lib.hid ⟨by
                rw [List.length_append, ← HM2.out]
                simp only [List.map_append, List.append_assoc, List.map_cons, List.map_nil, List.length_cons, List.length_nil] at hown' ⊢
                exact hown', hgB⟩
              have HM8 : Hid (m2 + 1 = (gapL zs i ++ rng (y + 1) j ++ [y + 1 + (j : Int)]).length) := Lib.hid (by rw [List.length_append, ← HM2.out]; rfl)
              clear hown' hgrow hlies ho hB hi hz0 hz1 hz2 hgB
              rw [List.append_assoc, ← rng_succ] at ST8 HM8
              have wj : IntKind.i64.wrap (y + 1 + (j : Int) + 1) = y + 1 + (j : Int) + 1 := IntWalk.i64_in _ (by omega)
              go_wp2_with fail
              go_roundg (gn + 1 - (j + 1))
              case measure => omega
              case rel => exact ⟨j + 1, m2 + 1, _, _, rfl, by first | go_num | (congr 1; omega), HM8, by omega, by omega, by omega, ST8⟩
          · have hjg : j = gn := by omega
            have hnl : ¬ y + 1 + (j : Int) < x := by omega
            have hd3 : decide (y + 1 + (j : Int) < x) = false := decide_eq_false hnl
            have ST9 : Hid (St w wr (.slice ad2 m2 cap2) (gapL zs (i + 1))) := Lib.hid (by rw [HNX.out, ← hjg]; exact HST.out)
            have HM9 : Hid (m2 = (gapL zs (i + 1)).length) := Lib.hid (by rw [HNX.out, ← hjg]; exact HM2.out)
            clear hgn hjg hmj
            go_wp2_with fail
            go_roundg (zs.length + 1 - (i + 1))
            case measure => omega
            case rel => exact ⟨i + 1, m2, _, _, rfl, by go_num, HM9, hm2, by omega, by omega, ST9⟩
      · obtain rfl : i = zs.length := by omega
        have e2 : R2 = (gapL zs zs.length, 0) := by
          rw [HR2.out, if_pos]
          rw [← HM.out]
          exact hm
        have HE := Lib.hid e2
        have HO := Lib.hid (In.Own.of_row HST.out.own)
        clear e2
        go_wp2_with fail
        go_ret2
        rw [HE.out]
        exact ⟨_, rfl, HO.out, HST.out.below⟩
end Go.Proofs.Ytecnhbgkkfcipaa.Ms
