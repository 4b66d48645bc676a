/-
  The magnitude of all stars together: the contracts of TotalMagnitude (both packages).
-/
import Derived.Test.YtoellkbmhpekdaaDoorStarI
import Derived.Test.YtoellkbmhpekdaaDoorMag
namespace Go.Proofs.YtoellkbmhpekdaaDoor
open Go.RowKit
set_option linter.unusedVariables false

theorem okL_good (zs : List StarV) (h : okL zs = true) : zs.length ≤ 24 ∧ ∀ j, (hj : j < zs.length) → zs[j].good = true := by
  unfold okL okZ at h
  rw [Bool.and_eq_true, decide_eq_true_eq, List.all_eq_true] at h
  refine ⟨h.2, fun j hj => ?_⟩
  have := h.1 j (List.mem_range.2 hj)
  unfold stepB at this
  rw [Bool.and_eq_true, getD_at zs j hj] at this
  exact this.1
theorem good_mag (x : StarV) (h : x.good = true) : -200 ≤ x.c ∧ x.c ≤ 800 := by
  unfold StarV.good starB at h
  simp only [Bool.and_eq_true] at h
  exact (inR_1 _ _ _).1 h.2.2.1
def magOf (x : StarV) : Nat := (800 - x.c).toNat
def sumF (zs : List StarV) : Nat → Int
  | 0 => 0
  | j + 1 => sumF zs j + fluxN (magOf (zs.getD j star0))
theorem sumF_bd (zs : List StarV) (h : ∀ j, (hj : j < zs.length) → zs[j].good = true) : ∀ j, j ≤ zs.length → 1000 * (j : Int) ≤ sumF zs j ∧ sumF zs j ≤ 148331088 * (j : Int)
  | 0, _ => by simp [sumF]
  | j + 1, hj => by
    have ih := sumF_bd zs h j (by omega)
    have hm := good_mag _ (h j (by omega))
    have hb := fluxN_bd (magOf (zs.getD j star0)) (by rw [getD_at zs j (by omega)]; unfold magOf; omega)
    have e : sumF zs (j + 1) = sumF zs j + fluxN (magOf (zs.getD j star0)) := rfl
    rw [e]
    omega
def totV (zs : List StarV) : Value :=
  if okL zs = true then (if zs.length = 0 then .tuple #[.int .i64 0, .int .i64 3] else (if magN (sumF zs zs.length) < 1001 then .tuple #[.int .i64 (800 - (magN (sumF zs zs.length) : Int)), .int .i64 0] else .tuple #[.int .i64 0, .int .i64 6])) else .tuple #[.int .i64 0, .int .i64 1]
theorem totV_form (zs : List StarV) : ∃ x y : Int, totV zs = .tuple #[.int .i64 x, .int .i64 y] := by
  unfold totV
  split
  · split
    · exact ⟨_, _, rfl⟩
    · split
      · exact ⟨_, _, rfl⟩
      · exact ⟨_, _, rfl⟩
  · exact ⟨_, _, rfl⟩

set_option maxRecDepth 100000 in
set_option maxHeartbeats 1000000 in
theorem implTot_any (g cap : Nat) (zs : List StarV) (w : World) (hb : zs.length ≤ 1048577) (h1 : Row w g zs) (hok : ∀ j, (h : j < zs.length) → zs[j].ok) (hf : FluxOK w) :
    Calls Tryd.prog 32 #[.slice (some ⟨g, 0, none⟩) zs.length cap] w fun e w' => e = .returned (totV zs) ∧ Below w.heap.size w w' := by
  have V := Lib.hid (validStars_any g cap zs w hb h1 hok)
  unfold totV
  cases ho : okL zs with
  | false =>
    rw [if_neg (by simp)]
    rw [ho] at V
    clear ho h1 hok hf
    go_enter Tryd.func32, Tryd.ntmps32
    go_wp2_with fail
    refine V.out.mono ?_
    rintro e w1 ⟨rfl, hb1⟩
    have HB1 := Lib.hid hb1
    clear hb1
    go_wp2_with fail
    go_ret2
    exact ⟨rfl, HB1.out⟩
  | true =>
    rw [if_pos rfl]
    obtain ⟨h24, hgood⟩ := okL_good zs ho
    rw [ho] at V
    clear ho
    by_cases h0 : zs.length = 0
    · rw [if_pos h0]
      have HZ := Lib.hid h0
      clear h1 hok hf hgood h0
      go_enter Tryd.func32, Tryd.ntmps32
      go_wp2_with fail
      refine V.out.mono ?_
      rintro e w1 ⟨rfl, hb1⟩
      have HB1 := Lib.hid hb1
      clear hb1
      have hz := HZ.out
      go_wp2_with fail
      go_ret2
      exact ⟨rfl, HB1.out⟩
    · rw [if_neg h0]
      have hz : ¬ (zs.length : Int) = 0 := by omega
      have HBZ : Hid (((zs.length : Int) == 0) = false) := Lib.hid (by simpa using h0)
      have hsb := sumF_bd zs hgood zs.length (Nat.le_refl _)
      obtain ⟨RV, hRV⟩ : ∃ RV, RV = (if magN (sumF zs zs.length) < 1001 then Value.tuple #[.int .i64 (800 - (magN (sumF zs zs.length) : Int)), .int .i64 0] else .tuple #[.int .i64 0, .int .i64 6]) := ⟨_, rfl⟩
      have hM : magV (sumF zs zs.length) = RV := by
        unfold magV
        rw [if_pos ((inR_1 _ _ _).2 (by omega)), hRV]
      obtain ⟨mx, my, hform⟩ := magV_form (sumF zs zs.length)
      rw [← hRV]
      have hRf : RV = .tuple #[.int .i64 mx, .int .i64 my] := hM.symm.trans hform
      have MG := Lib.hid (fun w hf => implMag_any (sumF zs zs.length) w hf)
      rw [hform] at MG
      rw [hRf]
      clear hRf hform hM hRV
      have H1 := Lib.hid h1
      have E := Lib.hid hf
      have GO := Lib.hid hgood
      have SB := Lib.hid (fun j hj => sumF_bd zs hgood j hj)
      clear h1 hf hgood hok
      go_enter Tryd.func32, Tryd.ntmps32
      go_wp2_with fail
      refine V.out.mono ?_
      rintro e w1 ⟨rfl, hb1⟩
      have HB1 := Lib.hid hb1
      clear hb1
      go_wp2_with fail
      rw [HBZ.out]
      clear hz h0
      go_loopg [4, 17] (zs.length + 1) (fun kx s4 s17 wr => ∃ j : Nat, s4 = .int .i64 (sumF zs j) ∧ s17 = .int .i64 (j : Int) ∧ j ≤ zs.length ∧ kx = zs.length + 1 - j ∧ Hid (Below w.heap.size w wr))
      case atStart => exact ⟨0, rfl, rfl, Nat.zero_le _, rfl, HB1⟩
      case round =>
        obtain ⟨j, rfl, rfl, hj, rfl, HB⟩ := hrel
        by_cases hlt : j < zs.length
        · obtain ⟨c0, c1, c2, c3, c4⟩ := (H1.out.below HB.out).at j hlt
          have hm := good_mag _ (GO.out j hlt)
          have hfb := fluxN_bd (magOf zs[j]) (by unfold magOf; omega)
          have hmo : ((magOf zs[j] : Nat) : Int) = 800 - zs[j].c := by unfold magOf; omega
          have FA := Lib.hid (fun w hf => fluxAbove_any (magOf zs[j]) (by unfold magOf; omega) w hf)
          rw [hmo] at FA
          have hs0 := SB.out j (by omega)
          have hsn : sumF zs (j + 1) = sumF zs j + fluxN (magOf zs[j]) := by show sumF zs j + fluxN (magOf (zs.getD j star0)) = _; rw [getD_at zs j hlt]
          have HN := Lib.hid hsn
          clear hmo hsn
          generalize fluxN (magOf zs[j]) = z at *
          generalize zs[j] = x at *
          obtain ⟨xs, xa, xb, xc, xd⟩ := x
          simp only at c0 c1 c2 c3 c4 FA hm
          generalize sumF zs j = s at *
          have j0 : (0 : Int) ≤ (j : Int) := by omega
          have j1 : (j : Int) < (zs.length : Int) := by omega
          go_wp2_with fail
          refine (FA.out _ (E.out.below ((HB.out).alloc HB.out.size _))).mono ?_
          rintro e w2 ⟨rfl, hb2⟩
          have HB2 := Lib.hid ((HB.out.alloc HB.out.size _).trans (hb2.mono (HB.out.alloc HB.out.size _).size))
          clear hb2
          go_wp2_with fail
          go_roundg (zs.length + 1 - (j + 1))
          case measure => omega
          case rel => exact ⟨j + 1, congrArg (Value.int .i64) HN.out.symm, by go_num, by omega, by omega, HB2⟩
        · obtain rfl : j = zs.length := by omega
          go_wp2_with fail
          refine (MG.out _ (E.out.below HB.out)).mono ?_
          rintro e w2 ⟨rfl, hb2⟩
          have HB2 := Lib.hid (HB.out.trans (hb2.mono HB.out.size))
          clear hb2
          go_wp2_with fail
          go_ret2
          exact ⟨rfl, HB2.out⟩

set_option maxRecDepth 100000 in
set_option maxHeartbeats 1000000 in
theorem specTot_any (g cap : Nat) (zs : List StarV) (w : World) (hb : zs.length ≤ 1048577) (h1 : Row w g zs) :
    Calls Tryd.prog 31 #[.slice (some ⟨g, 0, none⟩) zs.length cap] w fun e w' => e = .returned (totV zs) ∧ Below w.heap.size w w' := by
  have V := Lib.hid (l05Ok_any g cap zs w hb h1)
  unfold totV
  cases ho : okL zs with
  | false =>
    rw [if_neg (by simp)]
    rw [ho] at V
    clear ho h1
    go_enter Tryd.func31, Tryd.ntmps31
    go_wp2_with fail
    refine V.out.mono ?_
    rintro e w1 ⟨rfl, hb1⟩
    have HB1 := Lib.hid hb1
    clear hb1
    go_wp2_with fail
    go_ret2
    exact ⟨rfl, HB1.out⟩
  | true =>
    rw [if_pos rfl]
    obtain ⟨h24, hgood⟩ := okL_good zs ho
    rw [ho] at V
    clear ho
    by_cases h0 : zs.length = 0
    · rw [if_pos h0]
      have HZ := Lib.hid h0
      clear h1 hgood h0
      go_enter Tryd.func31, Tryd.ntmps31
      go_wp2_with fail
      refine V.out.mono ?_
      rintro e w1 ⟨rfl, hb1⟩
      have HB1 := Lib.hid hb1
      clear hb1
      have hz := HZ.out
      go_wp2_with fail
      go_ret2
      exact ⟨rfl, HB1.out⟩
    · rw [if_neg h0]
      have hz : ¬ (zs.length : Int) = 0 := by omega
      have HBZ : Hid (((zs.length : Int) == 0) = false) := Lib.hid (by simpa using h0)
      have hsb := sumF_bd zs hgood zs.length (Nat.le_refl _)
      have MG := Lib.hid (fun w => l05Mag_any (sumF zs zs.length) w)
      have hle := magN_le (sumF zs zs.length)
      have H1 := Lib.hid h1
      have GO := Lib.hid hgood
      have SB := Lib.hid (fun j hj => sumF_bd zs hgood j hj)
      clear h1 hgood
      obtain ⟨n, hn⟩ : ∃ n, n = magN (sumF zs zs.length) := ⟨_, rfl⟩
      rw [← hn] at MG hle ⊢
      clear hn
      by_cases hn : n < 1001
      · rw [if_pos hn]
        have hge : ¬ 800 - (n : Int) < -200 := by omega
        go_enter Tryd.func31, Tryd.ntmps31
        go_wp2_with fail
        refine V.out.mono ?_
        rintro e w1 ⟨rfl, hb1⟩
        have HB1 := Lib.hid hb1
        clear hb1
        go_wp2_with fail
        rw [HBZ.out]
        clear hz h0
        go_loopg [4, 5] (zs.length + 1) (fun kx s4 s5 wr => ∃ j : Nat, s4 = .int .i64 (sumF zs j) ∧ s5 = .int .i64 (j : Int) ∧ j ≤ zs.length ∧ kx = zs.length + 1 - j ∧ Hid (Below w.heap.size w wr))
        case atStart => exact ⟨0, rfl, rfl, Nat.zero_le _, rfl, HB1⟩
        case round =>
          obtain ⟨j, rfl, rfl, hj, rfl, HB⟩ := hrel
          by_cases hlt : j < zs.length
          · have c3 := ((H1.out.below HB.out).at j hlt).c3
            have hm := good_mag _ (GO.out j hlt)
            have hfb := fluxN_bd (magOf zs[j]) (by unfold magOf; omega)
            have FA := Lib.hid (fun w => l05Flux_any (magOf zs[j]) (by unfold magOf; omega) zs[j].c (by unfold magOf; omega) w)
            have hs0 := SB.out j (by omega)
            have hsn : sumF zs (j + 1) = sumF zs j + fluxN (magOf zs[j]) := by show sumF zs j + fluxN (magOf (zs.getD j star0)) = _; rw [getD_at zs j hlt]
            have HN := Lib.hid hsn
            clear hsn
            generalize fluxN (magOf zs[j]) = z at *
            generalize zs[j].c = xc at *
            generalize sumF zs j = s at *
            have j0 : (0 : Int) ≤ (j : Int) := by omega
            have j1 : (j : Int) < (zs.length : Int) := by omega
            go_wp2_with fail
            refine (FA.out _).mono ?_
            rintro e w2 ⟨rfl, hb2⟩
            have HB2 := Lib.hid (HB.out.trans (hb2.mono HB.out.size))
            clear hb2
            go_wp2_with fail
            go_roundg (zs.length + 1 - (j + 1))
            case measure => omega
            case rel => exact ⟨j + 1, congrArg (Value.int .i64) HN.out.symm, by go_num, by omega, by omega, HB2⟩
          · obtain rfl : j = zs.length := by omega
            go_wp2_with fail
            refine (MG.out _).mono ?_
            rintro e w2 ⟨rfl, hb2⟩
            have HB2 := Lib.hid (HB.out.trans (hb2.mono HB.out.size))
            clear hb2
            go_wp2_with fail
            go_ret2
            exact ⟨rfl, HB2.out⟩
      · rw [if_neg hn]
        have hge : 800 - (n : Int) < -200 := by omega
        go_enter Tryd.func31, Tryd.ntmps31
        go_wp2_with fail
        refine V.out.mono ?_
        rintro e w1 ⟨rfl, hb1⟩
        have HB1 := Lib.hid hb1
        clear hb1
        go_wp2_with fail
        rw [HBZ.out]
        clear hz h0
        go_loopg [4, 5] (zs.length + 1) (fun kx s4 s5 wr => ∃ j : Nat, s4 = .int .i64 (sumF zs j) ∧ s5 = .int .i64 (j : Int) ∧ j ≤ zs.length ∧ kx = zs.length + 1 - j ∧ Hid (Below w.heap.size w wr))
        case atStart => exact ⟨0, rfl, rfl, Nat.zero_le _, rfl, HB1⟩
        case round =>
          obtain ⟨j, rfl, rfl, hj, rfl, HB⟩ := hrel
          by_cases hlt : j < zs.length
          · have c3 := ((H1.out.below HB.out).at j hlt).c3
            have hm := good_mag _ (GO.out j hlt)
            have hfb := fluxN_bd (magOf zs[j]) (by unfold magOf; omega)
            have FA := Lib.hid (fun w => l05Flux_any (magOf zs[j]) (by unfold magOf; omega) zs[j].c (by unfold magOf; omega) w)
            have hs0 := SB.out j (by omega)
            have hsn : sumF zs (j + 1) = sumF zs j + fluxN (magOf zs[j]) := by show sumF zs j + fluxN (magOf (zs.getD j star0)) = _; rw [getD_at zs j hlt]
            have HN := Lib.hid hsn
            clear hsn
            generalize fluxN (magOf zs[j]) = z at *
            generalize zs[j].c = xc at *
            generalize sumF zs j = s at *
            have j0 : (0 : Int) ≤ (j : Int) := by omega
            have j1 : (j : Int) < (zs.length : Int) := by omega
            go_wp2_with fail
            refine (FA.out _).mono ?_
            rintro e w2 ⟨rfl, hb2⟩
            have HB2 := Lib.hid (HB.out.trans (hb2.mono HB.out.size))
            clear hb2
            go_wp2_with fail
            go_roundg (zs.length + 1 - (j + 1))
            case measure => omega
            case rel => exact ⟨j + 1, congrArg (Value.int .i64) HN.out.symm, by go_num, by omega, by omega, HB2⟩
          · obtain rfl : j = zs.length := by omega
            go_wp2_with fail
            refine (MG.out _).mono ?_
            rintro e w2 ⟨rfl, hb2⟩
            have HB2 := Lib.hid (HB.out.trans (hb2.mono HB.out.size))
            clear hb2
            go_wp2_with fail
            go_ret2
            exact ⟨rfl, HB2.out⟩
end Go.Proofs.YtoellkbmhpekdaaDoor
