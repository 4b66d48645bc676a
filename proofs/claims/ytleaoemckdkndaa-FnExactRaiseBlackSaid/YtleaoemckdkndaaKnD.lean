/-
  ValidCurve (package spec): l12Ok.
-/
import Derived.Test.YtleaoemckdkndaaKnC
import Derived.RegionTactic
import Derived.Deep.Draws
namespace Go.Proofs.Ytleaoemckdkndaa.Kn
open Go.RowKit
set_option linter.unusedVariables false

theorem quiet_leftK {P : Program} {f : FuncId} {args : Array Value} {w : World} {n : Nat} {v : Value}
    (h : Calls P f args (w.drewN n) fun e w' => e = .returned v ∧ w.drewN n = w') : Calls P f args (w.drewN n) fun e w'' => e = .returned v ∧ ∃ m, w'' = w.drewN m :=
  h.mono fun _ _ ⟨he, hm⟩ => ⟨he, n, hm.symm⟩
theorem bel_dK {B : Nat} {a w : World} (h : Below B a w) (n : Nat) : Below B a (w.drewN n) := ⟨h.os, h.tape, h.output, h.size, h.block⟩
theorem stepS_at (zs : List V) (j : Nat) : stepS zs j = (inR 0 1000 [(gk zs j).f1] && folB zs j) := rfl
set_option maxRecDepth 100000 in
set_option maxHeartbeats 4000000 in
theorem l12Ok_any (g cap : Nat) (zs : List V) (w : World) (hb : zs.length ≤ 1048577) (h1 : Row w g zs) :
    Calls Try.prog 78 #[.slice (some ⟨g, 0, none⟩) zs.length cap] w fun e w' => e = .returned (.bool (curveB zs)) ∧ Below w.heap.size w w' := by
  have H1 := Lib.hid h1
  have RP := Lib.hid (fun (W : World) (hW : Row W g zs) k hk => Row.gk hW k hk)
  have SN := Lib.hid (allK_next (stepS zs))
  have SS := Lib.hid (fun j (hj : j < zs.length) (h : stepS zs j = false) => allK_stop j hj h)
  have HE : Hid (headB zs = true → curveB zs = allK (stepS zs) zs.length) := Lib.hid (fun h => by unfold curveB; rw [h, Bool.true_and, both_all zs h])
  have HF : Hid (headB zs = false → curveB zs = false) := Lib.hid (fun h => by unfold curveB; rw [h, Bool.false_and])
  have HD : headB zs = (inR 2 16 [(zs.length : Int)] && (decide ((gk zs 0).f0 = 0) && decide ((gk zs (zs.length - 1)).f0 = 1000))) := rfl
  clear h1
  generalize curveB zs = r at *
  cases hn : inR 2 16 [(zs.length : Int)] with
  | false =>
    rw [hn, Bool.false_and] at HD
    have hr := HF.out HD
    subst hr
    clear HD HF HE RP SN SS
    by_cases c1 : zs.length < 2
    · have c2 : (zs.length : Int) < 2 := by omega
      go_enter Try.func78, Try.ntmps78
      go_wp2_with fail
      go_ret
      exact ⟨rfl, Below.refl _ _⟩
    · have c2 : ¬ (zs.length : Int) < 2 := by omega
      have c3 : (16 : Int) < (zs.length : Int) := by
        by_cases c : (16 : Int) < (zs.length : Int)
        · exact c
        · rw [(inR_1 _ _ _).2 (by omega)] at hn
          cases hn
      clear hn
      go_enter Try.func78, Try.ntmps78
      go_wp2_with fail
      go_ret
      exact ⟨rfl, Below.refl _ _⟩
  | true =>
    rw [hn, Bool.true_and] at HD
    rw [inR_1] at hn
    obtain ⟨c0, d0⟩ := RP.out w H1.out 0 (by omega)
    obtain ⟨c1, d1⟩ := RP.out w H1.out (zs.length - 1) (by omega)
    have ek : (zs.length : Int) - 1 = ((zs.length - 1 : Nat) : Int) := by omega
    have k1 : zs.length - 1 < zs.length := by omega
    have l0 : (0 : Int) < (zs.length : Int) := by omega
    have l1 : (((zs.length - 1 : Nat) : Int)) < (zs.length : Int) := by omega
    have l2 : ¬ (zs.length : Int) < 2 := by omega
    have l3 : ¬ (16 : Int) < (zs.length : Int) := by omega
    have HN := Lib.hid hn
    generalize (gk zs 0).f0 = x0 at *
    generalize (gk zs (zs.length - 1)).f0 = x1 at *
    clear d0 d1
    by_cases hz : x0 = 0
    · subst hz
      rw [show decide ((0 : Int) = 0) = true by simp, Bool.true_and] at HD
      by_cases hl : x1 = 1000
      · subst hl
        rw [show decide ((1000 : Int) = 1000) = true by simp] at HD
        have HR := Lib.hid (HE.out HD)
        clear HD HE HF
        go_enter Try.func78, Try.ntmps78
        go_wp2_with fail
        clear c0 c1 ek k1 l0 l1 l2 l3
        go_loopg [4] (zs.length + 1) (fun kx s4 wr => ∃ j : Nat, s4 = .int .i64 (j : Int) ∧ j ≤ zs.length ∧ kx = zs.length + 1 - j ∧ Hid (allK (stepS zs) j = true) ∧ Hid (Below w.heap.size w wr))
        case atStart => exact ⟨0, rfl, Nat.zero_le _, rfl, Lib.hid rfl, Lib.hid (Below.refl _ _)⟩
        case round =>
          obtain ⟨j, rfl, hj, rfl, HO, HB⟩ := hrel
          by_cases hlt : j < zs.length
          · obtain ⟨c0, c1⟩ := RP.out wr (H1.out.below HB.out) j hlt
            have SJ := stepS_at zs j
            have HSS := Lib.hid (fun h => HR.out.trans (SS.out j hlt h))
            have HSN := Lib.hid (SN.out j)
            have HP : Hid (0 < j → At wr g ((j - 1) * 2) (gk zs (j - 1))) := Lib.hid (fun h => RP.out wr (H1.out.below HB.out) (j - 1) (by omega))
            have FB : folB zs j = (decide (j = 0) || bfB (gk zs (j - 1)).f0 (gk zs (j - 1)).f1 (gk zs j).f0 (gk zs j).f1) := rfl
            rw [FB] at SJ
            generalize (gk zs j).f0 = y0 at *
            generalize (gk zs j).f1 = y1 at *
            have L := Lib.hid (fun w => l12Level_any y1 w)
            have j0 : (0 : Int) ≤ (j : Int) := by omega
            have j1 : (j : Int) < (zs.length : Int) := by omega
            cases hv : inR 0 1000 [y1] with
            | false =>
              rw [hv] at L SJ
              rw [Bool.false_and] at SJ
              have hr := HSS.out SJ
              subst hr
              clear SJ HSS HSN hv FB HP
              go_wp2_with fail
              go_quiet ((go_at_call 84; with_reducible exact quiet_leftK (L.out _)))
              rename Nat => q1
              go_wp2_with fail
              go_ret
              exact ⟨rfl, bel_dK HB.out _⟩
            | true =>
              rw [hv] at L SJ
              rw [Bool.true_and] at SJ
              by_cases hz : j = 0
              · subst hz
                have hst : allK (stepS zs) (0 + 1) = true := by rw [HSN.out, HO.out, SJ]; rfl
                have HT := Lib.hid hst
                clear hst SJ HSS HSN hv FB HP
                go_wp2_with fail
                go_quiet ((go_at_call 84; with_reducible exact quiet_leftK (L.out _)))
                rename Nat => q1
                go_wp2_with fail
                go_roundg (zs.length + 1 - (0 + 1))
                case measure => omega
                case rel => exact ⟨0 + 1, by go_num, by omega, by omega, HT, Lib.hid (bel_dK HB.out _)⟩
              · obtain ⟨k, rfl⟩ : ∃ k, j = k + 1 := ⟨j - 1, by omega⟩
                obtain ⟨e0, e1⟩ := HP.out (by omega)
                rw [decide_eq_false hz, Bool.false_or] at SJ
                simp only [Nat.add_one_sub_one] at e0 e1 SJ
                generalize (gk zs k).f0 = p0 at *
                generalize (gk zs k).f1 = p1 at *
                have ek : ((k + 1 : Nat) : Int) - 1 = (k : Int) := by omega
                have k0 : (0 : Int) ≤ (k : Int) := by omega
                have k1 : (k : Int) < (zs.length : Int) := by omega
                have kg : 0 < k + 1 := by omega
                have kd : decide (0 < k + 1) = true := by simp
                have wk : IntKind.i64.wrap (k : Int) = (k : Int) := IntWalk.i64_in _ (by omega)
                clear hz FB HP hv
                unfold bfB at SJ
                by_cases b1 : p0 < y0
                · have n1 : ¬ y0 ≤ p0 := by omega
                  have n1' : decide (y0 ≤ p0) = false := decide_eq_false n1
                  rw [decide_eq_true b1, Bool.true_and] at SJ
                  by_cases b2 : p1 ≤ y1
                  · have n2 : ¬ y1 < p1 := by omega
                    have n2' : decide (y1 < p1) = false := decide_eq_false n2
                    rw [decide_eq_true b2] at SJ
                    have HT : Hid (allK (stepS zs) (k + 1 + 1) = true) := Lib.hid (by rw [HSN.out, HO.out, SJ]; rfl)
                    clear SJ HSS HSN
                    go_wp2_with fail
                    go_quiet ((go_at_call 84; with_reducible exact quiet_leftK (L.out _)))
                    rename Nat => q1
                    go_wp2_with fail
                    go_roundg (zs.length + 1 - (k + 1 + 1))
                    case measure => omega
                    case rel => exact ⟨k + 1 + 1, by go_num, by omega, by omega, HT, Lib.hid (bel_dK HB.out _)⟩
                  · have n2 : y1 < p1 := by omega
                    have n2' : decide (y1 < p1) = true := decide_eq_true n2
                    rw [decide_eq_false b2] at SJ
                    have hr := HSS.out SJ
                    subst hr
                    clear SJ HSS HSN
                    go_wp2_with fail
                    go_quiet ((go_at_call 84; with_reducible exact quiet_leftK (L.out _)))
                    rename Nat => q1
                    go_wp2_with fail
                    go_ret
                    exact ⟨rfl, bel_dK HB.out _⟩
                · have n1 : y0 ≤ p0 := by omega
                  have n1' : decide (y0 ≤ p0) = true := decide_eq_true n1
                  rw [decide_eq_false b1, Bool.false_and] at SJ
                  have hr := HSS.out SJ
                  subst hr
                  clear SJ HSS HSN
                  go_wp2_with fail
                  go_quiet ((go_at_call 84; with_reducible exact quiet_leftK (L.out _)))
                  rename Nat => q1
                  go_wp2_with fail
                  go_ret
                  exact ⟨rfl, bel_dK HB.out _⟩
          · obtain rfl : j = zs.length := by omega
            have hx := HR.out.trans HO.out
            subst hx
            go_wp2_with fail
            go_ret
            exact ⟨rfl, HB.out⟩
      · rw [show decide (x1 = 1000) = false by simpa using hl] at HD
        have hr := HF.out HD
        subst hr
        have hl2 : (x1 == 1000) = false := beq_eq_false_iff_ne.2 hl
        clear SN SS RP HD HE HF hl
        go_enter Try.func78, Try.ntmps78
        go_wp2_with fail
        go_ret
        exact ⟨rfl, Below.refl _ _⟩
    · rw [show decide (x0 = 0) = false by simpa using hz, Bool.false_and] at HD
      have hr := HF.out HD
      subst hr
      have hz2 : (x0 == 0) = false := beq_eq_false_iff_ne.2 hz
      have hz3 : (x0 != 0) = true := by rw [bne, hz2]; rfl
      clear SN SS RP HD HE HF hz
      go_enter Try.func78, Try.ntmps78
      go_wp2_with fail
      go_ret
      exact ⟨rfl, Below.refl _ _⟩
set_option maxHeartbeats 400000 in
theorem specCurve_any (g cap : Nat) (zs : List V) (w : World) (hb : zs.length ≤ 1048577) (h1 : Row w g zs) :
    Calls Try.prog 27 #[.slice (some ⟨g, 0, none⟩) zs.length cap] w fun e w' => e = .returned (.bool (curveB zs)) ∧ Below w.heap.size w w' := by
  have O := Lib.hid (l12Ok_any g cap zs w hb h1)
  clear h1
  go_enter Try.func27, Try.ntmps27
  go_wp2_with fail
  refine (O.out).mono ?_
  rintro e w1 ⟨rfl, hb1⟩
  go_wp2_with fail
  go_ret
  exact ⟨rfl, hb1⟩
end Go.Proofs.Ytleaoemckdkndaa.Kn
