/-
  FastestOf (package spec).
-/
import Derived.Test.YtdbocpcijkngpaaTkP
namespace Go.Proofs.Ytdbocpcijkngpaa.Tk
open Go.RowKit
open Ky (V In Own Row At gk)
set_option linter.unusedVariables false

set_option maxRecDepth 100000 in
set_option maxHeartbeats 4000000 in
theorem specFast_any (s : ByteArray) (hs : s.size ≤ maxLen) (g cap : Nat) (zs : List V) (w : World) (hb : zs.length ≤ 1048577) (hcz : zs.length ≤ cap) (h1 : Row w g zs) :
    Calls Try.prog 45 #[.agg #[.string s, .slice (some ⟨g, 0, none⟩) zs.length cap]] w (N3Post (fastV s zs) w) := by
  obtain ⟨W0, hW0⟩ : ∃ W, W = w.alloc (Obj.cells #[Value.string s, Value.slice (some ⟨g, 0, none⟩) zs.length cap] 29) := ⟨_, rfl⟩
  have hB0 : Below w.heap.size w W0 := by rw [hW0]; exact (Below.refl _ _).alloc (Nat.le_refl _) _
  have T0 : TAt W0 w.heap.size s (.slice (some ⟨g, 0, none⟩) zs.length cap) := by rw [hW0]; exact TAt.new _ _ _ _
  have V := Lib.hid (l14One_any w.heap.size 0 g cap s zs W0 hb T0.c0 T0.c1 (h1.below hB0))
  have RP := Lib.hid (fun (W : World) (hB : Below w.heap.size w W) k hk => Ky.Row.gk (h1.below hB) k hk)
  have HT0 := Lib.hid T0
  have HB0 := Lib.hid hB0
  obtain ⟨m0, m1⟩ := T0
  have HW := Lib.hid hW0
  clear h1 hs hB0 hW0
  cases ho : trackB s zs with
  | false =>
    have HOF := Lib.hid ho
    rw [ho] at V
    clear ho
    go_enter Try.func45, Try.ntmps45
    go_wp2_with fail
    rw [← HW.out]
    clear HW
    go_wp2_with fail
    refine V.out.mono ?_
    rintro e w1 ⟨rfl, m, hm⟩
    have hb1 : Below W0.heap.size W0 w1 := by rw [hm]; exact bel_dT (Below.refl _ _) m
    clear m0 m1 hm
    have HB1 := Lib.hid (HB0.out.trans (hb1.mono HB0.out.size))
    have HT1 := Lib.hid (HT0.out.below hb1)
    clear hb1
    go_wp2_with fail
    refine bodyPost_ret (v := .tuple #[.int .i64 0, .int .i64 0, .int .i64 1]) (by simp [results, Try.results45, go_sem]) rfl ⟨by unfold fastV; rw [if_neg (by rw [HOF.out]; simp)], HB1.out⟩
  | true =>
    have hT := trk_of ho
    have n1 := hT.n1
    have n24 := hT.n24
    have KI := Lib.hid hT.i
    have KS := Lib.hid hT.s
    have SB := Lib.hid (fun j hj => spd_bd hT j hj)
    have SE : Hid (∀ j, spd zs j = upQ (sz ((gk zs (j + 1)).f1 - (gk zs j).f1) * 1000) ((gk zs (j + 1)).f0 - (gk zs j).f0)) := Lib.hid (fun _ => rfl)
    obtain ⟨R, hR⟩ : ∃ R, R = fastV s zs := ⟨_, rfl⟩
    have HR1 : Hid (zs.length = 1 → R = (0, 0, 6)) := Lib.hid (fun h => by rw [hR]; unfold fastV; rw [if_pos ho, if_pos h])
    have HR2 : Hid (¬ zs.length = 1 → R = (((bsF (spd zs) (zs.length - 1)).1 : Int), (bsF (spd zs) (zs.length - 1)).2, 0)) := Lib.hid (fun h => by rw [hR]; unfold fastV; rw [if_pos ho, if_neg h])
    rw [← hR]
    rw [ho] at V
    clear ho hT hR
    obtain ⟨f, hf⟩ : ∃ f, f = spd zs := ⟨_, rfl⟩
    rw [← hf] at SB SE HR2
    clear hf
    have BY := Lib.hid (bsF_yes f)
    have BN := Lib.hid (bsF_no f)
    have BL := Lib.hid (bsF_low f)
    have B0 : bsF f 0 = (0, -1) := rfl
    obtain ⟨B, hB⟩ : ∃ B, B = bsF f := ⟨_, rfl⟩
    rw [← hB] at BY BN HR2 BL B0
    clear hB
    have UP := Lib.hid (fun a b w h1 h2 h3 h4 => l14Up_any a b w h1 h2 h3 h4)
    have AB := Lib.hid (fun x h1 h2 w => l02Abs_any x h1 h2 w)
    go_enter Try.func45, Try.ntmps45
    go_wp2_with fail
    rw [← HW.out]
    clear HW
    go_wp2_with fail
    refine V.out.mono ?_
    rintro e w1 ⟨rfl, m, hm⟩
    have hb1 : Below W0.heap.size W0 w1 := by rw [hm]; exact bel_dT (Below.refl _ _) m
    clear m0 m1 hm
    have HB1 := Lib.hid (HB0.out.trans (hb1.mono HB0.out.size))
    have HT1 := Lib.hid (HT0.out.below hb1)
    clear hb1
    have hw1 := HT1.out.lt
    obtain ⟨m0, m1⟩ := HT1.out
    by_cases hl : zs.length = 1
    · have HR := Lib.hid (HR1.out hl)
      have l1 : ((zs.length : Int) == 1) = true := by rw [hl]; rfl
      have l2 : (zs.length : Int) = 1 := by omega
      clear hl HR2
      go_wp2_with fail
      refine bodyPost_ret (v := .tuple #[.int .i64 0, .int .i64 0, .int .i64 6]) (by simp [results, Try.results45, go_sem]) rfl ⟨by rw [HR.out], HB1.out⟩
    · have HR := Lib.hid (HR2.out hl)
      have l1 : ((zs.length : Int) == 1) = false := beq_eq_false_iff_ne.2 (by omega)
      have l2 : ¬ (zs.length : Int) = 1 := by omega
      clear hl HR1 HR2
      go_wp2_with fail
      clear m0 m1
      go_loopg [5, 6, 7] (zs.length + 1) (fun kx s5 s6 s7 wr => ∃ j : Nat, s5 = .int .i64 ((B j).1 : Int) ∧ s6 = .int .i64 (B j).2 ∧ s7 = .int .i64 (j : Int) ∧ j + 1 ≤ zs.length ∧ kx = zs.length + 1 - j ∧ Hid (Below w.heap.size w wr) ∧ Hid (TAt wr w.heap.size s (.slice (some ⟨g, 0, none⟩) zs.length cap)))
      case atStart => exact ⟨0, by rw [B0]; rfl, by rw [B0], rfl, n1, rfl, HB1, HT1⟩
      case round =>
        obtain ⟨j, rfl, rfl, rfl, hj, rfl, HB, HT⟩ := hrel
        obtain ⟨m0, m1⟩ := HT.out
        by_cases hlt : j + 1 < zs.length
        · have j0 : (0 : Int) ≤ (j : Int) := by omega
          have j1 : (j : Int) < (zs.length : Int) := by omega
          have j2 : (j : Int) + 1 < (zs.length : Int) := by omega
          have j3 : (0 : Int) ≤ (j : Int) + 1 := by omega
          have tk : ((j : Int) + 1).toNat = j + 1 := by omega
          have wj : IntKind.i64.wrap ((j : Int) + 1) = (j : Int) + 1 := IntWalk.i64_in _ (by omega)
          obtain ⟨c0, c1⟩ := RP.out wr HB.out j (by omega)
          obtain ⟨d0, d1⟩ := RP.out wr HB.out (j + 1) hlt
          have k1 := KI.out j (by omega)
          have k2 := KI.out (j + 1) hlt
          have ks := KS.out j hlt
          have se := SE.out j
          have sb := SB.out j hlt
          have by1 := BY.out j
          have bn1 := BN.out j
          generalize (gk zs j).f0 = x0 at *
          generalize (gk zs j).f1 = x1 at *
          generalize (gk zs (j + 1)).f0 = y0 at *
          generalize (gk zs (j + 1)).f1 = y1 at *
          have s0 := sz_nonneg (y1 - x1)
          have s1 := sz_le (y1 - x1) 2000000 (by omega) (by omega)
          have A := Lib.hid (fun w => AB.out (y1 - x1) (by omega) (by omega) w)
          rw [ab_sz] at A
          have w1 : IntKind.i64.wrap (y1 - x1) = y1 - x1 := IntWalk.i64_in _ (by omega)
          have w2 : IntKind.i64.wrap (y0 - x0) = y0 - x0 := IntWalk.i64_in _ (by omega)
          obtain ⟨z, hz⟩ : ∃ z, z = sz (y1 - x1) := ⟨_, rfl⟩
          rw [← hz] at A s0 s1 se
          clear hz
          have w3 : IntKind.i64.wrap (z * 1000) = z * 1000 := IntWalk.i64_in _ (by omega)
          have UU := Lib.hid (fun w => UP.out (z * 1000) (y0 - x0) w (by omega) (by omega) (by omega) (by omega))
          rw [← se] at UU
          clear se
          generalize f j = v at *
          by_cases hv : (B j).2 < v
          · have e1 := Lib.hid (by1 (by omega))
            clear by1 bn1 k1 k2 ks
            generalize (B j).1 = p at *
            generalize (B j).2 = q at *
            go_wp2_with fail
            go_quiet ((first | (go_at_call 86; with_reducible exact quiet_leftT (A.out _)) | (go_at_call 85; with_reducible exact quiet_leftT (UU.out _))))
            rename Nat => q9
            go_wp2_with fail
            go_roundg (zs.length + 1 - (j + 1))
            case measure => omega
            case rel => exact ⟨j + 1, by rw [e1.out], by rw [e1.out], by go_num, by omega, by omega, Lib.hid (bel_dT HB.out _), Lib.hid (HT.out.below (bel_dT (Below.refl _ _) _))⟩
          · have e1 := Lib.hid (bn1 (by omega))
            clear by1 bn1 k1 k2 ks
            generalize hp1 : (B j).1 = p at *
            generalize hq1 : (B j).2 = q at *
            have HP1 := Lib.hid hp1
            have HQ1 := Lib.hid hq1
            clear hp1 hq1
            go_wp2_with fail
            go_quiet ((first | (go_at_call 86; with_reducible exact quiet_leftT (A.out _)) | (go_at_call 85; with_reducible exact quiet_leftT (UU.out _))))
            rename Nat => q9
            go_wp2_with fail
            go_roundg (zs.length + 1 - (j + 1))
            case measure => omega
            case rel => exact ⟨j + 1, by rw [e1.out, HP1.out], by rw [e1.out, HQ1.out], by go_num, by omega, by omega, Lib.hid (bel_dT HB.out _), Lib.hid (HT.out.below (bel_dT (Below.refl _ _) _))⟩
        · have hjn : j = zs.length - 1 := by omega
          have HRE : Hid (R = (((B j).1 : Int), (B j).2, 0)) := Lib.hid (by rw [HR.out, hjn])
          have j2 : ¬ (j : Int) + 1 < (zs.length : Int) := by omega
          have wj : IntKind.i64.wrap ((j : Int) + 1) = (j : Int) + 1 := IntWalk.i64_in _ (by omega)
          clear hjn
          generalize (B j).1 = p at *
          generalize (B j).2 = q at *
          go_wp2_with fail
          refine bodyPost_ret (v := .tuple #[.int .i64 (p : Int), .int .i64 q, .int .i64 0]) (by simp [results, Try.results45, go_sem]) rfl ⟨by rw [HRE.out], HB.out⟩
end Go.Proofs.Ytdbocpcijkngpaa.Tk
