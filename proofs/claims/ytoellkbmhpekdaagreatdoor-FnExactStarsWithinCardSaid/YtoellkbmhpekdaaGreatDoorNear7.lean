/-
  NearestStar (package spec).
-/
import Derived.Test.YtoellkbmhpekdaaGreatDoorNear5
import Derived.Test.YtoellkbmhpekdaaGreatDoorNear6
namespace Go.Proofs.YtoellkbmhpekdaaGreatDoor
open Go.RowKit
set_option linter.unusedVariables false

set_option maxRecDepth 100000 in
set_option maxHeartbeats 2000000 in
theorem specNear_any (g cap : Nat) (zs : List StarV) (p q : Int) (fp : fits p) (w : World) (hb : zs.length ≤ 1048577) (h1 : Row w g zs) (hok : ∀ j, (h : j < zs.length) → zs[j].ok) :
    Calls Tryz.prog 12 #[.slice (some ⟨g, 0, none⟩) zs.length cap, .int .i64 p, .int .i64 q] w fun e w' => e = .returned (nearV zs p q) ∧ Below w.heap.size w w' := by
  have V := Lib.hid (l05Ok_any g cap zs w hb h1)
  have VD := Lib.hid (fun w => l05Dir_any p q w)
  have H1 := Lib.hid h1
  have AP := Lib.hid (fun b o x fa w h1 h2 => apart_any b o x p q fp fa w h1 h2)
  have OK := Lib.hid hok
  clear h1 hok fp
  unfold nearV
  cases ho : okL zs with
  | false =>
    rw [if_neg (by simp)]
    rw [ho] at V
    clear ho
    go_enter Tryz.func12, Tryz.ntmps12
    go_wp2_with fail
    refine V.out.mono ?_
    rintro e w1 ⟨rfl, hb1⟩
    have HB1 := Lib.hid hb1
    clear hb1
    go_wp2_with fail
    go_returns
    exact ⟨rfl, HB1.out⟩
  | true =>
    rw [if_pos rfl]
    rw [ho] at V
    clear ho
    cases hd : dirB p q with
    | false =>
      rw [if_neg (by simp)]
      rw [hd] at VD
      clear hd
      go_enter Tryz.func12, Tryz.ntmps12
      go_wp2_with fail
      refine V.out.mono ?_
      rintro e w1 ⟨rfl, hb1⟩
      have HB1 := Lib.hid hb1
      clear hb1
      go_wp2_with fail
      refine (VD.out _).mono ?_
      rintro e w2 ⟨rfl, rfl⟩
      go_wp2_with fail
      go_returns
      exact ⟨rfl, HB1.out⟩
    | true =>
      rw [if_pos rfl]
      rw [hd] at VD
      clear hd
      by_cases h0 : zs.length = 0
      · rw [if_pos h0]
        have HZ := Lib.hid h0
        have hz : (zs.length : Int) = 0 := by omega
        clear h0
        go_enter Tryz.func12, Tryz.ntmps12
        go_wp2_with fail
        refine V.out.mono ?_
        rintro e w1 ⟨rfl, hb1⟩
        have HB1 := Lib.hid hb1
        clear hb1
        go_wp2_with fail
        refine (VD.out _).mono ?_
        rintro e w2 ⟨rfl, rfl⟩
        have hz' := HZ.out
        go_wp2_with fail
        go_returns
        exact ⟨rfl, HB1.out⟩
      · rw [if_neg h0]
        have hz : ¬ (zs.length : Int) = 0 := by omega
        have hpos : (0 : Int) < (zs.length : Int) := by omega
        have HBZ : Hid (((zs.length : Int) == 0) = false) := Lib.hid (by simpa using h0)
        have HP : Hid (0 < zs.length) := Lib.hid (by omega)
        have AJ : Hid (∀ j, j < zs.length → ∀ w1, Below w.heap.size w w1 → Calls Tryz.prog 44 #[.pointer (some ⟨g, j * 5, none⟩), .int .i64 p, .int .i64 q] w1 fun e w' => e = .returned (.int .i64 (distF zs p q j)) ∧ Below w1.heap.size w1 w') := Lib.hid (by
          intro j hj w1 hw
          obtain ⟨c0, c1, c2, c3, c4⟩ := (H1.out.below hw).at j hj
          have r := AP.out g (j * 5) zs[j] (OK.out j hj).2.1 w1 c1 c2
          unfold distF
          rw [getD_at zs j hj]
          exact r)
        have B0 : Hid (bestF (distF zs p q) 0 = (0, distF zs p q 0)) := Lib.hid rfl
        have BN : Hid (∀ j, bestF (distF zs p q) (j + 1) = if distF zs p q (j + 1) < (bestF (distF zs p q) j).2 then (j + 1, distF zs p q (j + 1)) else bestF (distF zs p q) j) := Lib.hid (fun _ => rfl)
        generalize distF zs p q = f at *
        clear h0 AP OK H1
        go_enter Tryz.func12, Tryz.ntmps12
        go_wp2_with fail
        refine V.out.mono ?_
        rintro e w1 ⟨rfl, hb1⟩
        have HB1 := Lib.hid hb1
        clear hb1
        go_wp2_with fail
        refine (VD.out _).mono ?_
        rintro e w2 ⟨rfl, rfl⟩
        go_wp2_with fail
        rw [HBZ.out]
        go_wp2_with fail
        refine (by have := AJ.out 0 HP.out _ HB1.out; rw [Nat.zero_mul] at this; exact this : Calls _ _ _ _ _).mono ?_
        rintro e w3 ⟨rfl, hb3⟩
        have HB3 := Lib.hid (HB1.out.trans (hb3.mono HB1.out.size))
        clear hb3
        go_wp2_with fail
        go_loopg [9, 10, 11] (zs.length + 1) (fun kx s9 s10 s11 wr => ∃ j : Nat, s9 = .int .i64 ((bestF f j).1 : Int) ∧ s10 = .int .i64 (bestF f j).2 ∧ s11 = .int .i64 ((j : Int) + 1) ∧ j + 1 ≤ zs.length ∧ kx = zs.length + 1 - j ∧ Hid (Below w.heap.size w wr))
        case atStart => exact ⟨0, by rw [B0.out]; rfl, by rw [B0.out], rfl, by have := HP.out; omega, rfl, HB3⟩
        case round =>
          obtain ⟨j, rfl, rfl, rfl, hj, rfl, HB⟩ := hrel
          by_cases hlt : j + 1 < zs.length
          · have j0 : (0 : Int) ≤ (j : Int) + 1 := by omega
            have j1 : (j : Int) + 1 < (zs.length : Int) := by omega
            have je : ((j : Int) + 1).toNat = j + 1 := by omega
            have AC := Lib.hid (AJ.out (j + 1) hlt _ HB.out)
            have HN := Lib.hid (BN.out j)
            obtain ⟨n, hn⟩ : ∃ n, n = f (j + 1) := ⟨_, rfl⟩
            rw [← hn] at AC HN
            obtain ⟨t, ht⟩ : ∃ t, t = bestF f j := ⟨_, rfl⟩
            rw [← ht] at HN ⊢
            clear ht
            obtain ⟨k, u⟩ := t
            simp only at HN ⊢
            clear hn
            by_cases hc : n < u
            · rw [if_pos hc] at HN
              go_wp2_with fail
              refine AC.out.mono ?_
              rintro e w4 ⟨rfl, hb4⟩
              have HB4 := Lib.hid (HB.out.trans (hb4.mono HB.out.size))
              clear hb4
              go_wp2_with fail
              go_roundg (zs.length + 1 - (j + 1))
              case measure => omega
              case rel => exact ⟨j + 1, by rw [HN.out]; rfl, by rw [HN.out], by first | go_num | (congr 1; go_arith) | (congr 1; unfold wrap64; omega), by omega, by omega, HB4⟩
            · rw [if_neg hc] at HN
              have hc' : u ≤ n := by omega
              go_wp2_with fail
              refine AC.out.mono ?_
              rintro e w4 ⟨rfl, hb4⟩
              have HB4 := Lib.hid (HB.out.trans (hb4.mono HB.out.size))
              clear hb4
              go_wp2_with fail
              go_roundg (zs.length + 1 - (j + 1))
              case measure => omega
              case rel => exact ⟨j + 1, by rw [HN.out], by rw [HN.out], by first | go_num | (congr 1; go_arith) | (congr 1; unfold wrap64; omega), by omega, by omega, HB4⟩
          · have j1 : ¬ (j : Int) + 1 < (zs.length : Int) := by omega
            have hj' : zs.length - 1 = j := by omega
            have HJ := Lib.hid hj'
            clear hj'
            go_wp2_with fail
            go_returns
            exact ⟨by rw [HJ.out]; rfl, HB.out⟩
end Go.Proofs.YtoellkbmhpekdaaGreatDoor
