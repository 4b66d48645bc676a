/-
  Increasing lists of frames: l00Rises (package spec), isIncreasing at int64 (package impl).
-/
import Derived.Test.YtecnhbgkkfcipaaMsM
import Derived.Test.YtecnhbgkkfcipaaTcW
namespace Go.Proofs.Ytecnhbgkkfcipaa.Ms
open Go.RowKit
open Tc (quiet_leftT quiet_ddT bel_dT isFrame_any)
set_option linter.unusedVariables false

/-- The numbers lie in a block. -/
def Cells (w : World) (g : Nat) (zs : List Int) : Prop := g < w.heap.size ∧ ∀ j, j < zs.length → w.cell? ⟨g, j, none⟩ = some (.int .i64 (gz zs j))
theorem Cells.below {w w' : World} {g : Nat} {zs : List Int} (h : Cells w g zs) (hb : Below w.heap.size w w') : Cells w' g zs :=
  ⟨by have := hb.size; have := h.1; omega, fun j hj => (hb.cell (p := ⟨g, j, none⟩) h.1).trans (h.2 j hj)⟩
theorem Cells.drewN {w : World} {g : Nat} {zs : List Int} (h : Cells w g zs) (n : Nat) : Cells (w.drewN n) g zs := ⟨h.1, h.2⟩

def cmpI (x y : Int) : Int := if x < y then -1 else if y < x then 1 else 0
theorem nanI_any (x : Int) (w : World) : Calls Try.prog 78 #[.int .i64 x] w fun e w' => e = .returned (.bool false) ∧ w = w' := by
  go_enter Try.func78, Try.ntmps78
  go_wp2_with fail
  go_ret
  exact ⟨by simp, rfl⟩
set_option maxHeartbeats 400000 in
theorem cmpI_any (x y : Int) (w : World) : Calls Try.prog 67 #[.int .i64 x, .int .i64 y] w fun e w' => e = .returned (.int .i64 (cmpI x y)) ∧ w = w' := by
  have NX := Lib.hid (fun w => nanI_any x w)
  have NY := Lib.hid (fun w => nanI_any y w)
  unfold cmpI
  by_cases h1 : x < y
  · rw [if_pos h1]
    go_enter Try.func67, Try.ntmps67
    go_wp2_with fail
    refine (NX.out _).mono ?_
    rintro e w' ⟨rfl, rfl⟩
    go_wp2_with fail
    refine (NY.out _).mono ?_
    rintro e w' ⟨rfl, rfl⟩
    go_wp2_with fail
    go_ret
    exact ⟨rfl, rfl⟩
  · rw [if_neg h1]
    by_cases h2 : y < x
    · rw [if_pos h2]
      go_enter Try.func67, Try.ntmps67
      go_wp2_with fail
      refine (NX.out _).mono ?_
      rintro e w' ⟨rfl, rfl⟩
      go_wp2_with fail
      refine (NY.out _).mono ?_
      rintro e w' ⟨rfl, rfl⟩
      go_wp2_with fail
      go_ret
      exact ⟨rfl, rfl⟩
    · rw [if_neg h2]
      go_enter Try.func67, Try.ntmps67
      go_wp2_with fail
      refine (NX.out _).mono ?_
      rintro e w' ⟨rfl, rfl⟩
      go_wp2_with fail
      refine (NY.out _).mono ?_
      rintro e w' ⟨rfl, rfl⟩
      go_wp2_with fail
      go_ret
      exact ⟨rfl, rfl⟩
theorem more {w wr : World} (h : ∃ m, wr = w.drewN m) (q : Nat) : ∃ m, wr.drewN q = w.drewN m := by
  obtain ⟨m, rfl⟩ := h
  exact ⟨_, by rw [World.drewN_drewN]⟩
set_option maxRecDepth 100000 in
set_option maxHeartbeats 4000000 in
theorem rises_any (g cap : Nat) (zs : List Int) (w : World) (hb : zs.length ≤ 1048577) (h1 : Cells w g zs) :
    Calls Try.prog 70 #[.slice (some ⟨g, 0, none⟩) zs.length cap, .int .i64 0, .int .i64 8640000] w fun e w' => e = .returned (.bool (risB zs zs.length)) ∧ ∃ m, w' = w.drewN m := by
  have H1 := Lib.hid h1
  have KS := Lib.hid (fun j hj h => risB_stop zs j h zs.length hj)
  have KN := Lib.hid (risB_next zs)
  clear h1
  obtain ⟨r, hr⟩ : ∃ r, r = risB zs zs.length := ⟨_, rfl⟩
  rw [← hr] at KS ⊢
  have HR := Lib.hid hr
  clear hr
  go_enter Try.func70, Try.ntmps70
  go_wp2_with fail
  go_loopg [7] (zs.length + 1) (fun kx s7 wr => ∃ (j : Nat), s7 = .int .i64 (j : Int) ∧ j ≤ zs.length ∧ kx = zs.length + 1 - j ∧ Hid (risB zs j = true) ∧ Hid (∃ m, wr = w.drewN m))
  case atStart => exact ⟨0, rfl, Nat.zero_le _, rfl, Lib.hid rfl, Lib.hid ⟨0, rfl⟩⟩
  case round =>
    obtain ⟨j, rfl, hj, rfl, HO, HD⟩ := hrel
    have HC : Cells wr g zs := by
      obtain ⟨m, hm⟩ := HD.out
      rw [hm]
      exact H1.out.drewN m
    have HCC := Lib.hid HC
    clear HC
    by_cases hlt : j < zs.length
    · have c0 := HCC.out.2 j hlt
      have HS := Lib.hid (KS.out j hlt)
      have HN := Lib.hid (KN.out j)
      have j0 : (0 : Int) ≤ (j : Int) := by omega
      have j1 : (j : Int) < (zs.length : Int) := by omega
      have I := Lib.hid (fun w => l00In_any (gz zs j) 0 8640000 w)
      cases hi : inR 0 8640000 [gz zs j] with
      | false =>
        have hst : stepB zs j = false := by unfold stepB; rw [hi]; rfl
        have e := HS.out hst
        subst e
        rw [hi] at I
        clear hi hst HS HN KS KN HR
        generalize gz zs j = x at *
        go_wp2_with fail
        go_quiet ((go_at_call 52; with_reducible exact quiet_leftT (I.out _)))
        rename Nat => q1
        go_wp2_with fail
        go_ret
        exact ⟨rfl, more HD.out q1⟩
      | true =>
        rw [hi] at I
        by_cases hz : j = 0
        · subst hz
          have HT : Hid (risB zs (0 + 1) = true) := Lib.hid (by rw [HN.out, HO.out]; unfold stepB; rw [hi]; rfl)
          clear hi HS HN KS KN HR
          generalize gz zs 0 = x at *
          go_wp2_with fail
          go_quiet ((go_at_call 52; with_reducible exact quiet_leftT (I.out _)))
          rename Nat => q1
          go_wp2_with fail
          go_roundg (zs.length + 1 - (0 + 1))
          case measure => omega
          case rel => exact ⟨0 + 1, by go_num, by omega, by omega, HT, Lib.hid (more HD.out q1)⟩
        · obtain ⟨k, hk⟩ : ∃ k, j = k + 1 := ⟨j - 1, by omega⟩
          have hkl : k < zs.length := by omega
          have d0 := HCC.out.2 k hkl
          have hst : stepB zs j = decide (gz zs k < gz zs j) := by
            unfold stepB
            rw [hi, show j - 1 = k by omega, decide_eq_false hz, Bool.true_and, Bool.false_or]
          have ek : (j : Int) - 1 = (k : Int) := by omega
          have k0 : (0 : Int) ≤ (k : Int) := by omega
          have k1 : (k : Int) < (zs.length : Int) := by omega
          have kg : 0 < j := by omega
          have kd : decide (0 < j) = true := by simpa using kg
          have kd2 : decide ((0 : Int) < (j : Int)) = true := by simpa using kg
          have wk : IntKind.i64.wrap (k : Int) = (k : Int) := IntWalk.i64_in _ (by omega)
          rw [hst] at HS HN
          clear hz hi hst hk KS KN
          generalize gz zs j = x at *
          generalize gz zs k = y at *
          cases hlt2 : decide (y < x) with
          | true =>
            have hd : decide (x ≤ y) = false := decide_eq_false (by have := of_decide_eq_true hlt2; omega)
            have HT : Hid (risB zs (j + 1) = true) := Lib.hid (by rw [HN.out, HO.out, hlt2]; rfl)
            clear HS HN HR hlt2
            go_wp2_with fail
            go_quiet ((go_at_call 52; with_reducible exact quiet_leftT (I.out _)))
            rename Nat => q1
            go_wp2_with fail
            go_roundg (zs.length + 1 - (j + 1))
            case measure => omega
            case rel => exact ⟨j + 1, by go_num, by omega, by omega, HT, Lib.hid (more HD.out q1)⟩
          | false =>
            have hd : decide (x ≤ y) = true := decide_eq_true (by have := of_decide_eq_false hlt2; omega)
            have e := HS.out hlt2
            subst e
            clear HS HN HR hlt2
            go_wp2_with fail
            go_quiet ((go_at_call 52; with_reducible exact quiet_leftT (I.out _)))
            rename Nat => q1
            go_wp2_with fail
            go_ret
            exact ⟨rfl, more HD.out q1⟩
    · obtain rfl : j = zs.length := by omega
      have e := HR.out
      rw [HO.out] at e
      subst e
      go_wp2_with fail
      go_ret
      exact ⟨rfl, HD.out⟩
set_option maxRecDepth 100000 in
set_option maxHeartbeats 4000000 in
theorem incr_any (g cap : Nat) (zs : List Int) (w : World) (hb : zs.length ≤ 1048577) (h1 : Cells w g zs) :
    Calls Try.prog 71 #[.slice (some ⟨g, 0, none⟩) zs.length cap, .int .i64 8640001, .func (.func 57) #[] #[], .func (.func 67) #[] #[]] w fun e w' => e = .returned (.bool (risB zs zs.length)) ∧ Below w.heap.size w w' := by
  have H1 := Lib.hid h1
  have KS := Lib.hid (fun j hj h => risB_stop zs j h zs.length hj)
  have KN := Lib.hid (risB_next zs)
  clear h1
  obtain ⟨r, hr⟩ : ∃ r, r = risB zs zs.length := ⟨_, rfl⟩
  rw [← hr] at KS ⊢
  have HR := Lib.hid hr
  clear hr
  go_enter Try.func71, Try.ntmps71
  go_wp2_with fail
  go_loopg [17] (zs.length + 1) (fun kx s17 wr => ∃ (j : Nat), s17 = .int .i64 (j : Int) ∧ j ≤ zs.length ∧ kx = zs.length + 1 - j ∧ Hid (risB zs j = true) ∧ Hid (Below w.heap.size w wr))
  case atStart => exact ⟨0, rfl, Nat.zero_le _, rfl, Lib.hid rfl, Lib.hid (Below.refl _ _)⟩
  case round =>
    obtain ⟨j, rfl, hj, rfl, HO, HB⟩ := hrel
    by_cases hlt : j < zs.length
    · have HC := H1.out.below HB.out
      have c0 := HC.2 j hlt
      have hg := HC.1
      have HS := Lib.hid (KS.out j hlt)
      have HN := Lib.hid (KN.out j)
      have j0 : (0 : Int) ≤ (j : Int) := by omega
      have j1 : (j : Int) < (zs.length : Int) := by omega
      have I := Lib.hid (fun w => isFrame_any (gz zs j) w)
      cases hi : inR 0 8640000 [gz zs j] with
      | false =>
        have hst : stepB zs j = false := by unfold stepB; rw [hi]; rfl
        have e := HS.out hst
        subst e
        rw [hi] at I
        clear hi hst HS HN KS KN HR HC
        generalize gz zs j = x at *
        go_wp2_with fail
        refine (I.out _).mono ?_
        rintro e w1 ⟨rfl, hb1⟩
        have HB1 := Lib.hid (HB.out.trans (hb1.mono HB.out.size))
        clear hb1
        go_wp2_with fail
        go_ret
        exact ⟨rfl, HB1.out⟩
      | true =>
        rw [hi] at I
        by_cases hz : j = 0
        · subst hz
          have HT : Hid (risB zs (0 + 1) = true) := Lib.hid (by rw [HN.out, HO.out]; unfold stepB; rw [hi]; rfl)
          clear hi HS HN KS KN HR HC
          generalize gz zs 0 = x at *
          go_wp2_with fail
          refine (I.out _).mono ?_
          rintro e w1 ⟨rfl, hb1⟩
          have HB1 := Lib.hid (HB.out.trans (hb1.mono HB.out.size))
          clear hb1
          go_wp2_with fail
          go_roundg (zs.length + 1 - (0 + 1))
          case measure => omega
          case rel => exact ⟨0 + 1, by go_num, by omega, by omega, HT, HB1⟩
        · obtain ⟨k, hk⟩ : ∃ k, j = k + 1 := ⟨j - 1, by omega⟩
          have hkl : k < zs.length := by omega
          have d0 := HC.2 k hkl
          have hst : stepB zs j = decide (gz zs k < gz zs j) := by
            unfold stepB
            rw [hi, show j - 1 = k by omega, decide_eq_false hz, Bool.true_and, Bool.false_or]
          have ek : (j : Int) - 1 = (k : Int) := by omega
          have k0 : (0 : Int) ≤ (k : Int) := by omega
          have k1 : (k : Int) < (zs.length : Int) := by omega
          have kg : 0 < j := by omega
          have kd : decide (0 < j) = true := by simpa using kg
          have kd2 : decide ((0 : Int) < (j : Int)) = true := by simpa using kg
          have wk : IntKind.i64.wrap (k : Int) = (k : Int) := IntWalk.i64_in _ (by omega)
          have C := Lib.hid (fun w => cmpI_any (gz zs k) (gz zs j) w)
          rw [hst] at HS HN
          clear hz hi hst hk KS KN HC
          generalize gz zs j = x at *
          generalize gz zs k = y at *
          cases hlt2 : decide (y < x) with
          | true =>
            have hc : decide ((0 : Int) ≤ cmpI y x) = false := decide_eq_false (by unfold cmpI; rw [if_pos (of_decide_eq_true hlt2)]; decide)
            have HT : Hid (risB zs (j + 1) = true) := Lib.hid (by rw [HN.out, HO.out, hlt2]; rfl)
            generalize cmpI y x = c at *
            clear HS HN HR hlt2
            go_wp2_with fail
            refine (I.out _).mono ?_
            rintro e w1 ⟨rfl, hb1⟩
            have HB1 := Lib.hid (HB.out.trans (hb1.mono HB.out.size))
            have d1 := (hb1.cell (p := ⟨g, k, none⟩) hg).trans d0
            clear hb1
            go_wp2_with fail
            refine (C.out _).mono ?_
            rintro e w' ⟨rfl, rfl⟩
            go_wp2_with fail
            go_roundg (zs.length + 1 - (j + 1))
            case measure => omega
            case rel => exact ⟨j + 1, by go_num, by omega, by omega, HT, HB1⟩
          | false =>
            have hc : decide ((0 : Int) ≤ cmpI y x) = true := decide_eq_true (by unfold cmpI; rw [if_neg (of_decide_eq_false hlt2)]; split <;> decide)
            have e := HS.out hlt2
            subst e
            generalize cmpI y x = c at *
            clear HS HN HR hlt2
            go_wp2_with fail
            refine (I.out _).mono ?_
            rintro e w1 ⟨rfl, hb1⟩
            have HB1 := Lib.hid (HB.out.trans (hb1.mono HB.out.size))
            have d1 := (hb1.cell (p := ⟨g, k, none⟩) hg).trans d0
            clear hb1
            go_wp2_with fail
            refine (C.out _).mono ?_
            rintro e w' ⟨rfl, rfl⟩
            go_wp2_with fail
            go_ret
            exact ⟨rfl, HB1.out⟩
    · obtain rfl : j = zs.length := by omega
      have e := HR.out
      rw [HO.out] at e
      subst e
      go_wp2_with fail
      go_ret
      exact ⟨rfl, HB.out⟩
end Go.Proofs.Ytecnhbgkkfcipaa.Ms
