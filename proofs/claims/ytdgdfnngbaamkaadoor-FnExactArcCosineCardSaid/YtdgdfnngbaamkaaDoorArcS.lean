/-
  Arcs of package spec: the contracts of ArcSine and ArcCosine.
-/
import Derived.Test.YtdgdfnngbaamkaaDoorSinW
import Derived.Test.YtdgdfnngbaamkaaDoorMnMx
import Derived.Deep.LoopGhost
namespace Go.Proofs.YtdgdfnngbaamkaaDoor
open Go.RowKit
set_option linter.unusedVariables false

set_option maxRecDepth 100000 in
set_option maxHeartbeats 1000000 in
theorem specASin_any (v : Int) (w : World) :
    Calls Tryd.prog 25 #[.int .i64 v] w fun e w' => e = .returned (if inR (-1000000) 1000000 [v] = true then .tuple #[.int .i64 ((-90000 : Int) + (asinN v : Nat)), .int .i64 0] else .tuple #[.int .i64 0, .int .i64 2]) ∧ Below w.heap.size w w' := by
  cases hin : inR (-1000000) 1000000 [v] with
  | false =>
    rw [if_neg (by simp)]
    have HI := Lib.hid hin
    clear hin
    go_enter Tryd.func25, Tryd.ntmps25
    go_wp2_with fail
    refine (l00In_any _ _ _ _).mono ?_
    rintro e w' ⟨rfl, rfl⟩
    rw [HI.out]
    go_wp2_with fail
    go_ret2
    exact ⟨rfl, Below.refl _ _⟩
  | true =>
    rw [if_pos rfl]
    have HI := Lib.hid hin
    clear hin
    obtain ⟨c, hc⟩ : ∃ c : Int, c = ((-90000 : Int) + (asinN v : Nat)) := ⟨_, rfl⟩
    have hle : asinN v ≤ 180000 := asin_le v
    have CI : Hid (∀ m : Int, (-90000 : Int) ≤ m → m < (90000 : Int) → (v ≤ sinI m ↔ c ≤ m)) := Lib.hid (by
      intro m h0 h1
      have := asin_iff v (m - ((-90000 : Int))).toNat (by omega)
      rw [show -90000 + (((m - (-90000 : Int)).toNat : Nat) : Int) = m by omega] at this
      rw [this, hc]
      omega)
    have c0 : (-90000 : Int) ≤ c := by omega
    have c1 : c ≤ (90000 : Int) := by omega
    rw [← hc]
    clear hc hle
    go_enter Tryd.func25, Tryd.ntmps25
    go_wp2_with fail
    refine (l00In_any _ _ _ _).mono ?_
    rintro e w' ⟨rfl, rfl⟩
    rw [HI.out]
    go_wp2_with fail
    go_loopg [4, 5] 180000 (fun kx s4 s5 wr => ∃ lo hi : Int, s4 = .int .i64 lo ∧ s5 = .int .i64 hi ∧ (-90000 : Int) ≤ lo ∧ lo ≤ c ∧ c ≤ hi ∧ hi ≤ (90000 : Int) ∧ (hi - lo).toNat ≤ kx ∧ Hid (Below w.heap.size w wr))
    case atStart => exact ⟨(-90000 : Int), (90000 : Int), rfl, rfl, by omega, c0, c1, by omega, by omega, Lib.hid (Below.refl _ _)⟩
    case round =>
      obtain ⟨lo, hi, rfl, rfl, hl0, hlc, hch, hh1, hg, B⟩ := hrel
      by_cases hlt : lo < hi
      · obtain ⟨m, hm⟩ : ∃ m : Int, m = (lo + hi) / 2 := ⟨_, rfl⟩
        have m0 : lo ≤ m := by omega
        have m1 : m < hi := by omega
        have S := Lib.hid (l02Sine_any m (by omega) (by omega) wr)
        have HM := Lib.hid hm
        have ci := CI.out m (by omega) (by omega)
        clear hm
        have MX := Lib.hid (l00Max_any lo ((lo + hi + 180000) / 2 - 90000) wr)
        rw [show (if (lo + hi + 180000) / 2 - 90000 < lo then lo else (lo + hi + 180000) / 2 - 90000) = m by rw [if_neg (by rw [HM.out] at m0; omega), HM.out]; omega] at MX
        generalize sinI m = z at *
        by_cases ht : v ≤ z
        · have hcm := ci.1 ht
          clear ci
          go_wp2_with fail
          refine MX.out.mono ?_
          rintro e w' ⟨rfl, rfl⟩
          go_wp2_with fail
          refine S.out.mono ?_
          rintro e w' ⟨rfl, hb⟩
          have HB := Lib.hid (B.out.trans (hb.mono B.out.size))
          clear hb
          go_wp2_with fail
          go_roundg ((m - lo).toNat)
          case measure => omega
          case rel => exact ⟨lo, m, rfl, rfl, hl0, hlc, hcm, by omega, Nat.le_refl _, HB⟩
        · have hcm : m + 1 ≤ c := by have := mt ci.2 ht; omega
          clear ci
          have ht' : decide (v ≤ z) = false := by simpa using ht
          go_wp2_with fail
          refine MX.out.mono ?_
          rintro e w' ⟨rfl, rfl⟩
          go_wp2_with fail
          refine S.out.mono ?_
          rintro e w' ⟨rfl, hb⟩
          have HB := Lib.hid (B.out.trans (hb.mono B.out.size))
          clear hb
          go_wp2_with fail
          go_roundg ((hi - (m + 1)).toNat)
          case measure => omega
          case rel => exact ⟨m + 1, hi, rfl, rfl, by omega, hcm, hch, hh1, Nat.le_refl _, HB⟩
      · obtain rfl : lo = c := by omega
        go_wp2_with fail
        go_ret2
        exact ⟨rfl, B.out⟩

set_option maxRecDepth 100000 in
set_option maxHeartbeats 1000000 in
theorem specACos_any (v : Int) (w : World) :
    Calls Tryd.prog 26 #[.int .i64 v] w fun e w' => e = .returned (if inR (-1000000) 1000000 [v] = true then .tuple #[.int .i64 (acosN v : Nat), .int .i64 0] else .tuple #[.int .i64 0, .int .i64 2]) ∧ Below w.heap.size w w' := by
  cases hin : inR (-1000000) 1000000 [v] with
  | false =>
    rw [if_neg (by simp)]
    have HI := Lib.hid hin
    clear hin
    go_enter Tryd.func26, Tryd.ntmps26
    go_wp2_with fail
    refine (l00In_any _ _ _ _).mono ?_
    rintro e w' ⟨rfl, rfl⟩
    rw [HI.out]
    go_wp2_with fail
    go_ret2
    exact ⟨rfl, Below.refl _ _⟩
  | true =>
    rw [if_pos rfl]
    have HI := Lib.hid hin
    clear hin
    obtain ⟨c, hc⟩ : ∃ c : Int, c = (acosN v : Nat) := ⟨_, rfl⟩
    have hle : acosN v ≤ 180000 := acos_le v
    have CI : Hid (∀ m : Int, (0 : Int) ≤ m → m < (180000 : Int) → (cosI m ≤ v ↔ c ≤ m)) := Lib.hid (by
      intro m h0 h1
      have := acos_iff v (m - ((0 : Int))).toNat (by omega)
      rw [show (((m - (0 : Int)).toNat : Nat) : Int) = m by omega] at this
      rw [this, hc]
      omega)
    have c0 : (0 : Int) ≤ c := by omega
    have c1 : c ≤ (180000 : Int) := by omega
    rw [← hc]
    clear hc hle
    go_enter Tryd.func26, Tryd.ntmps26
    go_wp2_with fail
    refine (l00In_any _ _ _ _).mono ?_
    rintro e w' ⟨rfl, rfl⟩
    rw [HI.out]
    go_wp2_with fail
    go_loopg [4, 5] 180000 (fun kx s4 s5 wr => ∃ lo hi : Int, s4 = .int .i64 lo ∧ s5 = .int .i64 hi ∧ (0 : Int) ≤ lo ∧ lo ≤ c ∧ c ≤ hi ∧ hi ≤ (180000 : Int) ∧ (hi - lo).toNat ≤ kx ∧ Hid (Below w.heap.size w wr))
    case atStart => exact ⟨(0 : Int), (180000 : Int), rfl, rfl, by omega, c0, c1, by omega, by omega, Lib.hid (Below.refl _ _)⟩
    case round =>
      obtain ⟨lo, hi, rfl, rfl, hl0, hlc, hch, hh1, hg, B⟩ := hrel
      by_cases hlt : lo < hi
      · obtain ⟨m, hm⟩ : ∃ m : Int, m = (lo + hi) / 2 := ⟨_, rfl⟩
        have m0 : lo ≤ m := by omega
        have m1 : m < hi := by omega
        have S := Lib.hid (l02Cosine_any m (by omega) (by omega) wr)
        have HM := Lib.hid hm
        have ci := CI.out m (by omega) (by omega)
        clear hm
        generalize cosI m = z at *
        by_cases ht : z ≤ v
        · have hcm := ci.1 ht
          clear ci
          go_wp2_with fail
          rw [← HM.out]
          refine S.out.mono ?_
          rintro e w' ⟨rfl, hb⟩
          have HB := Lib.hid (B.out.trans (hb.mono B.out.size))
          clear hb
          go_wp2_with fail
          go_roundg ((m - lo).toNat)
          case measure => omega
          case rel => exact ⟨lo, m, rfl, by rw [HM.out], hl0, hlc, hcm, by omega, Nat.le_refl _, HB⟩
        · have hcm : m + 1 ≤ c := by have := mt ci.2 ht; omega
          clear ci
          have ht' : decide (z ≤ v) = false := by simpa using ht
          go_wp2_with fail
          rw [← HM.out]
          refine S.out.mono ?_
          rintro e w' ⟨rfl, hb⟩
          have HB := Lib.hid (B.out.trans (hb.mono B.out.size))
          clear hb
          go_wp2_with fail
          go_roundg ((hi - (m + 1)).toNat)
          case measure => omega
          case rel => exact ⟨m + 1, hi, by rw [HM.out], rfl, by omega, hcm, hch, hh1, Nat.le_refl _, HB⟩
      · obtain rfl : lo = c := by omega
        go_wp2_with fail
        go_ret2
        exact ⟨rfl, B.out⟩
end Go.Proofs.YtdgdfnngbaamkaaDoor
