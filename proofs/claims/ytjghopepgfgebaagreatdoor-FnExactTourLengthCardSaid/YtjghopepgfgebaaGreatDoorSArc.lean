/-
  The angle of a direction in package spec: the contracts of l02Abs, l02Arc, ArcTangent.
-/
import Derived.Test.YtjghopepgfgebaaGreatDoorSinW
import Derived.Test.YtjghopepgfgebaaGreatDoorMnMx
import Derived.Test.YtjghopepgfgebaaGreatDoorArct
import Derived.Test.YtjghopepgfgebaaGreatDoorAbs
import Derived.Deep.LoopGhost
namespace Go.Proofs.YtjghopepgfgebaaGreatDoor
open Go.RowKit
set_option linter.unusedVariables false

theorem lo_hi (X Y : Int) : (if X < Y then X else Y) = mn2 Y X ∧ True := ⟨by unfold mn2; rfl, trivial⟩
set_option maxRecDepth 100000 in
set_option maxHeartbeats 2000000 in
theorem l02Arc_any (y x : Int) (y0 : -1000000000000 ≤ y) (y1 : y ≤ 1000000000000) (x0 : -1000000000000 ≤ x) (x1 : x ≤ 1000000000000) (w : World) :
    Calls Tryz.prog 72 #[.int .i64 y, .int .i64 x] w fun e w' => e = .returned (.int .i64 (dirI y x)) ∧ Below w.heap.size w w' := by
  have AX := Lib.hid (fun w => l02Abs_any x (by omega) (by omega) w)
  have AY := Lib.hid (fun w => l02Abs_any y (by omega) (by omega) w)
  obtain ⟨X0, X1⟩ := ab_bd x _ x0 x1
  obtain ⟨Y0, Y1⟩ := ab_bd y _ y0 y1
  have MN := Lib.hid (fun w => l00Min_any (ab x) (ab y) w)
  have MX := Lib.hid (fun w => l00Max_any (ab x) (ab y) w)
  have ebase : base y x = if ab x < ab y then 90000 - (arcN (ab x) (ab y) : Int) else (arcN (ab y) (ab x) : Int) := rfl
  have bb := base_bd y x
  have ex0 : 0 ≤ x → ab x = x := fun h => by unfold ab; rw [if_neg (by omega)]
  have N := Lib.hid (fun w => l02Normal_any (-base y x) w (by omega) (by omega))
  have HR : Hid (dirI y x = if 0 ≤ x ∧ 0 ≤ y then base y x else if 0 ≤ y then 180000 - base y x else if x < 0 then 180000 + base y x else nrm (-base y x)) := Lib.hid rfl
  clear ex0
  generalize dirI y x = r at *
  generalize hb0 : base y x = b at *
  clear hb0
  generalize hX : ab x = X at *
  generalize hY : ab y = Y at *
  clear hX hY
  obtain ⟨U, hU⟩ : ∃ U, U = if X < Y then X else Y := ⟨_, rfl⟩
  obtain ⟨V, hV⟩ : ∃ V, V = if Y < X then X else Y := ⟨_, rfl⟩
  rw [← hU] at MN
  rw [← hV] at MX
  have hUV : 0 ≤ U ∧ U ≤ V ∧ V ≤ 1000000000000 := by rw [hU, hV]; split <;> split <;> omega
  obtain ⟨U0, UV, V1⟩ := hUV
  obtain ⟨c, hc⟩ : ∃ c : Int, c = (arcN U V : Nat) := ⟨_, rfl⟩
  have hcb : b = if X < Y then 90000 - c else c := by
    rw [ebase, hc]
    by_cases h : X < Y
    · rw [if_pos h, if_pos h, hU, hV, if_pos h, if_neg (by omega)]
    · rw [if_neg h, if_neg h, hU, hV, if_neg h]
      by_cases h2 : Y < X
      · rw [if_pos h2]
      · rw [if_neg h2, show Y = X by omega]
  have hle := arc_le U V
  have CI : Hid (∀ m : Int, (0 : Int) ≤ m → m < (45000 : Int) → (cosI m * U ≤ sinI m * V ↔ c ≤ m)) := Lib.hid (by
    intro m h0 h1
    have := arc_iff U V U0 (by omega) m.toNat (by omega)
    rw [show ((m.toNat : Nat) : Int) = m by omega] at this
    rw [this, hc]
    omega)
  have c0 : (0 : Int) ≤ c := by omega
  have c1 : c ≤ (45000 : Int) := by omega
  have HCB := Lib.hid hcb
  clear hc hle ebase hcb hU hV X0 X1 Y0 Y1
  go_enter Tryz.func72, Tryz.ntmps72
  go_wp2_with fail
  refine (AX.out _).mono ?_
  rintro e w' ⟨rfl, rfl⟩
  go_wp2_with fail
  refine (AY.out _).mono ?_
  rintro e w' ⟨rfl, rfl⟩
  go_wp2_with fail
  refine (MN.out _).mono ?_
  rintro e w' ⟨rfl, rfl⟩
  go_wp2_with fail
  refine (AX.out _).mono ?_
  rintro e w' ⟨rfl, rfl⟩
  go_wp2_with fail
  refine (AY.out _).mono ?_
  rintro e w' ⟨rfl, rfl⟩
  go_wp2_with fail
  refine (MX.out _).mono ?_
  rintro e w' ⟨rfl, rfl⟩
  go_wp2_with fail
  go_loopg [7, 8] 45000 (fun kx s7 s8 wr => ∃ lo hi : Int, s7 = .int .i64 lo ∧ s8 = .int .i64 hi ∧ (0 : Int) ≤ lo ∧ lo ≤ c ∧ c ≤ hi ∧ hi ≤ (45000 : Int) ∧ (hi - lo).toNat ≤ kx ∧ Hid (Below w.heap.size w wr))
  case atStart => exact ⟨(0 : Int), (45000 : Int), rfl, rfl, by omega, c0, c1, by omega, by omega, Lib.hid (Below.refl _ _)⟩
  case round =>
    obtain ⟨lo, hi, rfl, rfl, hl0, hlc, hch, hh1, hg, B⟩ := hrel
    by_cases hlt : lo < hi
    · obtain ⟨m, hm⟩ : ∃ m : Int, m = (lo + hi) / 2 := ⟨_, rfl⟩
      have m0 : lo ≤ m := by omega
      have m1 : m < hi := by omega
      have S := Lib.hid (fun w => l02Sine_any m (by omega) (by omega) w)
      have C := Lib.hid (fun w => l02Cosine_any m (by omega) (by omega) w)
      have HM := Lib.hid hm
      have ci := CI.out m (by omega) (by omega)
      have s01 := sinI_bd m
      have c01 := cosI_bd m
      have P1 := big_bd (sinI m) V s01.1 s01.2 (by omega) V1
      have P2 := big_bd (cosI m) U c01.1 c01.2 U0 (by omega)
      clear hm s01 c01
      generalize sinI m = s at *
      generalize cosI m = k at *
      by_cases ht : k * U ≤ s * V
      · have hcm := ci.1 ht
        clear ci
        go_wp2_with fail
        rw [← HM.out]
        refine (S.out _).mono ?_
        rintro e w1 ⟨rfl, hb1⟩
        have HB1 := Lib.hid (B.out.trans (hb1.mono B.out.size))
        clear hb1
        go_wp2_with fail
        refine (C.out _).mono ?_
        rintro e w2 ⟨rfl, hb2⟩
        have HB2 := Lib.hid (HB1.out.trans (hb2.mono HB1.out.size))
        clear hb2
        go_wp2_with fail
        go_roundg ((m - lo).toNat)
        case measure => omega
        case rel => exact ⟨lo, m, rfl, rfl, hl0, hlc, hcm, by omega, Nat.le_refl _, HB2⟩
      · have hcm : m + 1 ≤ c := by have := mt ci.2 ht; omega
        clear ci
        have ht' : decide (k * U ≤ s * V) = false := by simpa using ht
        go_wp2_with fail
        rw [← HM.out]
        refine (S.out _).mono ?_
        rintro e w1 ⟨rfl, hb1⟩
        have HB1 := Lib.hid (B.out.trans (hb1.mono B.out.size))
        clear hb1
        go_wp2_with fail
        refine (C.out _).mono ?_
        rintro e w2 ⟨rfl, hb2⟩
        have HB2 := Lib.hid (HB1.out.trans (hb2.mono HB1.out.size))
        clear hb2
        go_wp2_with fail
        go_roundg ((hi - (m + 1)).toNat)
        case measure => omega
        case rel => exact ⟨m + 1, hi, rfl, rfl, by omega, hcm, hch, hh1, Nat.le_refl _, HB2⟩
    · obtain rfl : lo = c := by omega
      have hcb := HCB.out
      clear CI MN MX UV V1 U0
      by_cases hXY : X < Y
      · rw [if_pos hXY] at hcb
        have hXY' : decide (X < Y) = true := by simpa using hXY
        subst hcb
        by_cases cx : 0 ≤ x
        · by_cases cy : 0 ≤ y
          · clear N
            go_wp2_with fail
            refine (AY.out _).mono ?_
            rintro e w' ⟨rfl, rfl⟩
            go_wp2_with fail
            refine (AX.out _).mono ?_
            rintro e w' ⟨rfl, rfl⟩
            go_wp2_with fail
            go_ret
            exact ⟨ret_int (by rw [HR.out, if_pos ⟨cx, cy⟩]), B.out⟩
          · have cx2 : ¬ x < 0 := by omega
            go_wp2_with fail
            refine (AY.out _).mono ?_
            rintro e w' ⟨rfl, rfl⟩
            go_wp2_with fail
            refine (AX.out _).mono ?_
            rintro e w' ⟨rfl, rfl⟩
            go_wp2_with fail
            refine (N.out _).mono ?_
            rintro e w' ⟨rfl, rfl⟩
            go_wp2_with fail
            go_ret
            exact ⟨ret_int (by rw [HR.out, if_neg (by omega), if_neg (show ¬ 0 ≤ y by omega), if_neg (by omega)]), B.out⟩
        · by_cases cy : 0 ≤ y
          · clear N
            go_wp2_with fail
            refine (AY.out _).mono ?_
            rintro e w' ⟨rfl, rfl⟩
            go_wp2_with fail
            refine (AX.out _).mono ?_
            rintro e w' ⟨rfl, rfl⟩
            go_wp2_with fail
            go_ret
            exact ⟨ret_int (by rw [HR.out, if_neg (by omega), if_pos (show 0 ≤ y by omega)]), B.out⟩
          · have cx2 : x < 0 := by omega
            clear N
            go_wp2_with fail
            refine (AY.out _).mono ?_
            rintro e w' ⟨rfl, rfl⟩
            go_wp2_with fail
            refine (AX.out _).mono ?_
            rintro e w' ⟨rfl, rfl⟩
            go_wp2_with fail
            go_ret
            exact ⟨ret_int (by rw [HR.out, if_neg (by omega), if_neg (show ¬ 0 ≤ y by omega), if_pos (by omega)]), B.out⟩
      · rw [if_neg hXY] at hcb
        have hXY' : decide (X < Y) = false := by simpa using hXY
        subst hcb
        by_cases cx : 0 ≤ x
        · by_cases cy : 0 ≤ y
          · clear N
            go_wp2_with fail
            refine (AY.out _).mono ?_
            rintro e w' ⟨rfl, rfl⟩
            go_wp2_with fail
            refine (AX.out _).mono ?_
            rintro e w' ⟨rfl, rfl⟩
            go_wp2_with fail
            go_ret
            exact ⟨ret_int (by rw [HR.out, if_pos ⟨cx, cy⟩]), B.out⟩
          · have cx2 : ¬ x < 0 := by omega
            go_wp2_with fail
            refine (AY.out _).mono ?_
            rintro e w' ⟨rfl, rfl⟩
            go_wp2_with fail
            refine (AX.out _).mono ?_
            rintro e w' ⟨rfl, rfl⟩
            go_wp2_with fail
            refine (N.out _).mono ?_
            rintro e w' ⟨rfl, rfl⟩
            go_wp2_with fail
            go_ret
            exact ⟨ret_int (by rw [HR.out, if_neg (by omega), if_neg (show ¬ 0 ≤ y by omega), if_neg (by omega)]), B.out⟩
        · by_cases cy : 0 ≤ y
          · clear N
            go_wp2_with fail
            refine (AY.out _).mono ?_
            rintro e w' ⟨rfl, rfl⟩
            go_wp2_with fail
            refine (AX.out _).mono ?_
            rintro e w' ⟨rfl, rfl⟩
            go_wp2_with fail
            go_ret
            exact ⟨ret_int (by rw [HR.out, if_neg (by omega), if_pos (show 0 ≤ y by omega)]), B.out⟩
          · have cx2 : x < 0 := by omega
            clear N
            go_wp2_with fail
            refine (AY.out _).mono ?_
            rintro e w' ⟨rfl, rfl⟩
            go_wp2_with fail
            refine (AX.out _).mono ?_
            rintro e w' ⟨rfl, rfl⟩
            go_wp2_with fail
            go_ret
            exact ⟨ret_int (by rw [HR.out, if_neg (by omega), if_neg (show ¬ 0 ≤ y by omega), if_pos (by omega)]), B.out⟩

end Go.Proofs.YtjghopepgfgebaaGreatDoor
