/-
  FnSines: the walk through the law.
-/
import Derived.Test.YtbdikmfbdibcgaaDoorSinD
import Derived.Test.YtbdikmfbdibcgaaDoorSinMath
import Derived.Test.YtbdikmfbdibcgaaDoorSinW
import Derived.Test.YtbdikmfbdibcgaaDoorArcI
import Derived.Test.YtbdikmfbdibcgaaDoorArct
import Derived.Test.YtbdikmfbdibcgaaDoorBtw
import Derived.Test.YtbdikmfbdibcgaaDoorHrs
import Derived.Test.YtbdikmfbdibcgaaDoorHoursB
namespace Go.Proofs.YtbdikmfbdibcgaaDoor
open Go.RowKit
set_option linter.unusedVariables false

theorem btw_self (a : Int) : btw a a = 0 := by
  unfold btw mn2 fwd nrm
  split <;> omega
theorem sqs_pos (s c : Int) (h : -200000000 ≤ s * s + c * c - 1000000000000) : ¬ (s = 0 ∧ c = 0) := by
  rintro ⟨rfl, rfl⟩
  omega
theorem sq_bd (s : Int) (h0 : -1000000 ≤ s) (h1 : s ≤ 1000000) : 0 ≤ s * s ∧ s * s ≤ 1000000000000 := by
  constructor
  · rcases Int.le_total 0 s with h | h
    · exact Int.mul_nonneg h h
    · have := Int.mul_nonneg (show 0 ≤ -s by omega) (show 0 ≤ -s by omega)
      rwa [Int.neg_mul_neg] at this
  · rcases Int.le_total 0 s with h | h
    · have := Int.mul_le_mul h1 h1 h (by omega)
      omega
    · have := Int.mul_le_mul (show -s ≤ 1000000 by omega) (show -s ≤ 1000000 by omega) (by omega) (by omega)
      rw [Int.neg_mul_neg] at this
      omega
theorem hours_back (h m : Int) (h0 : 0 ≤ h) (h1 : h < 24) (m0 : 0 ≤ m) (m1 : m < 60) : hoursV h m = .tuple #[.int .i64 (h * 15000 + m * 250), .int .i64 0] ∧ hoursOfV (h * 15000 + m * 250) = .tuple #[.int .i64 h, .int .i64 m, .int .i64 0] := by
  constructor
  · exact if_pos ⟨(inR_1 _ _ _).2 ⟨h0, by omega⟩, (inR_1 _ _ _).2 ⟨m0, by omega⟩⟩
  · unfold hoursOfV
    rw [if_pos ((inR_1 _ _ _).2 ⟨by omega, by omega⟩), show (h * 15000 + m * 250) / 15000 = h by omega, show (h * 15000 + m * 250) % 15000 / 250 = m by omega]
set_option maxRecDepth 100000 in
set_option maxHeartbeats 8000000 in
theorem sines_walk (w : World) (v0 : Value) (a0 : List Int) (w0 : BytesIn w v0 a0) (v1 : Value) (a1 : List Int) (w1 : BytesIn w v1 a1) (henv : SinesOK w) :
    Calls Tryd.prog 3 #[v0, v1] w fun e w' => e = .returned (.bool true) ∧ Below w.heap.size w w' := by
  have E := Lib.hid henv
  have I0 := Lib.hid w0
  have I1 := Lib.hid w1
  obtain ⟨sa, sc, rfl⟩ := w0.len
  obtain ⟨sb, sd, rfl⟩ := w1.len
  clear w0 w1 henv
  by_cases hb0 : 1048576 < a0.length
  · skip
    go_enter Tryd.func3, Tryd.ntmps3
    go_wp2_with fail
    refine (b10Long_yes _ _ _ _ hb0).mono ?_
    rintro e w' ⟨rfl, rfl⟩
    go_wp2_with fail
    go_ret
    exact ⟨rfl, Below.refl _ _⟩
  have hn0 : a0.length ≤ 1048576 := by omega
  clear hb0
  by_cases hb1 : 1048576 < a1.length
  · skip
    go_enter Tryd.func3, Tryd.ntmps3
    go_wp2_with fail
    refine (b10Long_no _ _ _ _ hn0).mono ?_
    rintro e w' ⟨rfl, rfl⟩
    go_wp2_with fail
    refine (b10Long_yes _ _ _ _ hb1).mono ?_
    rintro e w' ⟨rfl, rfl⟩
    go_wp2_with fail
    go_ret
    exact ⟨rfl, Below.refl _ _⟩
  have hn1 : a1.length ≤ 1048576 := by omega
  clear hb1
  have SI := Lib.hid (fun (a : Int) (W : World) (hB : Below w.heap.size w W) h0 h1 => implSine_any a h0 h1 W (E.out.below hB))
  have CO := Lib.hid (fun (a : Int) (W : World) (hB : Below w.heap.size w W) h0 h1 => implCosine_any a h0 h1 W (E.out.below hB))
  go_enter Tryd.func3, Tryd.ntmps3
  go_wp2_with fail
  refine (b10Long_no _ _ _ _ hn0).mono ?_
  rintro e w' ⟨rfl, rfl⟩
  go_wp2_with fail
  refine (b10Long_no _ _ _ _ hn1).mono ?_
  rintro e w' ⟨rfl, rfl⟩
  go_wp2_with fail
  refine (b10Wide_any I0.out hn0 0 (by omega) 360000 (by omega) (by omega)).mono ?_
  rintro e w' ⟨⟨a, rfl, r0, r1⟩, rfl⟩
  have F1 := sinI_odd a r0 r1
  have F2 := cosI_even a r0 r1
  have F3 := sinI_half a r0 r1
  have F4 := sinI_mirror a r0 r1
  obtain ⟨s0, s1⟩ := sinI_bd a
  obtain ⟨c0, c1⟩ := cosI_bd a
  obtain ⟨q0, q1⟩ := sq_all a r0 r1
  have DS := Lib.hid (dir_self a r0 r1)
  have SA := Lib.hid (fun W hB => SI.out a W hB (by omega) (by omega))
  have CA := Lib.hid (fun W hB => CO.out a W hB (by omega) (by omega))
  have S2 := Lib.hid (fun W hB => SI.out (-a) W hB (by omega) (by omega))
  have C2 := Lib.hid (fun W hB => CO.out (-a) W hB (by omega) (by omega))
  have S3 := Lib.hid (fun W hB => SI.out (a + 180000) W hB (by omega) (by omega))
  have S4 := Lib.hid (fun W hB => SI.out (180000 - a) W hB (by omega) (by omega))
  rw [F1] at S2
  rw [F2] at C2
  rw [F3] at S3
  rw [F4] at S4
  clear F1 F2 F3 F4
  generalize sinI a = s at *
  generalize cosI a = c at *
  obtain ⟨u0, u1⟩ := sq_bd s s0 s1
  obtain ⟨v0, v1⟩ := sq_bd c c0 c1
  have nz := sqs_pos s c q0
  have AT : Hid (atanV s c = .tuple #[.int .i64 a, .int .i64 0]) := Lib.hid (by
    unfold atanV
    rw [if_pos ((inR_two _ _ _ _).2 ⟨⟨by omega, by omega⟩, by omega, by omega⟩), if_neg nz, DS.out])
  clear nz DS
  go_wp2_with fail
  refine (SA.out _ (Below.refl _ _)).mono ?_
  rintro e w1 ⟨rfl, hb1⟩
  have HB1 := Lib.hid hb1
  clear hb1 SA
  go_wp2_with fail
  refine (CA.out _ HB1.out).mono ?_
  rintro e w2 ⟨rfl, hb2⟩
  have HB2 := Lib.hid (HB1.out.trans (hb2.mono HB1.out.size))
  clear hb2 CA HB1
  go_wp2_with fail
  refine (S2.out _ HB2.out).mono ?_
  rintro e w3 ⟨rfl, hb3⟩
  have HB3 := Lib.hid (HB2.out.trans (hb3.mono HB2.out.size))
  clear hb3 S2 HB2
  go_wp2_with fail
  refine (C2.out _ HB3.out).mono ?_
  rintro e w4 ⟨rfl, hb4⟩
  have HB4 := Lib.hid (HB3.out.trans (hb4.mono HB3.out.size))
  clear hb4 C2 HB3
  go_wp2_with fail
  refine (S3.out _ HB4.out).mono ?_
  rintro e w5 ⟨rfl, hb5⟩
  have HB5 := Lib.hid (HB4.out.trans (hb5.mono HB4.out.size))
  clear hb5 S3 HB4
  go_wp2_with fail
  refine (S4.out _ HB5.out).mono ?_
  rintro e w6 ⟨rfl, hb6⟩
  have HB6 := Lib.hid (HB5.out.trans (hb6.mono HB5.out.size))
  clear hb6 S4 HB5
  have AB := Lib.hid (fun w => b10Abs_any (s * s + c * c - 1000000000000) _ w (by omega) (by omega) rfl)
  have hr : (if s * s + c * c - 1000000000000 < 0 then -(s * s + c * c - 1000000000000) else s * s + c * c - 1000000000000) ≤ 200000000 := by split <;> omega
  generalize (if s * s + c * c - 1000000000000 < 0 then -(s * s + c * c - 1000000000000) else s * s + c * c - 1000000000000) = r at *
  go_wp2_with fail
  refine (AB.out _).mono ?_
  rintro e w' ⟨rfl, rfl⟩
  clear AB
  go_wp2_with fail
  clear q0 q1 u0 u1 v0 v1 hr
  refine (implATan_any s c _ (E.out.below HB6.out)).mono ?_
  rintro e w7 ⟨rfl, hb7⟩
  rw [AT.out]
  have HB7 := Lib.hid (HB6.out.trans (hb7.mono HB6.out.size))
  have BT := Lib.hid (fun w => implBtw_any a a w (by omega) (by omega) (by omega) (by omega))
  rw [btw_self] at BT
  clear hb7 AT HB6
  go_wp2_with fail
  refine (BT.out _).mono ?_
  rintro e w' ⟨rfl, rfl⟩
  clear BT
  go_wp2_with fail
  refine (drawAS_any (I1.out.below HB7.out) hn1).mono ?_
  rintro e w8 ⟨v, rfl, ⟨v0, v1⟩, hb8⟩
  have HB8 := Lib.hid (HB7.out.trans (hb8.mono HB7.out.size))
  clear hb8 HB7 s0 s1 c0 c1
  by_cases hin : -1000000 ≤ v ∧ v ≤ 1000000
  · obtain ⟨i0, i1⟩ := hin
    have AS := Lib.hid (fun W hs => implASin_any v W hs)
    have AC := Lib.hid (fun W hs => implACos_any v W hs)
    rw [if_pos ((inR_1 _ _ _).2 ⟨i0, i1⟩)] at AS AC
    have x1 := asin_le v
    have y1 := acos_le v
    have xat := asin_at v i1
    have yat := acos_at v i0
    have xbe := asin_before v
    have ybe := acos_before v
    generalize asinN v = nx at *
    generalize acosN v = ny at *
    obtain ⟨x, hx⟩ : ∃ x : Int, x = -90000 + (nx : Int) := ⟨_, rfl⟩
    obtain ⟨y, hy⟩ : ∃ y : Int, y = (ny : Int) := ⟨_, rfl⟩
    rw [← hx] at AS xat
    rw [← hy] at AC yat
    have xb : -90000 < x → sinI (x - 1) < v := fun h => by
      have := xbe (by omega)
      rwa [← hx] at this
    have yb : 0 < y → v < cosI (y - 1) := fun h => by
      have := ybe (by omega)
      rwa [← hy] at this
    have bx0 : -90000 ≤ x := by omega
    have bx1 : x ≤ 90000 := by omega
    have by0 : 0 ≤ y := by omega
    have by1 : y ≤ 180000 := by omega
    have SX := Lib.hid (fun W hB => SI.out x W hB (by omega) (by omega))
    have CY := Lib.hid (fun W hB => CO.out y W hB (by omega) (by omega))
    have SX1 := Lib.hid (fun W hB => SI.out (x - 1) W hB (by omega) (by omega))
    have CY1 := Lib.hid (fun W hB => CO.out (y - 1) W hB (by omega) (by omega))
    clear hx hy xbe ybe x1 y1 SI CO
    generalize sinI x = sx at *
    generalize cosI y = cy at *
    generalize sinI (x - 1) = sx1 at *
    generalize cosI (y - 1) = cy1 at *
    go_wp2_with fail
    refine (AS.out _ (E.out.below HB8.out)).mono ?_
    rintro e w9 ⟨rfl, hb9⟩
    have HB9 := Lib.hid (HB8.out.trans (hb9.mono HB8.out.size))
    clear hb9 HB8 AS
    go_wp2_with fail
    refine (AC.out _ (E.out.below HB9.out)).mono ?_
    rintro e w10 ⟨rfl, hb10⟩
    have HB10 := Lib.hid (HB9.out.trans (hb10.mono HB9.out.size))
    clear hb10 HB9 AC
    go_wp2_with fail
    refine (SX.out _ HB10.out).mono ?_
    rintro e w11 ⟨rfl, hb11⟩
    have HB11 := Lib.hid (HB10.out.trans (hb11.mono HB10.out.size))
    clear hb11 HB10 SX
    go_wp2_with fail
    refine (CY.out _ HB11.out).mono ?_
    rintro e w12 ⟨rfl, hb12⟩
    have HB12 := Lib.hid (HB11.out.trans (hb12.mono HB11.out.size))
    clear hb12 HB11 CY
    by_cases hxx : -90000 < x
    · have xb1 := xb hxx
      clear xb
      go_wp2_with fail
      refine (SX1.out _ HB12.out).mono ?_
      rintro e w13 ⟨rfl, hw13⟩
      have HB13 := Lib.hid (HB12.out.trans (hw13.mono HB12.out.size))
      clear hw13
      by_cases hyy : 0 < y
      · have yb1 := yb hyy
        clear yb
        go_wp2_with fail
        refine (CY1.out _ HB13.out).mono ?_
        rintro e w14 ⟨rfl, hw14⟩
        have HB14 := Lib.hid (HB13.out.trans (hw14.mono HB13.out.size))
        clear hw14
        go_wp2_with fail
        refine (b10At_any (I1.out.below HB14.out) hn1 0 (by omega) 24 (by omega) (by omega)).mono ?_
        rintro e w' ⟨⟨hh, rfl, h0, h1⟩, rfl⟩
        go_wp2_with fail
        refine (b10At_any (I1.out.below HB14.out) hn1 1 (by omega) 60 (by omega) (by omega)).mono ?_
        rintro e w' ⟨⟨mm, rfl, m0, m1⟩, rfl⟩
        obtain ⟨hv1, hv2⟩ := hours_back hh mm h0 h1 m0 m1
        have V1 := Lib.hid hv1
        have V2 := Lib.hid hv2
        clear hv1 hv2
        generalize hh * 15000 + mm * 250 = an at *
        go_wp2_with fail
        refine (implHours_any hh mm _).mono ?_
        rintro e w20 ⟨rfl, hb20⟩
        rw [V1.out]
        have HB20 := Lib.hid (HB14.out.trans (hb20.mono HB14.out.size))
        clear hb20
        go_wp2_with fail
        refine (implHoursOf_any an _).mono ?_
        rintro e w21 ⟨rfl, hb21⟩
        rw [V2.out]
        have HB21 := Lib.hid (HB20.out.trans (hb21.mono HB20.out.size))
        clear hb21
        go_wp2_with fail
        go_ret
        exact ⟨rfl, HB21.out⟩
      · clear yb
        go_wp2_with fail
        refine (b10At_any (I1.out.below HB13.out) hn1 0 (by omega) 24 (by omega) (by omega)).mono ?_
        rintro e w' ⟨⟨hh, rfl, h0, h1⟩, rfl⟩
        go_wp2_with fail
        refine (b10At_any (I1.out.below HB13.out) hn1 1 (by omega) 60 (by omega) (by omega)).mono ?_
        rintro e w' ⟨⟨mm, rfl, m0, m1⟩, rfl⟩
        obtain ⟨hv1, hv2⟩ := hours_back hh mm h0 h1 m0 m1
        have V1 := Lib.hid hv1
        have V2 := Lib.hid hv2
        clear hv1 hv2
        generalize hh * 15000 + mm * 250 = an at *
        go_wp2_with fail
        refine (implHours_any hh mm _).mono ?_
        rintro e w20 ⟨rfl, hb20⟩
        rw [V1.out]
        have HB20 := Lib.hid (HB13.out.trans (hb20.mono HB13.out.size))
        clear hb20
        go_wp2_with fail
        refine (implHoursOf_any an _).mono ?_
        rintro e w21 ⟨rfl, hb21⟩
        rw [V2.out]
        have HB21 := Lib.hid (HB20.out.trans (hb21.mono HB20.out.size))
        clear hb21
        go_wp2_with fail
        go_ret
        exact ⟨rfl, HB21.out⟩
    · clear xb
      by_cases hyy : 0 < y
      · have yb1 := yb hyy
        clear yb
        go_wp2_with fail
        refine (CY1.out _ HB12.out).mono ?_
        rintro e w14 ⟨rfl, hw14⟩
        have HB14 := Lib.hid (HB12.out.trans (hw14.mono HB12.out.size))
        clear hw14
        go_wp2_with fail
        refine (b10At_any (I1.out.below HB14.out) hn1 0 (by omega) 24 (by omega) (by omega)).mono ?_
        rintro e w' ⟨⟨hh, rfl, h0, h1⟩, rfl⟩
        go_wp2_with fail
        refine (b10At_any (I1.out.below HB14.out) hn1 1 (by omega) 60 (by omega) (by omega)).mono ?_
        rintro e w' ⟨⟨mm, rfl, m0, m1⟩, rfl⟩
        obtain ⟨hv1, hv2⟩ := hours_back hh mm h0 h1 m0 m1
        have V1 := Lib.hid hv1
        have V2 := Lib.hid hv2
        clear hv1 hv2
        generalize hh * 15000 + mm * 250 = an at *
        go_wp2_with fail
        refine (implHours_any hh mm _).mono ?_
        rintro e w20 ⟨rfl, hb20⟩
        rw [V1.out]
        have HB20 := Lib.hid (HB14.out.trans (hb20.mono HB14.out.size))
        clear hb20
        go_wp2_with fail
        refine (implHoursOf_any an _).mono ?_
        rintro e w21 ⟨rfl, hb21⟩
        rw [V2.out]
        have HB21 := Lib.hid (HB20.out.trans (hb21.mono HB20.out.size))
        clear hb21
        go_wp2_with fail
        go_ret
        exact ⟨rfl, HB21.out⟩
      · clear yb
        go_wp2_with fail
        refine (b10At_any (I1.out.below HB12.out) hn1 0 (by omega) 24 (by omega) (by omega)).mono ?_
        rintro e w' ⟨⟨hh, rfl, h0, h1⟩, rfl⟩
        go_wp2_with fail
        refine (b10At_any (I1.out.below HB12.out) hn1 1 (by omega) 60 (by omega) (by omega)).mono ?_
        rintro e w' ⟨⟨mm, rfl, m0, m1⟩, rfl⟩
        obtain ⟨hv1, hv2⟩ := hours_back hh mm h0 h1 m0 m1
        have V1 := Lib.hid hv1
        have V2 := Lib.hid hv2
        clear hv1 hv2
        generalize hh * 15000 + mm * 250 = an at *
        go_wp2_with fail
        refine (implHours_any hh mm _).mono ?_
        rintro e w20 ⟨rfl, hb20⟩
        rw [V1.out]
        have HB20 := Lib.hid (HB12.out.trans (hb20.mono HB12.out.size))
        clear hb20
        go_wp2_with fail
        refine (implHoursOf_any an _).mono ?_
        rintro e w21 ⟨rfl, hb21⟩
        rw [V2.out]
        have HB21 := Lib.hid (HB20.out.trans (hb21.mono HB20.out.size))
        clear hb21
        go_wp2_with fail
        go_ret
        exact ⟨rfl, HB21.out⟩
  · have AS := Lib.hid (fun W hs => implASin_any v W hs)
    have AC := Lib.hid (fun W hs => implACos_any v W hs)
    have hni : ¬ inR (-1000000) 1000000 [v] = true := fun h => hin ((inR_1 _ _ _).1 h)
    rw [if_neg hni] at AS AC
    clear hni hin
    go_wp2_with fail
    refine (AS.out _ (E.out.below HB8.out)).mono ?_
    rintro e w9 ⟨rfl, hb9⟩
    have HB9 := Lib.hid (HB8.out.trans (hb9.mono HB8.out.size))
    clear hb9 HB8 AS
    go_wp2_with fail
    refine (AC.out _ (E.out.below HB9.out)).mono ?_
    rintro e w10 ⟨rfl, hb10⟩
    have HB10 := Lib.hid (HB9.out.trans (hb10.mono HB9.out.size))
    clear hb10 HB9 AC
    go_wp2_with fail
    go_ret
    exact ⟨rfl, HB10.out⟩
end Go.Proofs.YtbdikmfbdibcgaaDoor
