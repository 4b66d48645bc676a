/-
  FnSidereal: the walk through the law.
-/
import Derived.Test.YtcehiagpknmmeaaDoorSidL
import Derived.Test.YtcehiagpknmmeaaDoorMomD
import Derived.Test.YtcehiagpknmmeaaDoorHelpG
namespace Go.Proofs.YtcehiagpknmmeaaDoor
open Go.RowKit
set_option linter.unusedVariables false

theorem below_alloc {w : World} (o : Obj) : Below w.heap.size w (w.alloc o) := (Below.refl _ _).alloc (Nat.le_refl _) _
set_option maxRecDepth 100000 in
set_option maxHeartbeats 8000000 in
theorem sidereal_walk (w : World) (v0 : Value) (a0 : List Int) (w0 : BytesIn w v0 a0) (v1 : Value) (a1 : List Int) (w1 : BytesIn w v1 a1) (henv : SinesOK w) :
    Calls Tryd.prog 3 #[v0, v1] w fun e w' => e = .returned (.bool true) ∧ Below w.heap.size w w' := by
  have E := Lib.hid henv
  have I0 := Lib.hid w0
  have I1 := Lib.hid w1
  obtain ⟨sa, sc, rfl⟩ := w0.len
  obtain ⟨sb, sd, rfl⟩ := w1.len
  clear w0 w1 henv
  by_cases hbig : 1048576 < a0.length ∨ 1048576 < a1.length
  · skip
    go_enter Tryd.func3, Tryd.ntmps3
    go_wp2_with fail
    refine (r8Long_yes _ _ _ _ _ _ _ hbig).mono ?_
    rintro e w' ⟨rfl, rfl⟩
    go_wp2_with fail
    go_ret
    exact ⟨rfl, Below.refl _ _⟩
  have hn0 : a0.length ≤ 1048576 := by omega
  have hn1 : a1.length ≤ 1048576 := by omega
  clear hbig
  go_enter Tryd.func3, Tryd.ntmps3
  go_wp2_with fail
  refine (r8Long_no _ _ _ _ _ _ _ hn0 hn1).mono ?_
  rintro e w' ⟨rfl, rfl⟩
  go_wp2_with fail
  refine (r8Moment_any I0.out hn0).mono ?_
  rintro e w1 ⟨d, m, rfl, hok, hb1⟩
  have HB1 := Lib.hid hb1
  have HOK := Lib.hid hok
  clear hb1 hok
  go_wp2_with fail
  have TM2 := Lib.hid (Two.new w1 d m 25)
  have HB2 := Lib.hid (HB1.out.trans ((below_alloc (w := w1) (Obj.cells #[.int .i64 d, .int .i64 m] 25)).mono HB1.out.size))
  obtain ⟨M, hM⟩ : ∃ M, M = w1.heap.size := ⟨_, rfl⟩
  rw [← hM] at TM2 ⊢
  have hMw : w.heap.size ≤ M := by have := HB1.out.size; omega
  clear hM HB1
  generalize w1.alloc (Obj.cells #[.int .i64 d, .int .i64 m] 25) = w2 at *
  refine (r8Wide_any (I1.out.below HB2.out) hn1 0 (by omega) 60000 (by omega) (by omega)).mono ?_
  rintro e w' ⟨⟨r1, rfl, r1a, r1b⟩, rfl⟩
  go_wp2_with fail
  refine (r8Wide_any (I1.out.below HB2.out) hn1 2 (by omega) 60000 (by omega) (by omega)).mono ?_
  rintro e w' ⟨⟨r2, rfl, r2a, r2b⟩, rfl⟩
  have p0 := TM2.out.c0
  have p1 := TM2.out.c1
  go_wp2_with fail
  obtain ⟨lon, hlon⟩ : ∃ x, x = 6 * r1 := ⟨_, rfl⟩
  obtain ⟨ang, hang⟩ : ∃ x, x = 6 * r2 := ⟨_, rfl⟩
  rw [← hlon, ← hang]
  have l0 : 0 ≤ lon := by omega
  have l1 : lon ≤ 359999 := by omega
  have n0 : 0 ≤ ang := by omega
  have n1 : ang ≤ 359999 := by omega
  clear hlon hang r1a r1b r2a r2b
  have SN := Lib.hid (sid_next d m lon ang HOK.out l0 l1 n0 n1)
  have V0 := Lib.hid (sidV_ok (lon := 0) HOK.out (by omega) (by omega))
  have V1 := Lib.hid (sidV_ok HOK.out l0 l1)
  have ss := sid_same d m lon l0
  have bd0 := sidI_bd d m 0
  have bd1 := sidI_bd d m lon
  generalize sidI d m 0 = a at *
  generalize sidI d m lon = c at *
  obtain ⟨bd00, bd01⟩ := bd0
  obtain ⟨bd10, bd11⟩ := bd1
  refine (implSid_any d m 0 _).mono ?_
  rintro e w3 ⟨rfl, hb3⟩
  rw [V0.out]
  have TM3 := Lib.hid (TM2.out.keep hb3)
  have HB3 := Lib.hid (HB2.out.trans (hb3.mono HB2.out.size))
  clear hb3 p0 p1
  have p0 := TM3.out.c0
  have p1 := TM3.out.c1
  go_wp2_with fail
  refine (implSid_any d m lon _).mono ?_
  rintro e w4 ⟨rfl, hb4⟩
  rw [V1.out]
  have TM4 := Lib.hid (TM3.out.keep hb4)
  have HB4 := Lib.hid (HB3.out.trans (hb4.mono HB3.out.size))
  clear hb4 p0 p1
  have p0 := TM4.out.c0
  have p1 := TM4.out.c1
  go_wp2_with fail
  refine (implNxt_any d m lon ang _).mono ?_
  rintro e w5 ⟨rfl, hb5⟩
  have TM5 := Lib.hid (TM4.out.keep hb5)
  have HB5 := Lib.hid (HB4.out.trans (hb5.mono HB4.out.size))
  clear hb5 p0 p1 TM4 TM3 TM2 V0
  rcases SN.out with ⟨hN, hd⟩ | ⟨d2, m2, wt, at', hN, hB, ⟨wt0, wt1⟩, hS, ⟨at0, at1⟩, hr, hrest⟩
  · rw [hN]
    have TM6 := TM5.out.keep (below_alloc (w := w5) (Obj.cells #[.int .i64 0, .int .i64 0] 25))
    have p0 := TM6.c0
    have HF := Lib.hid (HB5.out.alloc HB5.out.size (Obj.cells #[.int .i64 0, .int .i64 0] 25))
    clear hN TM6
    go_wp2_with fail
    go_ret
    exact ⟨rfl, HF.out⟩
  rw [hN]
  have TM6 := Lib.hid (TM5.out.keep (below_alloc (w := w5) (Obj.cells #[.int .i64 d2, .int .i64 m2] 25)))
  have TN6 := Lib.hid (Two.new w5 d2 m2 25)
  have HB6 := Lib.hid (HB5.out.alloc HB5.out.size (Obj.cells #[.int .i64 d2, .int .i64 m2] 25))
  have BW := Lib.hid hB
  have SV := Lib.hid hS
  have HR := Lib.hid hrest
  have p0 := TM6.out.c0
  have p1 := TM6.out.c1
  have q0 := TN6.out.c0
  have q1 := TN6.out.c1
  clear hN hB hS hrest SN
  go_wp2_with fail
  have hNM : M ≠ w5.heap.size := by have := TM5.out.lt; omega
  have hNw : w.heap.size ≤ w5.heap.size := HB5.out.size
  clear p0 p1 q0 q1 TM5 HB5
  obtain ⟨N, hN⟩ : ∃ N, N = w5.heap.size := ⟨_, rfl⟩
  rw [← hN] at TN6 hNM hNw ⊢
  clear hN
  generalize w5.alloc (Obj.cells #[.int .i64 d2, .int .i64 m2] 25) = w6 at *
  refine (specBetween_any d m d2 m2 _).mono ?_
  rintro e w7 ⟨rfl, hb7⟩
  rw [BW.out]
  have TM7 := Lib.hid (TM6.out.keep hb7)
  have TN7 := Lib.hid (TN6.out.keep hb7)
  have HB7 := Lib.hid (HB6.out.trans (hb7.mono HB6.out.size))
  have q0 := TN7.out.c0
  have q1 := TN7.out.c1
  clear hb7 TM6 TN6 HB6 BW
  go_wp2_with fail
  refine (implSid_any d2 m2 lon _).mono ?_
  rintro e w8 ⟨rfl, hb8⟩
  rw [SV.out]
  have TM8 := Lib.hid (TM7.out.keep hb8)
  have TN8 := Lib.hid (TN7.out.keep hb8)
  have HB8 := Lib.hid (HB7.out.trans (hb8.mono HB7.out.size))
  clear hb8 TM7 TN7 HB7 q0 q1 SV
  have p0 := TM8.out.c0
  have p1 := TM8.out.c1
  have su : sunV d m = .tuple #[.int .i64 (sunI (d * 86400000 + m)), .int .i64 0] := if_pos HOK.out
  have se : seaV d m = .tuple #[.int .i64 (sunI (d * 86400000 + m) / 90000 + 1), .int .i64 0] := if_pos HOK.out
  have sb : 0 ≤ sunI (d * 86400000 + m) ∧ sunI (d * 86400000 + m) < 360000 := nrm_bd _
  generalize sunI (d * 86400000 + m) = sun at *
  have SU := Lib.hid su
  have SE := Lib.hid se
  obtain ⟨sb0, sb1⟩ := sb
  clear su se
  go_wp2_with fail
  refine (implSun_any d m _ (E.out.below HB8.out)).mono ?_
  rintro e w9 ⟨rfl, hb9⟩
  rw [SU.out]
  have TM9 := Lib.hid (TM8.out.keep hb9)
  have TN9 := Lib.hid (TN8.out.keep hb9)
  have HB9 := Lib.hid (HB8.out.trans (hb9.mono HB8.out.size))
  clear hb9 TM8 TN8 HB8 p0 p1
  have p0 := TM9.out.c0
  have p1 := TM9.out.c1
  go_wp2_with fail
  refine (implSea_any d m _ (E.out.below HB9.out)).mono ?_
  rintro e w10 ⟨rfl, hb10⟩
  rw [SE.out]
  have TN10 := Lib.hid (TN9.out.keep hb10)
  have HB10 := Lib.hid (HB9.out.trans (hb10.mono HB9.out.size))
  clear hb10 TM9 TN9 HB9 p0 p1
  have q0 := TN10.out.c0
  have q1 := TN10.out.c1
  by_cases hw : wt = 0
  · subst hw
    clear HR
    go_wp2_with fail
    go_ret
    exact ⟨rfl, HB10.out⟩
  have HR2 := Lib.hid (HR.out.resolve_left hw)
  clear HR
  go_wp2_with fail
  obtain ⟨d3, m3, old, hA, hO, ⟨o0, o1⟩, e0, e1⟩ := HR2.out
  refine (specAfter_any d2 m2 (-1) _).mono ?_
  rintro e w11 ⟨rfl, hb11⟩
  rw [hA]
  have HB11 := Lib.hid (HB10.out.trans (hb11.mono HB10.out.size))
  have TP := Two.new w11 d3 m3 25
  have HB12 := Lib.hid (HB11.out.alloc HB11.out.size (Obj.cells #[.int .i64 d3, .int .i64 m3] 25))
  have SO := Lib.hid hO
  clear hb11 TN10 HB10 q0 q1 hA hO HR2
  have z0 := TP.c0
  have z1 := TP.c1
  clear TP
  go_wp2_with fail
  refine (implSid_any d3 m3 lon _).mono ?_
  rintro e w13 ⟨rfl, hb13⟩
  rw [SO.out]
  have HB13 := Lib.hid (HB12.out.trans (hb13.mono HB12.out.size))
  clear hb13 z0 z1 HB12 HB11 SO
  have e2 : (ang - old + 360000) % 360000 = (ang - old) % 360000 := by omega
  have e3 : 1 ≤ (ang - old) % 360000 := by omega
  have e4 : (ang - old) % 360000 ≤ 2 := by omega
  go_wp2_with fail
  go_ret
  exact ⟨rfl, HB13.out⟩
end Go.Proofs.YtcehiagpknmmeaaDoor
