/-
  Time codes: CorrectTime and FramesBetween (both packages).
-/
import Derived.Test.YtecnhbgkkfcipaaTcT
import Derived.Test.YtecnhbgkkfcipaaTcV
namespace Go.Proofs.Ytecnhbgkkfcipaa.Tc
open Go.RowKit
open Cd (At BAt)
set_option linter.unusedVariables false

set_option maxRecDepth 100000 in
set_option maxHeartbeats 1000000 in
theorem specCorrect_any (m o s : Int) (w : World) :
    Calls Try.prog 37 #[.int .i64 m, .int .i64 o, .int .i64 s] w fun e w' => e = .returned (corV m o s) ∧ Below w.heap.size w w' := by
  unfold corV
  have I1 := Lib.hid (fun w => l16Day_any m w)
  have I2 := Lib.hid (fun w => l00In_any o (-86400000) 86400000 w)
  have I3 := Lib.hid (fun w => l00In_any s (-2000000) 2000000 w)
  cases h1 : inR 0 86400000 [m] with
  | false =>
    rw [if_neg (by simp)]
    rw [h1] at I1
    clear h1
    go_enter Try.func37, Try.ntmps37
    go_wp2_with fail
    refine (I1.out _).mono ?_
    rintro e w' ⟨rfl, rfl⟩
    go_wp2_with fail
    go_ret2
    refine ⟨rfl, ?_⟩
    repeat (first | exact Below.refl _ _ | refine Below.setCell ?_ (by first | (simp; done) | omega | (simp; omega)) _ | refine Below.alloc ?_ (by first | (simp; done) | omega | (simp; omega)) _ | refine bel_drew ?_)
  | true =>
    rw [if_pos rfl]
    obtain ⟨l1, u1⟩ := (inR_1 _ _ _).1 h1
    rw [h1] at I1
    clear h1
    cases h2 : inR (-86400000) 86400000 [o] with
    | false =>
      rw [if_neg (by simp)]
      rw [h2] at I2
      clear h2
      go_enter Try.func37, Try.ntmps37
      go_wp2_with fail
      refine (I1.out _).mono ?_
      rintro e w' ⟨rfl, rfl⟩
      go_wp2_with fail
      refine (I2.out _).mono ?_
      rintro e w' ⟨rfl, rfl⟩
      go_wp2_with fail
      go_ret2
      refine ⟨rfl, ?_⟩
      repeat (first | exact Below.refl _ _ | refine Below.setCell ?_ (by first | (simp; done) | omega | (simp; omega)) _ | refine Below.alloc ?_ (by first | (simp; done) | omega | (simp; omega)) _ | refine bel_drew ?_)
    | true =>
      rw [if_pos rfl]
      obtain ⟨l2, u2⟩ := (inR_1 _ _ _).1 h2
      rw [h2] at I2
      clear h2
      cases h3 : inR (-2000000) 2000000 [s] with
      | false =>
        rw [if_neg (by simp)]
        rw [h3] at I3
        clear h3
        go_enter Try.func37, Try.ntmps37
        go_wp2_with fail
        refine (I1.out _).mono ?_
        rintro e w' ⟨rfl, rfl⟩
        go_wp2_with fail
        refine (I2.out _).mono ?_
        rintro e w' ⟨rfl, rfl⟩
        go_wp2_with fail
        refine (I3.out _).mono ?_
        rintro e w' ⟨rfl, rfl⟩
        go_wp2_with fail
        go_ret2
        refine ⟨rfl, ?_⟩
        repeat (first | exact Below.refl _ _ | refine Below.setCell ?_ (by first | (simp; done) | omega | (simp; omega)) _ | refine Below.alloc ?_ (by first | (simp; done) | omega | (simp; omega)) _ | refine bel_drew ?_)
      | true =>
        rw [if_pos rfl]
        obtain ⟨l3, u3⟩ := (inR_1 _ _ _).1 h3
        rw [h3] at I3
        clear h3
        obtain ⟨p0, p1⟩ := mul_bd s m 86400000 (by omega) (by omega) (by omega) (by omega)
        rw [Int.mul_comm s m] at p0 p1
        obtain ⟨q0, q1⟩ := nearQ_bd (m * s) 1000000 (86400000 * 86400000) (by omega) (by omega) (by omega)
        have DV := Lib.hid (fun w => l01Div_any (m * s) 1000000 w (by omega) (by omega) (by omega) (by omega) (by omega))
        generalize hms : m * s = ms at *
        generalize nearQ ms 1000000 = z at *
        have HM := Lib.hid hms
        have w1 : IntKind.i64.wrap ms = ms := IntWalk.i64_in _ (by omega)
        go_enter Try.func37, Try.ntmps37
        go_wp2_with fail
        refine (I1.out _).mono ?_
        rintro e w' ⟨rfl, rfl⟩
        go_wp2_with fail
        refine (I2.out _).mono ?_
        rintro e w' ⟨rfl, rfl⟩
        go_wp2_with fail
        refine (I3.out _).mono ?_
        rintro e w' ⟨rfl, rfl⟩
        go_wp2_with fail
        refine (DV.out _).mono ?_
        rintro e w' ⟨rfl, rfl⟩
        go_wp2_with fail
        go_ret2
        exact ⟨rfl, Below.refl _ _⟩
set_option maxRecDepth 100000 in
set_option maxHeartbeats 1000000 in
theorem implCorrect_any (m o s : Int) (w : World) :
    Calls Try.prog 38 #[.int .i64 m, .int .i64 o, .int .i64 s] w fun e w' => e = .returned (corV m o s) ∧ Below w.heap.size w w' := by
  unfold corV
  have I1 := Lib.hid (fun w => isDay_any m w)
  cases h1 : inR 0 86400000 [m] with
  | false =>
    rw [if_neg (by simp)]
    rw [h1] at I1
    clear h1
    go_enter Try.func38, Try.ntmps38
    go_wp2_with fail
    refine (I1.out _).mono ?_
    rintro e w1 ⟨rfl, hb⟩
    have HB1 := Lib.hid hb
    have hs1 := hb.size
    clear hb
    go_wp2_with fail
    go_ret2
    refine ⟨rfl, ?_⟩
    repeat (first | exact Below.refl _ _ | exact HB1.out | refine Below.setCell ?_ (by first | (simp; done) | omega | (simp; omega)) _ | refine Below.alloc ?_ (by first | (simp; done) | omega | (simp; omega)) _ | refine bel_drew ?_)
  | true =>
    rw [if_pos rfl]
    obtain ⟨l1, u1⟩ := (inR_1 _ _ _).1 h1
    rw [h1] at I1
    clear h1
    cases h2 : inR (-86400000) 86400000 [o] with
    | false =>
      rw [if_neg (by simp)]
      have I2 := Lib.hid h2
      clear h2
      go_enter Try.func38, Try.ntmps38
      go_wp2_with fail
      refine (I1.out _).mono ?_
      rintro e w1 ⟨rfl, hb⟩
      have HB1 := Lib.hid hb
      have hs1 := hb.size
      clear hb
      go_wp2_with fail
      refine (within1 _ _ o _ _ _ (by exact new_at _ _ _ _ _ _ (by first | rfl | (simp; done)) rfl)).mono ?_
      rintro e w' ⟨rfl, rfl⟩
      rw [I2.out]
      go_wp2_with fail
      go_ret2
      refine ⟨rfl, ?_⟩
      repeat (first | exact Below.refl _ _ | exact HB1.out | refine Below.setCell ?_ (by first | (simp; done) | omega | (simp; omega)) _ | refine Below.alloc ?_ (by first | (simp; done) | omega | (simp; omega)) _ | refine bel_drew ?_)
    | true =>
      rw [if_pos rfl]
      obtain ⟨l2, u2⟩ := (inR_1 _ _ _).1 h2
      have I2 := Lib.hid h2
      clear h2
      cases h3 : inR (-2000000) 2000000 [s] with
      | false =>
        rw [if_neg (by simp)]
        have I3 := Lib.hid h3
        clear h3
        go_enter Try.func38, Try.ntmps38
        go_wp2_with fail
        refine (I1.out _).mono ?_
        rintro e w1 ⟨rfl, hb⟩
        have HB1 := Lib.hid hb
        have hs1 := hb.size
        clear hb
        go_wp2_with fail
        refine (within1 _ _ o _ _ _ (by exact new_at _ _ _ _ _ _ (by first | rfl | (simp; done)) rfl)).mono ?_
        rintro e w' ⟨rfl, rfl⟩
        rw [I2.out]
        go_wp2_with fail
        refine (within1 _ _ s _ _ _ (by exact new_at _ _ _ _ _ _ (by first | rfl | (simp; done)) rfl)).mono ?_
        rintro e w' ⟨rfl, rfl⟩
        rw [I3.out]
        go_wp2_with fail
        go_ret2
        refine ⟨rfl, ?_⟩
        repeat (first | exact Below.refl _ _ | exact HB1.out | refine Below.setCell ?_ (by first | (simp; done) | omega | (simp; omega)) _ | refine Below.alloc ?_ (by first | (simp; done) | omega | (simp; omega)) _ | refine bel_drew ?_)
      | true =>
        rw [if_pos rfl]
        obtain ⟨l3, u3⟩ := (inR_1 _ _ _).1 h3
        have I3 := Lib.hid h3
        clear h3
        obtain ⟨p0, p1⟩ := mul_bd s m 86400000 (by omega) (by omega) (by omega) (by omega)
        rw [Int.mul_comm s m] at p0 p1
        obtain ⟨q0, q1⟩ := nearQ_bd (m * s) 1000000 (86400000 * 86400000) (by omega) (by omega) (by omega)
        have DV := Lib.hid (fun w => nearest_any (m * s) 1000000 w (by omega) (by omega) (by omega) (by omega))
        generalize hms : m * s = ms at *
        generalize nearQ ms 1000000 = z at *
        have HM := Lib.hid hms
        have w1 : IntKind.i64.wrap ms = ms := IntWalk.i64_in _ (by omega)
        go_enter Try.func38, Try.ntmps38
        go_wp2_with fail
        refine (I1.out _).mono ?_
        rintro e w1 ⟨rfl, hb⟩
        have HB1 := Lib.hid hb
        have hs1 := hb.size
        clear hb
        go_wp2_with fail
        refine (within1 _ _ o _ _ _ (by exact new_at _ _ _ _ _ _ (by first | rfl | (simp; done)) rfl)).mono ?_
        rintro e w' ⟨rfl, rfl⟩
        rw [I2.out]
        go_wp2_with fail
        refine (within1 _ _ s _ _ _ (by exact new_at _ _ _ _ _ _ (by first | rfl | (simp; done)) rfl)).mono ?_
        rintro e w' ⟨rfl, rfl⟩
        rw [I3.out]
        go_wp2_with fail
        refine (DV.out _).mono ?_
        rintro e w2 ⟨rfl, hb⟩
        have HB2 := Lib.hid hb
        go_wp2_with fail
        go_ret2
        refine ⟨rfl, Below.trans ?_ (HB2.out.mono (by simp; omega))⟩
        repeat (first | exact Below.refl _ _ | exact HB1.out | refine Below.setCell ?_ (by first | (simp; done) | omega | (simp; omega)) _ | refine Below.alloc ?_ (by first | (simp; done) | omega | (simp; omega)) _ | refine bel_drew ?_)
def fbV (a0 a1 a2 a3 a4 b0 b1 b2 b3 b4 : Int) : Value := if okT a0 a1 a2 a3 a4 = true then (if okT b0 b1 b2 b3 b4 = true then (if a4 = b4 then .tuple #[.int .i64 (frN b0 b1 b2 b3 b4 - frN a0 a1 a2 a3 a4), .int .i64 0] else .tuple #[.int .i64 0, .int .i64 6]) else .tuple #[.int .i64 0, .int .i64 1]) else .tuple #[.int .i64 0, .int .i64 1]
theorem fbV_form (a0 a1 a2 a3 a4 b0 b1 b2 b3 b4 : Int) : ∃ x k : Int, fbV a0 a1 a2 a3 a4 b0 b1 b2 b3 b4 = .tuple #[.int .i64 x, .int .i64 k] := by
  unfold fbV
  split
  · split
    · split <;> exact ⟨_, _, rfl⟩
    · exact ⟨_, _, rfl⟩
  · exact ⟨_, _, rfl⟩
theorem frN_bd {h m s f r : Int} (k : okT h m s f r = true) : 0 ≤ frN h m s f r ∧ frN h m s f r ≤ 2700000 := by
  obtain ⟨hr, ⟨h0, h1⟩, ⟨m0, m1⟩, ⟨s0, s1⟩, f0, f1⟩ := okT_bd k
  unfold frN
  rcases isR_cases hr with rfl | rfl | rfl
  · simp only [if_neg (show ¬ (24 : Int) = 30 by decide)]; omega
  · simp only [if_neg (show ¬ (25 : Int) = 30 by decide)]; omega
  · simp only [if_true]; omega
set_option maxRecDepth 100000 in
set_option maxHeartbeats 4000000 in
theorem specBetween_any (a0 a1 a2 a3 a4 b0 b1 b2 b3 b4 : Int) (f1 : fits a4) (f2 : fits b4) (w : World) :
    Calls Try.prog 28 #[.agg #[.int .i64 a0, .int .i64 a1, .int .i64 a2, .int .i64 a3, .int .i64 a4], .agg #[.int .i64 b0, .int .i64 b1, .int .i64 b2, .int .i64 b3, .int .i64 b4]] w fun e w' => e = .returned (fbV a0 a1 a2 a3 a4 b0 b1 b2 b3 b4) ∧ Below w.heap.size w w' := by
  unfold fbV
  have VA := Lib.hid (fun g w h => ok_at g a0 a1 a2 a3 a4 f1 w h)
  have VB := Lib.hid (fun g w h => ok_at g b0 b1 b2 b3 b4 f2 w h)
  clear f1 f2
  cases ka : okT a0 a1 a2 a3 a4 with
  | false =>
    rw [if_neg (by simp)]
    rw [ka] at VA
    clear ka
    go_enter Try.func28, Try.ntmps28
    go_wp2_with fail
    have HB0 : Hid (Below w.heap.size w w) := Lib.hid (Below.refl _ _)
    obtain ⟨wb1, hwwb1⟩ : ∃ W, W = w.alloc (Obj.cells #[Value.int .i64 a0, .int .i64 a1, .int .i64 a2, .int .i64 a3, .int .i64 a4] 25) := ⟨_, rfl⟩
    rw [← hwwb1]
    have hb : Below w.heap.size w wb1 := by rw [hwwb1]; exact (Below.refl _ _).alloc (Nat.le_refl _) _
    have hzwb1 : wb1.heap.size = w.heap.size + 1 := by rw [hwwb1]; simp
    have QNa := Lib.hid (Cd.BAt.new w (a0) (a1) (a2) (a3) (a4) 25)
    rw [← hwwb1] at QNa
    clear hwwb1
    have hswb1 := hb.size
    have HB1 := Lib.hid (HB0.out.trans (hb.mono HB0.out.size))
    clear hb
    have Qa_1 := QNa
    clear QNa
    have hla := Qa_1.out.lt
    obtain ⟨qa_0, qa_1, qa_2, qa_3, qa_4⟩ := Qa_1.out
    obtain ⟨wb2, hwwb2⟩ : ∃ W, W = wb1.alloc (Obj.cells #[Value.int .i64 b0, .int .i64 b1, .int .i64 b2, .int .i64 b3, .int .i64 b4] 25) := ⟨_, rfl⟩
    rw [← hwwb2]
    have hb : Below wb1.heap.size wb1 wb2 := by rw [hwwb2]; exact (Below.refl _ _).alloc (Nat.le_refl _) _
    have hzwb2 : wb2.heap.size = wb1.heap.size + 1 := by rw [hwwb2]; simp
    have QNb := Lib.hid (Cd.BAt.new wb1 (b0) (b1) (b2) (b3) (b4) 25)
    rw [← hwwb2] at QNb
    clear hwwb2
    rw [hzwb1] at QNb
    clear qa_0 qa_1 qa_2 qa_3 qa_4 hla
    have hswb2 := hb.size
    have HB2 := Lib.hid (HB1.out.trans (hb.mono HB1.out.size))
    have Qa_2 := Lib.hid (Qa_1.out.below hb)
    clear hb Qa_1
    obtain ⟨qa_0, qa_1, qa_2, qa_3, qa_4⟩ := Qa_2.out
    have hla := Qa_2.out.lt
    have Qb_2 := QNb
    clear QNb
    have hlb := Qb_2.out.lt
    obtain ⟨qb_0, qb_1, qb_2, qb_3, qb_4⟩ := Qb_2.out
    refine (VA.out _ _ Qa_2.out.at0).mono ?_
    rintro e w3x ⟨rfl, nw3, rfl⟩
    obtain ⟨w3, hww3⟩ : ∃ W : World, W = wb2.drewN nw3 := ⟨_, rfl⟩
    have hb : Below wb2.heap.size wb2 w3 := by rw [hww3]; exact bel_dT (Below.refl _ _) _
    rw [← hww3]
    clear hww3
    clear qa_0 qa_1 qa_2 qa_3 qa_4 qb_0 qb_1 qb_2 qb_3 qb_4 hla hlb
    have hsw3 := hb.size
    have HB3 := Lib.hid (HB2.out.trans (hb.mono HB2.out.size))
    have Qa_3 := Lib.hid (Qa_2.out.below hb)
    have Qb_3 := Lib.hid (Qb_2.out.below hb)
    clear hb Qa_2 Qb_2
    obtain ⟨qa_0, qa_1, qa_2, qa_3, qa_4⟩ := Qa_3.out
    have hla := Qa_3.out.lt
    obtain ⟨qb_0, qb_1, qb_2, qb_3, qb_4⟩ := Qb_3.out
    have hlb := Qb_3.out.lt
    go_wp2_with fail
    go_ret2
    exact ⟨rfl, HB3.out⟩
  | true =>
    rw [if_pos rfl]
    obtain ⟨ra0, ra1⟩ := frN_bd ka
    cases kb : okT b0 b1 b2 b3 b4 with
    | false =>
      rw [if_neg (by simp)]
      rw [ka] at VA
      rw [kb] at VB
      clear ka kb ra0 ra1
      go_enter Try.func28, Try.ntmps28
      go_wp2_with fail
      have HB0 : Hid (Below w.heap.size w w) := Lib.hid (Below.refl _ _)
      obtain ⟨wb1, hwwb1⟩ : ∃ W, W = w.alloc (Obj.cells #[Value.int .i64 a0, .int .i64 a1, .int .i64 a2, .int .i64 a3, .int .i64 a4] 25) := ⟨_, rfl⟩
      rw [← hwwb1]
      have hb : Below w.heap.size w wb1 := by rw [hwwb1]; exact (Below.refl _ _).alloc (Nat.le_refl _) _
      have hzwb1 : wb1.heap.size = w.heap.size + 1 := by rw [hwwb1]; simp
      have QNa := Lib.hid (Cd.BAt.new w (a0) (a1) (a2) (a3) (a4) 25)
      rw [← hwwb1] at QNa
      clear hwwb1
      have hswb1 := hb.size
      have HB1 := Lib.hid (HB0.out.trans (hb.mono HB0.out.size))
      clear hb
      have Qa_1 := QNa
      clear QNa
      have hla := Qa_1.out.lt
      obtain ⟨qa_0, qa_1, qa_2, qa_3, qa_4⟩ := Qa_1.out
      obtain ⟨wb2, hwwb2⟩ : ∃ W, W = wb1.alloc (Obj.cells #[Value.int .i64 b0, .int .i64 b1, .int .i64 b2, .int .i64 b3, .int .i64 b4] 25) := ⟨_, rfl⟩
      rw [← hwwb2]
      have hb : Below wb1.heap.size wb1 wb2 := by rw [hwwb2]; exact (Below.refl _ _).alloc (Nat.le_refl _) _
      have hzwb2 : wb2.heap.size = wb1.heap.size + 1 := by rw [hwwb2]; simp
      have QNb := Lib.hid (Cd.BAt.new wb1 (b0) (b1) (b2) (b3) (b4) 25)
      rw [← hwwb2] at QNb
      clear hwwb2
      rw [hzwb1] at QNb
      clear qa_0 qa_1 qa_2 qa_3 qa_4 hla
      have hswb2 := hb.size
      have HB2 := Lib.hid (HB1.out.trans (hb.mono HB1.out.size))
      have Qa_2 := Lib.hid (Qa_1.out.below hb)
      clear hb Qa_1
      obtain ⟨qa_0, qa_1, qa_2, qa_3, qa_4⟩ := Qa_2.out
      have hla := Qa_2.out.lt
      have Qb_2 := QNb
      clear QNb
      have hlb := Qb_2.out.lt
      obtain ⟨qb_0, qb_1, qb_2, qb_3, qb_4⟩ := Qb_2.out
      refine (VA.out _ _ Qa_2.out.at0).mono ?_
      rintro e w3x ⟨rfl, nw3, rfl⟩
      obtain ⟨w3, hww3⟩ : ∃ W : World, W = wb2.drewN nw3 := ⟨_, rfl⟩
      have hb : Below wb2.heap.size wb2 w3 := by rw [hww3]; exact bel_dT (Below.refl _ _) _
      rw [← hww3]
      clear hww3
      clear qa_0 qa_1 qa_2 qa_3 qa_4 qb_0 qb_1 qb_2 qb_3 qb_4 hla hlb
      have hsw3 := hb.size
      have HB3 := Lib.hid (HB2.out.trans (hb.mono HB2.out.size))
      have Qa_3 := Lib.hid (Qa_2.out.below hb)
      have Qb_3 := Lib.hid (Qb_2.out.below hb)
      clear hb Qa_2 Qb_2
      obtain ⟨qa_0, qa_1, qa_2, qa_3, qa_4⟩ := Qa_3.out
      have hla := Qa_3.out.lt
      obtain ⟨qb_0, qb_1, qb_2, qb_3, qb_4⟩ := Qb_3.out
      have hlb := Qb_3.out.lt
      go_wp2_with fail
      refine (VB.out _ _ Qb_3.out.at0).mono ?_
      rintro e w4x ⟨rfl, nw4, rfl⟩
      obtain ⟨w4, hww4⟩ : ∃ W : World, W = w3.drewN nw4 := ⟨_, rfl⟩
      have hb : Below w3.heap.size w3 w4 := by rw [hww4]; exact bel_dT (Below.refl _ _) _
      rw [← hww4]
      clear hww4
      clear qa_0 qa_1 qa_2 qa_3 qa_4 qb_0 qb_1 qb_2 qb_3 qb_4 hla hlb
      have hsw4 := hb.size
      have HB4 := Lib.hid (HB3.out.trans (hb.mono HB3.out.size))
      have Qa_4 := Lib.hid (Qa_3.out.below hb)
      have Qb_4 := Lib.hid (Qb_3.out.below hb)
      clear hb Qa_3 Qb_3
      obtain ⟨qa_0, qa_1, qa_2, qa_3, qa_4⟩ := Qa_4.out
      have hla := Qa_4.out.lt
      obtain ⟨qb_0, qb_1, qb_2, qb_3, qb_4⟩ := Qb_4.out
      have hlb := Qb_4.out.lt
      go_wp2_with fail
      go_ret2
      exact ⟨rfl, HB4.out⟩
    | true =>
      rw [if_pos rfl]
      obtain ⟨rb0, rb1⟩ := frN_bd kb
      have FA := Lib.hid (fun g w h => frame_at g a0 a1 a2 a3 a4 ka w h)
      have FB := Lib.hid (fun g w h => frame_at g b0 b1 b2 b3 b4 kb w h)
      rw [ka] at VA
      rw [kb] at VB
      clear ka kb
      generalize frN a0 a1 a2 a3 a4 = za at *
      generalize frN b0 b1 b2 b3 b4 = zb at *
      by_cases hr : a4 = b4
      · rw [if_pos hr]
        have hq : (a4 != b4) = false := by rw [bne, beq_iff_eq.2 hr]; rfl
        have wz : IntKind.i64.wrap (zb - za) = zb - za := IntWalk.i64_in _ (by omega)
        clear hr
        go_enter Try.func28, Try.ntmps28
        go_wp2_with fail
        have HB0 : Hid (Below w.heap.size w w) := Lib.hid (Below.refl _ _)
        obtain ⟨wb1, hwwb1⟩ : ∃ W, W = w.alloc (Obj.cells #[Value.int .i64 a0, .int .i64 a1, .int .i64 a2, .int .i64 a3, .int .i64 a4] 25) := ⟨_, rfl⟩
        rw [← hwwb1]
        have hb : Below w.heap.size w wb1 := by rw [hwwb1]; exact (Below.refl _ _).alloc (Nat.le_refl _) _
        have hzwb1 : wb1.heap.size = w.heap.size + 1 := by rw [hwwb1]; simp
        have QNa := Lib.hid (Cd.BAt.new w (a0) (a1) (a2) (a3) (a4) 25)
        rw [← hwwb1] at QNa
        clear hwwb1
        have hswb1 := hb.size
        have HB1 := Lib.hid (HB0.out.trans (hb.mono HB0.out.size))
        clear hb
        have Qa_1 := QNa
        clear QNa
        have hla := Qa_1.out.lt
        obtain ⟨qa_0, qa_1, qa_2, qa_3, qa_4⟩ := Qa_1.out
        obtain ⟨wb2, hwwb2⟩ : ∃ W, W = wb1.alloc (Obj.cells #[Value.int .i64 b0, .int .i64 b1, .int .i64 b2, .int .i64 b3, .int .i64 b4] 25) := ⟨_, rfl⟩
        rw [← hwwb2]
        have hb : Below wb1.heap.size wb1 wb2 := by rw [hwwb2]; exact (Below.refl _ _).alloc (Nat.le_refl _) _
        have hzwb2 : wb2.heap.size = wb1.heap.size + 1 := by rw [hwwb2]; simp
        have QNb := Lib.hid (Cd.BAt.new wb1 (b0) (b1) (b2) (b3) (b4) 25)
        rw [← hwwb2] at QNb
        clear hwwb2
        rw [hzwb1] at QNb
        clear qa_0 qa_1 qa_2 qa_3 qa_4 hla
        have hswb2 := hb.size
        have HB2 := Lib.hid (HB1.out.trans (hb.mono HB1.out.size))
        have Qa_2 := Lib.hid (Qa_1.out.below hb)
        clear hb Qa_1
        obtain ⟨qa_0, qa_1, qa_2, qa_3, qa_4⟩ := Qa_2.out
        have hla := Qa_2.out.lt
        have Qb_2 := QNb
        clear QNb
        have hlb := Qb_2.out.lt
        obtain ⟨qb_0, qb_1, qb_2, qb_3, qb_4⟩ := Qb_2.out
        refine (VA.out _ _ Qa_2.out.at0).mono ?_
        rintro e w3x ⟨rfl, nw3, rfl⟩
        obtain ⟨w3, hww3⟩ : ∃ W : World, W = wb2.drewN nw3 := ⟨_, rfl⟩
        have hb : Below wb2.heap.size wb2 w3 := by rw [hww3]; exact bel_dT (Below.refl _ _) _
        rw [← hww3]
        clear hww3
        clear qa_0 qa_1 qa_2 qa_3 qa_4 qb_0 qb_1 qb_2 qb_3 qb_4 hla hlb
        have hsw3 := hb.size
        have HB3 := Lib.hid (HB2.out.trans (hb.mono HB2.out.size))
        have Qa_3 := Lib.hid (Qa_2.out.below hb)
        have Qb_3 := Lib.hid (Qb_2.out.below hb)
        clear hb Qa_2 Qb_2
        obtain ⟨qa_0, qa_1, qa_2, qa_3, qa_4⟩ := Qa_3.out
        have hla := Qa_3.out.lt
        obtain ⟨qb_0, qb_1, qb_2, qb_3, qb_4⟩ := Qb_3.out
        have hlb := Qb_3.out.lt
        go_wp2_with fail
        refine (VB.out _ _ Qb_3.out.at0).mono ?_
        rintro e w4x ⟨rfl, nw4, rfl⟩
        obtain ⟨w4, hww4⟩ : ∃ W : World, W = w3.drewN nw4 := ⟨_, rfl⟩
        have hb : Below w3.heap.size w3 w4 := by rw [hww4]; exact bel_dT (Below.refl _ _) _
        rw [← hww4]
        clear hww4
        clear qa_0 qa_1 qa_2 qa_3 qa_4 qb_0 qb_1 qb_2 qb_3 qb_4 hla hlb
        have hsw4 := hb.size
        have HB4 := Lib.hid (HB3.out.trans (hb.mono HB3.out.size))
        have Qa_4 := Lib.hid (Qa_3.out.below hb)
        have Qb_4 := Lib.hid (Qb_3.out.below hb)
        clear hb Qa_3 Qb_3
        obtain ⟨qa_0, qa_1, qa_2, qa_3, qa_4⟩ := Qa_4.out
        have hla := Qa_4.out.lt
        obtain ⟨qb_0, qb_1, qb_2, qb_3, qb_4⟩ := Qb_4.out
        have hlb := Qb_4.out.lt
        go_wp2_with fail
        refine (FB.out _ _ Qb_4.out.at0).mono ?_
        rintro e w5x ⟨rfl, nw5, rfl⟩
        obtain ⟨w5, hww5⟩ : ∃ W : World, W = w4.drewN nw5 := ⟨_, rfl⟩
        have hb : Below w4.heap.size w4 w5 := by rw [hww5]; exact bel_dT (Below.refl _ _) _
        rw [← hww5]
        clear hww5
        clear qa_0 qa_1 qa_2 qa_3 qa_4 qb_0 qb_1 qb_2 qb_3 qb_4 hla hlb
        have hsw5 := hb.size
        have HB5 := Lib.hid (HB4.out.trans (hb.mono HB4.out.size))
        have Qa_5 := Lib.hid (Qa_4.out.below hb)
        have Qb_5 := Lib.hid (Qb_4.out.below hb)
        clear hb Qa_4 Qb_4
        obtain ⟨qa_0, qa_1, qa_2, qa_3, qa_4⟩ := Qa_5.out
        have hla := Qa_5.out.lt
        obtain ⟨qb_0, qb_1, qb_2, qb_3, qb_4⟩ := Qb_5.out
        have hlb := Qb_5.out.lt
        go_wp2_with fail
        refine (FA.out _ _ Qa_5.out.at0).mono ?_
        rintro e w6x ⟨rfl, nw6, rfl⟩
        obtain ⟨w6, hww6⟩ : ∃ W : World, W = w5.drewN nw6 := ⟨_, rfl⟩
        have hb : Below w5.heap.size w5 w6 := by rw [hww6]; exact bel_dT (Below.refl _ _) _
        rw [← hww6]
        clear hww6
        clear qa_0 qa_1 qa_2 qa_3 qa_4 qb_0 qb_1 qb_2 qb_3 qb_4 hla hlb
        have hsw6 := hb.size
        have HB6 := Lib.hid (HB5.out.trans (hb.mono HB5.out.size))
        have Qa_6 := Lib.hid (Qa_5.out.below hb)
        have Qb_6 := Lib.hid (Qb_5.out.below hb)
        clear hb Qa_5 Qb_5
        obtain ⟨qa_0, qa_1, qa_2, qa_3, qa_4⟩ := Qa_6.out
        have hla := Qa_6.out.lt
        obtain ⟨qb_0, qb_1, qb_2, qb_3, qb_4⟩ := Qb_6.out
        have hlb := Qb_6.out.lt
        go_wp2_with fail
        go_ret2
        exact ⟨rfl, HB6.out⟩
      · rw [if_neg hr]
        have hq : (a4 != b4) = true := by rw [bne, beq_eq_false_iff_ne.2 hr]; rfl
        clear ra0 ra1 rb0 rb1 hr
        go_enter Try.func28, Try.ntmps28
        go_wp2_with fail
        have HB0 : Hid (Below w.heap.size w w) := Lib.hid (Below.refl _ _)
        obtain ⟨wb1, hwwb1⟩ : ∃ W, W = w.alloc (Obj.cells #[Value.int .i64 a0, .int .i64 a1, .int .i64 a2, .int .i64 a3, .int .i64 a4] 25) := ⟨_, rfl⟩
        rw [← hwwb1]
        have hb : Below w.heap.size w wb1 := by rw [hwwb1]; exact (Below.refl _ _).alloc (Nat.le_refl _) _
        have hzwb1 : wb1.heap.size = w.heap.size + 1 := by rw [hwwb1]; simp
        have QNa := Lib.hid (Cd.BAt.new w (a0) (a1) (a2) (a3) (a4) 25)
        rw [← hwwb1] at QNa
        clear hwwb1
        have hswb1 := hb.size
        have HB1 := Lib.hid (HB0.out.trans (hb.mono HB0.out.size))
        clear hb
        have Qa_1 := QNa
        clear QNa
        have hla := Qa_1.out.lt
        obtain ⟨qa_0, qa_1, qa_2, qa_3, qa_4⟩ := Qa_1.out
        obtain ⟨wb2, hwwb2⟩ : ∃ W, W = wb1.alloc (Obj.cells #[Value.int .i64 b0, .int .i64 b1, .int .i64 b2, .int .i64 b3, .int .i64 b4] 25) := ⟨_, rfl⟩
        rw [← hwwb2]
        have hb : Below wb1.heap.size wb1 wb2 := by rw [hwwb2]; exact (Below.refl _ _).alloc (Nat.le_refl _) _
        have hzwb2 : wb2.heap.size = wb1.heap.size + 1 := by rw [hwwb2]; simp
        have QNb := Lib.hid (Cd.BAt.new wb1 (b0) (b1) (b2) (b3) (b4) 25)
        rw [← hwwb2] at QNb
        clear hwwb2
        rw [hzwb1] at QNb
        clear qa_0 qa_1 qa_2 qa_3 qa_4 hla
        have hswb2 := hb.size
        have HB2 := Lib.hid (HB1.out.trans (hb.mono HB1.out.size))
        have Qa_2 := Lib.hid (Qa_1.out.below hb)
        clear hb Qa_1
        obtain ⟨qa_0, qa_1, qa_2, qa_3, qa_4⟩ := Qa_2.out
        have hla := Qa_2.out.lt
        have Qb_2 := QNb
        clear QNb
        have hlb := Qb_2.out.lt
        obtain ⟨qb_0, qb_1, qb_2, qb_3, qb_4⟩ := Qb_2.out
        refine (VA.out _ _ Qa_2.out.at0).mono ?_
        rintro e w3x ⟨rfl, nw3, rfl⟩
        obtain ⟨w3, hww3⟩ : ∃ W : World, W = wb2.drewN nw3 := ⟨_, rfl⟩
        have hb : Below wb2.heap.size wb2 w3 := by rw [hww3]; exact bel_dT (Below.refl _ _) _
        rw [← hww3]
        clear hww3
        clear qa_0 qa_1 qa_2 qa_3 qa_4 qb_0 qb_1 qb_2 qb_3 qb_4 hla hlb
        have hsw3 := hb.size
        have HB3 := Lib.hid (HB2.out.trans (hb.mono HB2.out.size))
        have Qa_3 := Lib.hid (Qa_2.out.below hb)
        have Qb_3 := Lib.hid (Qb_2.out.below hb)
        clear hb Qa_2 Qb_2
        obtain ⟨qa_0, qa_1, qa_2, qa_3, qa_4⟩ := Qa_3.out
        have hla := Qa_3.out.lt
        obtain ⟨qb_0, qb_1, qb_2, qb_3, qb_4⟩ := Qb_3.out
        have hlb := Qb_3.out.lt
        go_wp2_with fail
        refine (VB.out _ _ Qb_3.out.at0).mono ?_
        rintro e w4x ⟨rfl, nw4, rfl⟩
        obtain ⟨w4, hww4⟩ : ∃ W : World, W = w3.drewN nw4 := ⟨_, rfl⟩
        have hb : Below w3.heap.size w3 w4 := by rw [hww4]; exact bel_dT (Below.refl _ _) _
        rw [← hww4]
        clear hww4
        clear qa_0 qa_1 qa_2 qa_3 qa_4 qb_0 qb_1 qb_2 qb_3 qb_4 hla hlb
        have hsw4 := hb.size
        have HB4 := Lib.hid (HB3.out.trans (hb.mono HB3.out.size))
        have Qa_4 := Lib.hid (Qa_3.out.below hb)
        have Qb_4 := Lib.hid (Qb_3.out.below hb)
        clear hb Qa_3 Qb_3
        obtain ⟨qa_0, qa_1, qa_2, qa_3, qa_4⟩ := Qa_4.out
        have hla := Qa_4.out.lt
        obtain ⟨qb_0, qb_1, qb_2, qb_3, qb_4⟩ := Qb_4.out
        have hlb := Qb_4.out.lt
        go_wp2_with fail
        go_ret2
        exact ⟨rfl, HB4.out⟩
set_option maxRecDepth 100000 in
set_option maxHeartbeats 4000000 in
theorem implBetween_any (a0 a1 a2 a3 a4 b0 b1 b2 b3 b4 : Int) (f1 : fits a1) (f2 : fits b1) (w : World) :
    Calls Try.prog 29 #[.agg #[.int .i64 a0, .int .i64 a1, .int .i64 a2, .int .i64 a3, .int .i64 a4], .agg #[.int .i64 b0, .int .i64 b1, .int .i64 b2, .int .i64 b3, .int .i64 b4]] w fun e w' => e = .returned (fbV a0 a1 a2 a3 a4 b0 b1 b2 b3 b4) ∧ Below w.heap.size w w' := by
  unfold fbV
  have VA := Lib.hid (fun w => valid_any a0 a1 a2 a3 a4 f1 w)
  have VB := Lib.hid (fun w => valid_any b0 b1 b2 b3 b4 f2 w)
  clear f1 f2
  cases ka : okT a0 a1 a2 a3 a4 with
  | false =>
    rw [if_neg (by simp)]
    rw [ka] at VA
    clear ka
    go_enter Try.func29, Try.ntmps29
    go_wp2_with fail
    have HB0 : Hid (Below w.heap.size w w) := Lib.hid (Below.refl _ _)
    obtain ⟨wb1, hwwb1⟩ : ∃ W, W = w.alloc (Obj.cells #[Value.int .i64 a0, .int .i64 a1, .int .i64 a2, .int .i64 a3, .int .i64 a4] 25) := ⟨_, rfl⟩
    rw [← hwwb1]
    have hb : Below w.heap.size w wb1 := by rw [hwwb1]; exact (Below.refl _ _).alloc (Nat.le_refl _) _
    have hzwb1 : wb1.heap.size = w.heap.size + 1 := by rw [hwwb1]; simp
    have QNa := Lib.hid (Cd.BAt.new w (a0) (a1) (a2) (a3) (a4) 25)
    rw [← hwwb1] at QNa
    clear hwwb1
    have hswb1 := hb.size
    have HB1 := Lib.hid (HB0.out.trans (hb.mono HB0.out.size))
    clear hb
    have Qa_1 := QNa
    clear QNa
    have hla := Qa_1.out.lt
    obtain ⟨qa_0, qa_1, qa_2, qa_3, qa_4⟩ := Qa_1.out
    obtain ⟨wb2, hwwb2⟩ : ∃ W, W = wb1.alloc (Obj.cells #[Value.int .i64 b0, .int .i64 b1, .int .i64 b2, .int .i64 b3, .int .i64 b4] 25) := ⟨_, rfl⟩
    rw [← hwwb2]
    have hb : Below wb1.heap.size wb1 wb2 := by rw [hwwb2]; exact (Below.refl _ _).alloc (Nat.le_refl _) _
    have hzwb2 : wb2.heap.size = wb1.heap.size + 1 := by rw [hwwb2]; simp
    have QNb := Lib.hid (Cd.BAt.new wb1 (b0) (b1) (b2) (b3) (b4) 25)
    rw [← hwwb2] at QNb
    clear hwwb2
    rw [hzwb1] at QNb
    clear qa_0 qa_1 qa_2 qa_3 qa_4 hla
    have hswb2 := hb.size
    have HB2 := Lib.hid (HB1.out.trans (hb.mono HB1.out.size))
    have Qa_2 := Lib.hid (Qa_1.out.below hb)
    clear hb Qa_1
    obtain ⟨qa_0, qa_1, qa_2, qa_3, qa_4⟩ := Qa_2.out
    have hla := Qa_2.out.lt
    have Qb_2 := QNb
    clear QNb
    have hlb := Qb_2.out.lt
    obtain ⟨qb_0, qb_1, qb_2, qb_3, qb_4⟩ := Qb_2.out
    refine (VA.out _).mono ?_
    rintro e w3 ⟨rfl, hb⟩
    clear qa_0 qa_1 qa_2 qa_3 qa_4 qb_0 qb_1 qb_2 qb_3 qb_4 hla hlb
    have hsw3 := hb.size
    have HB3 := Lib.hid (HB2.out.trans (hb.mono HB2.out.size))
    have Qa_3 := Lib.hid (Qa_2.out.below hb)
    have Qb_3 := Lib.hid (Qb_2.out.below hb)
    clear hb Qa_2 Qb_2
    obtain ⟨qa_0, qa_1, qa_2, qa_3, qa_4⟩ := Qa_3.out
    have hla := Qa_3.out.lt
    obtain ⟨qb_0, qb_1, qb_2, qb_3, qb_4⟩ := Qb_3.out
    have hlb := Qb_3.out.lt
    go_wp2_with fail
    go_ret2
    exact ⟨rfl, HB3.out⟩
  | true =>
    rw [if_pos rfl]
    obtain ⟨ra0, ra1⟩ := frN_bd ka
    cases kb : okT b0 b1 b2 b3 b4 with
    | false =>
      rw [if_neg (by simp)]
      rw [ka] at VA
      rw [kb] at VB
      clear ka kb ra0 ra1
      go_enter Try.func29, Try.ntmps29
      go_wp2_with fail
      have HB0 : Hid (Below w.heap.size w w) := Lib.hid (Below.refl _ _)
      obtain ⟨wb1, hwwb1⟩ : ∃ W, W = w.alloc (Obj.cells #[Value.int .i64 a0, .int .i64 a1, .int .i64 a2, .int .i64 a3, .int .i64 a4] 25) := ⟨_, rfl⟩
      rw [← hwwb1]
      have hb : Below w.heap.size w wb1 := by rw [hwwb1]; exact (Below.refl _ _).alloc (Nat.le_refl _) _
      have hzwb1 : wb1.heap.size = w.heap.size + 1 := by rw [hwwb1]; simp
      have QNa := Lib.hid (Cd.BAt.new w (a0) (a1) (a2) (a3) (a4) 25)
      rw [← hwwb1] at QNa
      clear hwwb1
      have hswb1 := hb.size
      have HB1 := Lib.hid (HB0.out.trans (hb.mono HB0.out.size))
      clear hb
      have Qa_1 := QNa
      clear QNa
      have hla := Qa_1.out.lt
      obtain ⟨qa_0, qa_1, qa_2, qa_3, qa_4⟩ := Qa_1.out
      obtain ⟨wb2, hwwb2⟩ : ∃ W, W = wb1.alloc (Obj.cells #[Value.int .i64 b0, .int .i64 b1, .int .i64 b2, .int .i64 b3, .int .i64 b4] 25) := ⟨_, rfl⟩
      rw [← hwwb2]
      have hb : Below wb1.heap.size wb1 wb2 := by rw [hwwb2]; exact (Below.refl _ _).alloc (Nat.le_refl _) _
      have hzwb2 : wb2.heap.size = wb1.heap.size + 1 := by rw [hwwb2]; simp
      have QNb := Lib.hid (Cd.BAt.new wb1 (b0) (b1) (b2) (b3) (b4) 25)
      rw [← hwwb2] at QNb
      clear hwwb2
      rw [hzwb1] at QNb
      clear qa_0 qa_1 qa_2 qa_3 qa_4 hla
      have hswb2 := hb.size
      have HB2 := Lib.hid (HB1.out.trans (hb.mono HB1.out.size))
      have Qa_2 := Lib.hid (Qa_1.out.below hb)
      clear hb Qa_1
      obtain ⟨qa_0, qa_1, qa_2, qa_3, qa_4⟩ := Qa_2.out
      have hla := Qa_2.out.lt
      have Qb_2 := QNb
      clear QNb
      have hlb := Qb_2.out.lt
      obtain ⟨qb_0, qb_1, qb_2, qb_3, qb_4⟩ := Qb_2.out
      refine (VA.out _).mono ?_
      rintro e w3 ⟨rfl, hb⟩
      clear qa_0 qa_1 qa_2 qa_3 qa_4 qb_0 qb_1 qb_2 qb_3 qb_4 hla hlb
      have hsw3 := hb.size
      have HB3 := Lib.hid (HB2.out.trans (hb.mono HB2.out.size))
      have Qa_3 := Lib.hid (Qa_2.out.below hb)
      have Qb_3 := Lib.hid (Qb_2.out.below hb)
      clear hb Qa_2 Qb_2
      obtain ⟨qa_0, qa_1, qa_2, qa_3, qa_4⟩ := Qa_3.out
      have hla := Qa_3.out.lt
      obtain ⟨qb_0, qb_1, qb_2, qb_3, qb_4⟩ := Qb_3.out
      have hlb := Qb_3.out.lt
      go_wp2_with fail
      refine (VB.out _).mono ?_
      rintro e w4 ⟨rfl, hb⟩
      clear qa_0 qa_1 qa_2 qa_3 qa_4 qb_0 qb_1 qb_2 qb_3 qb_4 hla hlb
      have hsw4 := hb.size
      have HB4 := Lib.hid (HB3.out.trans (hb.mono HB3.out.size))
      have Qa_4 := Lib.hid (Qa_3.out.below hb)
      have Qb_4 := Lib.hid (Qb_3.out.below hb)
      clear hb Qa_3 Qb_3
      obtain ⟨qa_0, qa_1, qa_2, qa_3, qa_4⟩ := Qa_4.out
      have hla := Qa_4.out.lt
      obtain ⟨qb_0, qb_1, qb_2, qb_3, qb_4⟩ := Qb_4.out
      have hlb := Qb_4.out.lt
      go_wp2_with fail
      go_ret2
      exact ⟨rfl, HB4.out⟩
    | true =>
      rw [if_pos rfl]
      obtain ⟨rb0, rb1⟩ := frN_bd kb
      have FA := Lib.hid (fun w => frame_any a0 a1 a2 a3 a4 ka w)
      have FB := Lib.hid (fun w => frame_any b0 b1 b2 b3 b4 kb w)
      rw [ka] at VA
      rw [kb] at VB
      clear ka kb
      generalize frN a0 a1 a2 a3 a4 = za at *
      generalize frN b0 b1 b2 b3 b4 = zb at *
      by_cases hr : a4 = b4
      · rw [if_pos hr]
        have hq : (a4 != b4) = false := by rw [bne, beq_iff_eq.2 hr]; rfl
        have wz : IntKind.i64.wrap (zb - za) = zb - za := IntWalk.i64_in _ (by omega)
        clear hr
        go_enter Try.func29, Try.ntmps29
        go_wp2_with fail
        have HB0 : Hid (Below w.heap.size w w) := Lib.hid (Below.refl _ _)
        obtain ⟨wb1, hwwb1⟩ : ∃ W, W = w.alloc (Obj.cells #[Value.int .i64 a0, .int .i64 a1, .int .i64 a2, .int .i64 a3, .int .i64 a4] 25) := ⟨_, rfl⟩
        rw [← hwwb1]
        have hb : Below w.heap.size w wb1 := by rw [hwwb1]; exact (Below.refl _ _).alloc (Nat.le_refl _) _
        have hzwb1 : wb1.heap.size = w.heap.size + 1 := by rw [hwwb1]; simp
        have QNa := Lib.hid (Cd.BAt.new w (a0) (a1) (a2) (a3) (a4) 25)
        rw [← hwwb1] at QNa
        clear hwwb1
        have hswb1 := hb.size
        have HB1 := Lib.hid (HB0.out.trans (hb.mono HB0.out.size))
        clear hb
        have Qa_1 := QNa
        clear QNa
        have hla := Qa_1.out.lt
        obtain ⟨qa_0, qa_1, qa_2, qa_3, qa_4⟩ := Qa_1.out
        obtain ⟨wb2, hwwb2⟩ : ∃ W, W = wb1.alloc (Obj.cells #[Value.int .i64 b0, .int .i64 b1, .int .i64 b2, .int .i64 b3, .int .i64 b4] 25) := ⟨_, rfl⟩
        rw [← hwwb2]
        have hb : Below wb1.heap.size wb1 wb2 := by rw [hwwb2]; exact (Below.refl _ _).alloc (Nat.le_refl _) _
        have hzwb2 : wb2.heap.size = wb1.heap.size + 1 := by rw [hwwb2]; simp
        have QNb := Lib.hid (Cd.BAt.new wb1 (b0) (b1) (b2) (b3) (b4) 25)
        rw [← hwwb2] at QNb
        clear hwwb2
        rw [hzwb1] at QNb
        clear qa_0 qa_1 qa_2 qa_3 qa_4 hla
        have hswb2 := hb.size
        have HB2 := Lib.hid (HB1.out.trans (hb.mono HB1.out.size))
        have Qa_2 := Lib.hid (Qa_1.out.below hb)
        clear hb Qa_1
        obtain ⟨qa_0, qa_1, qa_2, qa_3, qa_4⟩ := Qa_2.out
        have hla := Qa_2.out.lt
        have Qb_2 := QNb
        clear QNb
        have hlb := Qb_2.out.lt
        obtain ⟨qb_0, qb_1, qb_2, qb_3, qb_4⟩ := Qb_2.out
        refine (VA.out _).mono ?_
        rintro e w3 ⟨rfl, hb⟩
        clear qa_0 qa_1 qa_2 qa_3 qa_4 qb_0 qb_1 qb_2 qb_3 qb_4 hla hlb
        have hsw3 := hb.size
        have HB3 := Lib.hid (HB2.out.trans (hb.mono HB2.out.size))
        have Qa_3 := Lib.hid (Qa_2.out.below hb)
        have Qb_3 := Lib.hid (Qb_2.out.below hb)
        clear hb Qa_2 Qb_2
        obtain ⟨qa_0, qa_1, qa_2, qa_3, qa_4⟩ := Qa_3.out
        have hla := Qa_3.out.lt
        obtain ⟨qb_0, qb_1, qb_2, qb_3, qb_4⟩ := Qb_3.out
        have hlb := Qb_3.out.lt
        go_wp2_with fail
        refine (VB.out _).mono ?_
        rintro e w4 ⟨rfl, hb⟩
        clear qa_0 qa_1 qa_2 qa_3 qa_4 qb_0 qb_1 qb_2 qb_3 qb_4 hla hlb
        have hsw4 := hb.size
        have HB4 := Lib.hid (HB3.out.trans (hb.mono HB3.out.size))
        have Qa_4 := Lib.hid (Qa_3.out.below hb)
        have Qb_4 := Lib.hid (Qb_3.out.below hb)
        clear hb Qa_3 Qb_3
        obtain ⟨qa_0, qa_1, qa_2, qa_3, qa_4⟩ := Qa_4.out
        have hla := Qa_4.out.lt
        obtain ⟨qb_0, qb_1, qb_2, qb_3, qb_4⟩ := Qb_4.out
        have hlb := Qb_4.out.lt
        go_wp2_with fail
        have KB : Hid (w4.cell? ⟨w.heap.size, 0, none⟩ = some (.int .i64 (a0)) ∧ w4.cell? ⟨w.heap.size, 1, none⟩ = some (.int .i64 (a1)) ∧ w4.cell? ⟨w.heap.size, 2, none⟩ = some (.int .i64 (a2)) ∧ w4.cell? ⟨w.heap.size, 3, none⟩ = some (.int .i64 (a3)) ∧ w4.cell? ⟨w.heap.size, 4, none⟩ = some (.int .i64 (a4)) ∧ w4.cell? ⟨w.heap.size + 1, 0, none⟩ = some (.int .i64 (b0)) ∧ w4.cell? ⟨w.heap.size + 1, 1, none⟩ = some (.int .i64 (b1)) ∧ w4.cell? ⟨w.heap.size + 1, 2, none⟩ = some (.int .i64 (b2)) ∧ w4.cell? ⟨w.heap.size + 1, 3, none⟩ = some (.int .i64 (b3)) ∧ w4.cell? ⟨w.heap.size + 1, 4, none⟩ = some (.int .i64 (b4)) ∧ Below w4.heap.size w4 w4) := Lib.hid ⟨qa_0, qa_1, qa_2, qa_3, qa_4, qb_0, qb_1, qb_2, qb_3, qb_4, Below.refl _ _⟩
        go_region_held3 (fun W => W.cell? ⟨w.heap.size, 0, none⟩ = some (.int .i64 (a0)) ∧ W.cell? ⟨w.heap.size, 1, none⟩ = some (.int .i64 (a1)) ∧ W.cell? ⟨w.heap.size, 2, none⟩ = some (.int .i64 (a2)) ∧ W.cell? ⟨w.heap.size, 3, none⟩ = some (.int .i64 (a3)) ∧ W.cell? ⟨w.heap.size, 4, none⟩ = some (.int .i64 (a4)) ∧ W.cell? ⟨w.heap.size + 1, 0, none⟩ = some (.int .i64 (b0)) ∧ W.cell? ⟨w.heap.size + 1, 1, none⟩ = some (.int .i64 (b1)) ∧ W.cell? ⟨w.heap.size + 1, 2, none⟩ = some (.int .i64 (b2)) ∧ W.cell? ⟨w.heap.size + 1, 3, none⟩ = some (.int .i64 (b3)) ∧ W.cell? ⟨w.heap.size + 1, 4, none⟩ = some (.int .i64 (b4)) ∧ Below w4.heap.size w4 W) (first | (exact keepW10 KB.out (drewG w4)) | (exact keepW10 KB.out y2) | (exact keepW10 KB.out y1) | go_keep) ((first
          | (go_at_call 50; (with_reducible refine (FA.out _).mono ?_); rintro e x2 ⟨rfl, hx2⟩; have y2 := y1.trans (hx2.mono y1.size))
          | (go_at_call 50; (with_reducible refine (FB.out _).mono ?_); rintro e x1 ⟨rfl, hx1⟩; have y1 := undrewG hx1)))
        rename_i held
        have hb := y2
        clear held KB hx1 hx2 y1 y2
        obtain ⟨w5, hew5⟩ : ∃ W, W = x2 := ⟨_, rfl⟩
        rw [← hew5] at hb ⊢
        clear hew5
        clear qa_0 qa_1 qa_2 qa_3 qa_4 qb_0 qb_1 qb_2 qb_3 qb_4 hla hlb
        have hsw5 := hb.size
        have HB5 := Lib.hid (HB4.out.trans (hb.mono HB4.out.size))
        have Qa_5 := Lib.hid (Qa_4.out.below hb)
        have Qb_5 := Lib.hid (Qb_4.out.below hb)
        clear hb Qa_4 Qb_4
        obtain ⟨qa_0, qa_1, qa_2, qa_3, qa_4⟩ := Qa_5.out
        have hla := Qa_5.out.lt
        obtain ⟨qb_0, qb_1, qb_2, qb_3, qb_4⟩ := Qb_5.out
        have hlb := Qb_5.out.lt
        go_wp2_with fail
        go_ret2
        exact ⟨rfl, HB5.out⟩
      · rw [if_neg hr]
        have hq : (a4 != b4) = true := by rw [bne, beq_eq_false_iff_ne.2 hr]; rfl
        clear ra0 ra1 rb0 rb1 hr
        go_enter Try.func29, Try.ntmps29
        go_wp2_with fail
        have HB0 : Hid (Below w.heap.size w w) := Lib.hid (Below.refl _ _)
        obtain ⟨wb1, hwwb1⟩ : ∃ W, W = w.alloc (Obj.cells #[Value.int .i64 a0, .int .i64 a1, .int .i64 a2, .int .i64 a3, .int .i64 a4] 25) := ⟨_, rfl⟩
        rw [← hwwb1]
        have hb : Below w.heap.size w wb1 := by rw [hwwb1]; exact (Below.refl _ _).alloc (Nat.le_refl _) _
        have hzwb1 : wb1.heap.size = w.heap.size + 1 := by rw [hwwb1]; simp
        have QNa := Lib.hid (Cd.BAt.new w (a0) (a1) (a2) (a3) (a4) 25)
        rw [← hwwb1] at QNa
        clear hwwb1
        have hswb1 := hb.size
        have HB1 := Lib.hid (HB0.out.trans (hb.mono HB0.out.size))
        clear hb
        have Qa_1 := QNa
        clear QNa
        have hla := Qa_1.out.lt
        obtain ⟨qa_0, qa_1, qa_2, qa_3, qa_4⟩ := Qa_1.out
        obtain ⟨wb2, hwwb2⟩ : ∃ W, W = wb1.alloc (Obj.cells #[Value.int .i64 b0, .int .i64 b1, .int .i64 b2, .int .i64 b3, .int .i64 b4] 25) := ⟨_, rfl⟩
        rw [← hwwb2]
        have hb : Below wb1.heap.size wb1 wb2 := by rw [hwwb2]; exact (Below.refl _ _).alloc (Nat.le_refl _) _
        have hzwb2 : wb2.heap.size = wb1.heap.size + 1 := by rw [hwwb2]; simp
        have QNb := Lib.hid (Cd.BAt.new wb1 (b0) (b1) (b2) (b3) (b4) 25)
        rw [← hwwb2] at QNb
        clear hwwb2
        rw [hzwb1] at QNb
        clear qa_0 qa_1 qa_2 qa_3 qa_4 hla
        have hswb2 := hb.size
        have HB2 := Lib.hid (HB1.out.trans (hb.mono HB1.out.size))
        have Qa_2 := Lib.hid (Qa_1.out.below hb)
        clear hb Qa_1
        obtain ⟨qa_0, qa_1, qa_2, qa_3, qa_4⟩ := Qa_2.out
        have hla := Qa_2.out.lt
        have Qb_2 := QNb
        clear QNb
        have hlb := Qb_2.out.lt
        obtain ⟨qb_0, qb_1, qb_2, qb_3, qb_4⟩ := Qb_2.out
        refine (VA.out _).mono ?_
        rintro e w3 ⟨rfl, hb⟩
        clear qa_0 qa_1 qa_2 qa_3 qa_4 qb_0 qb_1 qb_2 qb_3 qb_4 hla hlb
        have hsw3 := hb.size
        have HB3 := Lib.hid (HB2.out.trans (hb.mono HB2.out.size))
        have Qa_3 := Lib.hid (Qa_2.out.below hb)
        have Qb_3 := Lib.hid (Qb_2.out.below hb)
        clear hb Qa_2 Qb_2
        obtain ⟨qa_0, qa_1, qa_2, qa_3, qa_4⟩ := Qa_3.out
        have hla := Qa_3.out.lt
        obtain ⟨qb_0, qb_1, qb_2, qb_3, qb_4⟩ := Qb_3.out
        have hlb := Qb_3.out.lt
        go_wp2_with fail
        refine (VB.out _).mono ?_
        rintro e w4 ⟨rfl, hb⟩
        clear qa_0 qa_1 qa_2 qa_3 qa_4 qb_0 qb_1 qb_2 qb_3 qb_4 hla hlb
        have hsw4 := hb.size
        have HB4 := Lib.hid (HB3.out.trans (hb.mono HB3.out.size))
        have Qa_4 := Lib.hid (Qa_3.out.below hb)
        have Qb_4 := Lib.hid (Qb_3.out.below hb)
        clear hb Qa_3 Qb_3
        obtain ⟨qa_0, qa_1, qa_2, qa_3, qa_4⟩ := Qa_4.out
        have hla := Qa_4.out.lt
        obtain ⟨qb_0, qb_1, qb_2, qb_3, qb_4⟩ := Qb_4.out
        have hlb := Qb_4.out.lt
        go_wp2_with fail
        go_ret2
        exact ⟨rfl, HB4.out⟩
end Go.Proofs.Ytecnhbgkkfcipaa.Tc
