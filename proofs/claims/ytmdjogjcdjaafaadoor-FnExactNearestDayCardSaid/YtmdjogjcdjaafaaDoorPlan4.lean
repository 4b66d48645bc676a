/-
  How planets are seen: the contracts of SeenAngle, SeenDistance, Elongation, PhaseOf (package spec).
-/
import Derived.Test.YtmdjogjcdjaafaaDoorPlan3
namespace Go.Proofs.YtmdjogjcdjaafaaDoor
open Go.RowKit
set_option linter.unusedVariables false
theorem sq_le (n m : Int) (h : -m ≤ n) (h' : n ≤ m) : 0 ≤ n * n ∧ n * n ≤ m * m := by
  have p := pr_bd n n m m h h' h h'
  refine ⟨?_, p.2⟩
  rcases (show n < 0 ∨ 0 ≤ n by omega) with c | c
  · exact Int.mul_nonneg_of_nonpos_of_nonpos (by omega) (by omega)
  · exact Int.mul_nonneg c c
/-- What SeenAngle returns. -/
def seeV (s : ByteArray) (a b c : Int) (t : ByteArray) (x y z d m : Int) : Value := if askP s a b c t x y z d m = 0 then .tuple #[.int .i64 (dirI (wY a b c x y z d m) (wX a b c x y z d m)), .int .i64 0] else .tuple #[.int .i64 0, .int .i64 (askP s a b c t x y z d m)]
theorem seeV_form (s : ByteArray) (a b c : Int) (t : ByteArray) (x y z d m : Int) : ∃ p q : Int, seeV s a b c t x y z d m = .tuple #[.int .i64 p, .int .i64 q] := by
  unfold seeV
  split <;> exact ⟨_, _, rfl⟩
set_option maxHeartbeats 2000000 in
theorem specSeenAngle_any (s : ByteArray) (a b c : Int) (t : ByteArray) (x y z d m : Int) (w : World) :
    Calls Tryd.prog 15 #[.agg #[.string s, .int .i64 a, .int .i64 b, .int .i64 c], .agg #[.string t, .int .i64 x, .int .i64 y, .int .i64 z], .agg #[.int .i64 d, .int .i64 m]] w fun e w' => e = .returned (seeV s a b c t x y z d m) ∧ Below w.heap.size w w' := by
  unfold seeV
  have K := Lib.hid (fun w' p q => l07Ask_at w.heap.size (w.heap.size + 1) s a b c t x y z d m w' p q)
  by_cases h : askP s a b c t x y z d m = 0
  · rw [if_pos h]
    rw [h] at K
    obtain ⟨hp, hq, hm, hn⟩ := askP_0 _ _ _ _ _ _ _ _ _ _ h
    obtain ⟨⟨a0, a1⟩, ⟨b0, b1⟩, c0, c1⟩ := planet_bd s a b c hp
    obtain ⟨⟨x0, x1⟩, ⟨y0, y1⟩, z0, z1⟩ := planet_bd t x y z hq
    obtain ⟨⟨d0, d1⟩, n0, n1⟩ := okM_bd d m hm
    have S := Lib.hid (fun w' p q => l07Seen_at w.heap.size (w.heap.size + 1) s a b c t x y z d m hp hq hm w' p q)
    have sb := dirI_bd (wY a b c x y z d m) (wX a b c x y z d m)
    generalize dirI (wY a b c x y z d m) (wX a b c x y z d m) = R at *
    clear h hp hq hm hn a0 a1 b0 b1 c0 c1 x0 x1 y0 y1 z0 z1 d0 d1 n0 n1
    obtain ⟨W0, hW0⟩ : ∃ W0, W0 = ((w.alloc (.cells #[.string s, .int .i64 a, .int .i64 b, .int .i64 c] 29)).alloc (.cells #[.string t, .int .i64 x, .int .i64 y, .int .i64 z] 29)).alloc (.cells #[.int .i64 d, .int .i64 m] 31) := ⟨_, rfl⟩
    have HB0 : Hid (Below w.heap.size w W0) := Lib.hid (by rw [hW0]; exact (((Below.refl _ _).alloc (Nat.le_refl _) _).alloc (by first | (simp; done) | (simp; omega)) _).alloc (by first | (simp; done) | (simp; omega)) _)
    have P0 : Hid (Pl W0 w.heap.size s a b c) := Lib.hid (by rw [hW0]; exact ((Pl.new _ _ _ _ _ _).alloc _).alloc _)
    have Q0 : Hid (Pl W0 (w.heap.size + 1) t x y z) := Lib.hid (by rw [hW0]; simpa using (Pl.new (w.alloc (.cells #[.string s, .int .i64 a, .int .i64 b, .int .i64 c] 29)) 29 t x y z).alloc (.cells #[.int .i64 d, .int .i64 m] 31))
    have M0 : Hid (Mo W0 (w.heap.size + 1 + 1) d m) := Lib.hid (by rw [hW0]; simpa using Mo.new ((w.alloc (.cells #[.string s, .int .i64 a, .int .i64 b, .int .i64 c] 29)).alloc (.cells #[.string t, .int .i64 x, .int .i64 y, .int .i64 z] 29)) 31 d m)
    have HW := Lib.hid hW0
    clear hW0
    go_enter Tryd.func15, Tryd.ntmps15
    obtain ⟨m0, m1⟩ := M0.out
    go_wp2_with fail
    rw [← HW.out]
    clear HW
    refine (K.out _ P0.out Q0.out).mono ?_
    rintro e w1 ⟨rfl, hb⟩
    have P1 := Lib.hid (P0.out.below hb)
    have Q1 := Lib.hid (Q0.out.below hb)
    have M1 := Lib.hid (M0.out.below hb)
    have HB1 := Lib.hid (HB0.out.trans (hb.mono HB0.out.size))
    clear hb m0 m1
    obtain ⟨m0, m1⟩ := M1.out
    go_wp2_with fail
    refine (S.out _ P1.out Q1.out).mono ?_
    rintro e w2 ⟨rfl, hb⟩
    have P2 := Lib.hid (P1.out.below hb)
    have Q2 := Lib.hid (Q1.out.below hb)
    have M2 := Lib.hid (M1.out.below hb)
    have HB2 := Lib.hid (HB1.out.trans (hb.mono HB1.out.size))
    clear hb m0 m1
    obtain ⟨m0, m1⟩ := M2.out
    go_wp2_with fail
    refine bodyPost_ret (v := .tuple #[.int .i64 R, .int .i64 0]) (by first | (simp [results, Tryd.results15, go_sem]; done) | (simp [results, Tryd.results15, go_sem, *]; done)) rfl ⟨rfl, ?_⟩
    repeat (first | exact Below.refl _ _ | exact HB2.out | refine Below.setCell ?_ (by first | (simp; done) | omega | (simp; omega)) _ | refine Below.alloc ?_ (by first | (simp; done) | omega | (simp; omega)) _ | refine bel_drew ?_)
  · rw [if_neg h]
    generalize askP s a b c t x y z d m = k at *
    have hk : (k == 0) = false := by simpa using h
    clear h
    obtain ⟨W0, hW0⟩ : ∃ W0, W0 = ((w.alloc (.cells #[.string s, .int .i64 a, .int .i64 b, .int .i64 c] 29)).alloc (.cells #[.string t, .int .i64 x, .int .i64 y, .int .i64 z] 29)).alloc (.cells #[.int .i64 d, .int .i64 m] 31) := ⟨_, rfl⟩
    have HB0 : Hid (Below w.heap.size w W0) := Lib.hid (by rw [hW0]; exact (((Below.refl _ _).alloc (Nat.le_refl _) _).alloc (by first | (simp; done) | (simp; omega)) _).alloc (by first | (simp; done) | (simp; omega)) _)
    have P0 : Hid (Pl W0 w.heap.size s a b c) := Lib.hid (by rw [hW0]; exact ((Pl.new _ _ _ _ _ _).alloc _).alloc _)
    have Q0 : Hid (Pl W0 (w.heap.size + 1) t x y z) := Lib.hid (by rw [hW0]; simpa using (Pl.new (w.alloc (.cells #[.string s, .int .i64 a, .int .i64 b, .int .i64 c] 29)) 29 t x y z).alloc (.cells #[.int .i64 d, .int .i64 m] 31))
    have M0 : Hid (Mo W0 (w.heap.size + 1 + 1) d m) := Lib.hid (by rw [hW0]; simpa using Mo.new ((w.alloc (.cells #[.string s, .int .i64 a, .int .i64 b, .int .i64 c] 29)).alloc (.cells #[.string t, .int .i64 x, .int .i64 y, .int .i64 z] 29)) 31 d m)
    have HW := Lib.hid hW0
    clear hW0
    go_enter Tryd.func15, Tryd.ntmps15
    obtain ⟨m0, m1⟩ := M0.out
    go_wp2_with fail
    rw [← HW.out]
    clear HW
    refine (K.out _ P0.out Q0.out).mono ?_
    rintro e w1 ⟨rfl, hb⟩
    have P1 := Lib.hid (P0.out.below hb)
    have Q1 := Lib.hid (Q0.out.below hb)
    have M1 := Lib.hid (M0.out.below hb)
    have HB1 := Lib.hid (HB0.out.trans (hb.mono HB0.out.size))
    clear hb m0 m1
    obtain ⟨m0, m1⟩ := M1.out
    go_wp2_with fail
    refine bodyPost_ret (v := .tuple #[.int .i64 0, .int .i64 k]) (by first | (simp [results, Tryd.results15, go_sem]; done) | (simp [results, Tryd.results15, go_sem, *]; done)) rfl ⟨rfl, ?_⟩
    repeat (first | exact Below.refl _ _ | exact HB1.out | refine Below.setCell ?_ (by first | (simp; done) | omega | (simp; omega)) _ | refine Below.alloc ?_ (by first | (simp; done) | omega | (simp; omega)) _ | refine bel_drew ?_)

/-- What SeenDistance returns. -/
def disV (s : ByteArray) (a b c : Int) (t : ByteArray) (x y z d m : Int) : Value := if askP s a b c t x y z d m = 0 then .tuple #[.int .i64 (rootI (wX a b c x y z d m * wX a b c x y z d m + wY a b c x y z d m * wY a b c x y z d m)), .int .i64 0] else .tuple #[.int .i64 0, .int .i64 (askP s a b c t x y z d m)]
theorem disV_form (s : ByteArray) (a b c : Int) (t : ByteArray) (x y z d m : Int) : ∃ p q : Int, disV s a b c t x y z d m = .tuple #[.int .i64 p, .int .i64 q] := by
  unfold disV
  split <;> exact ⟨_, _, rfl⟩
set_option maxHeartbeats 2000000 in
theorem specSeenDistance_any (s : ByteArray) (a b c : Int) (t : ByteArray) (x y z d m : Int) (w : World) :
    Calls Tryd.prog 17 #[.agg #[.string s, .int .i64 a, .int .i64 b, .int .i64 c], .agg #[.string t, .int .i64 x, .int .i64 y, .int .i64 z], .agg #[.int .i64 d, .int .i64 m]] w fun e w' => e = .returned (disV s a b c t x y z d m) ∧ Below w.heap.size w w' := by
  unfold disV
  have K := Lib.hid (fun w' p q => l07Ask_at w.heap.size (w.heap.size + 1) s a b c t x y z d m w' p q)
  by_cases h : askP s a b c t x y z d m = 0
  · rw [if_pos h]
    rw [h] at K
    obtain ⟨hp, hq, hm, hn⟩ := askP_0 _ _ _ _ _ _ _ _ _ _ h
    obtain ⟨⟨a0, a1⟩, ⟨b0, b1⟩, c0, c1⟩ := planet_bd s a b c hp
    obtain ⟨⟨x0, x1⟩, ⟨y0, y1⟩, z0, z1⟩ := planet_bd t x y z hq
    obtain ⟨⟨d0, d1⟩, n0, n1⟩ := okM_bd d m hm
    have S := Lib.hid (fun w' p q => l07Way_at w.heap.size (w.heap.size + 1) s a b c t x y z d m hp hq hm w' p q)
    have q1 := wX_bd a b c x y z d m b0 b1 y0 y1
    have q2 := wY_bd a b c x y z d m b0 b1 y0 y1
    generalize wX a b c x y z d m = X at *
    generalize wY a b c x y z d m = Y at *
    have r1 := sq_le X 100000000 q1.1 q1.2
    have r2 := sq_le Y 100000000 q2.1 q2.2
    have RT := Lib.hid (fun w => l01RootI_any (X * X + Y * Y) w (by omega))
    have f1 : wrap64 (X * X) = X * X := IntWalk.wrap64_in _ (by omega)
    have f2 : wrap64 (Y * Y) = Y * Y := IntWalk.wrap64_in _ (by omega)
    have f3 : wrap64 (X * X + Y * Y) = X * X + Y * Y := IntWalk.wrap64_in _ (by omega)
    have F := Lib.hid (And.intro f1 (And.intro f2 f3))
    clear f1 f2 f3 q1 q2 r1 r2
    generalize rootI (X * X + Y * Y) = R at *
    clear h hp hq hm hn a0 a1 b0 b1 c0 c1 x0 x1 y0 y1 z0 z1 d0 d1 n0 n1
    obtain ⟨W0, hW0⟩ : ∃ W0, W0 = ((w.alloc (.cells #[.string s, .int .i64 a, .int .i64 b, .int .i64 c] 29)).alloc (.cells #[.string t, .int .i64 x, .int .i64 y, .int .i64 z] 29)).alloc (.cells #[.int .i64 d, .int .i64 m] 31) := ⟨_, rfl⟩
    have HB0 : Hid (Below w.heap.size w W0) := Lib.hid (by rw [hW0]; exact (((Below.refl _ _).alloc (Nat.le_refl _) _).alloc (by first | (simp; done) | (simp; omega)) _).alloc (by first | (simp; done) | (simp; omega)) _)
    have P0 : Hid (Pl W0 w.heap.size s a b c) := Lib.hid (by rw [hW0]; exact ((Pl.new _ _ _ _ _ _).alloc _).alloc _)
    have Q0 : Hid (Pl W0 (w.heap.size + 1) t x y z) := Lib.hid (by rw [hW0]; simpa using (Pl.new (w.alloc (.cells #[.string s, .int .i64 a, .int .i64 b, .int .i64 c] 29)) 29 t x y z).alloc (.cells #[.int .i64 d, .int .i64 m] 31))
    have M0 : Hid (Mo W0 (w.heap.size + 1 + 1) d m) := Lib.hid (by rw [hW0]; simpa using Mo.new ((w.alloc (.cells #[.string s, .int .i64 a, .int .i64 b, .int .i64 c] 29)).alloc (.cells #[.string t, .int .i64 x, .int .i64 y, .int .i64 z] 29)) 31 d m)
    have HW := Lib.hid hW0
    clear hW0
    go_enter Tryd.func17, Tryd.ntmps17
    obtain ⟨m0, m1⟩ := M0.out
    go_wp2_with fail
    rw [← HW.out]
    clear HW
    refine (K.out _ P0.out Q0.out).mono ?_
    rintro e w1 ⟨rfl, hb⟩
    have P1 := Lib.hid (P0.out.below hb)
    have Q1 := Lib.hid (Q0.out.below hb)
    have M1 := Lib.hid (M0.out.below hb)
    have HB1 := Lib.hid (HB0.out.trans (hb.mono HB0.out.size))
    clear hb m0 m1
    obtain ⟨m0, m1⟩ := M1.out
    go_wp2_with fail
    refine (S.out _ P1.out Q1.out).mono ?_
    rintro e w2 ⟨rfl, hb⟩
    have P2 := Lib.hid (P1.out.below hb)
    have Q2 := Lib.hid (Q1.out.below hb)
    have M2 := Lib.hid (M1.out.below hb)
    have HB2 := Lib.hid (HB1.out.trans (hb.mono HB1.out.size))
    clear hb m0 m1
    obtain ⟨m0, m1⟩ := M2.out
    go_wp2_with fail
    try rw [F.out.1]
    try rw [F.out.2.1]
    try rw [F.out.2.2]
    refine (RT.out _).mono ?_
    rintro e w' ⟨rfl, rfl⟩
    go_wp2_with fail
    refine bodyPost_ret (v := .tuple #[.int .i64 R, .int .i64 0]) (by first | (simp [results, Tryd.results17, go_sem]; done) | (simp [results, Tryd.results17, go_sem, *]; done)) rfl ⟨rfl, ?_⟩
    repeat (first | exact Below.refl _ _ | exact HB2.out | refine Below.setCell ?_ (by first | (simp; done) | omega | (simp; omega)) _ | refine Below.alloc ?_ (by first | (simp; done) | omega | (simp; omega)) _ | refine bel_drew ?_)
  · rw [if_neg h]
    generalize askP s a b c t x y z d m = k at *
    have hk : (k == 0) = false := by simpa using h
    clear h
    obtain ⟨W0, hW0⟩ : ∃ W0, W0 = ((w.alloc (.cells #[.string s, .int .i64 a, .int .i64 b, .int .i64 c] 29)).alloc (.cells #[.string t, .int .i64 x, .int .i64 y, .int .i64 z] 29)).alloc (.cells #[.int .i64 d, .int .i64 m] 31) := ⟨_, rfl⟩
    have HB0 : Hid (Below w.heap.size w W0) := Lib.hid (by rw [hW0]; exact (((Below.refl _ _).alloc (Nat.le_refl _) _).alloc (by first | (simp; done) | (simp; omega)) _).alloc (by first | (simp; done) | (simp; omega)) _)
    have P0 : Hid (Pl W0 w.heap.size s a b c) := Lib.hid (by rw [hW0]; exact ((Pl.new _ _ _ _ _ _).alloc _).alloc _)
    have Q0 : Hid (Pl W0 (w.heap.size + 1) t x y z) := Lib.hid (by rw [hW0]; simpa using (Pl.new (w.alloc (.cells #[.string s, .int .i64 a, .int .i64 b, .int .i64 c] 29)) 29 t x y z).alloc (.cells #[.int .i64 d, .int .i64 m] 31))
    have M0 : Hid (Mo W0 (w.heap.size + 1 + 1) d m) := Lib.hid (by rw [hW0]; simpa using Mo.new ((w.alloc (.cells #[.string s, .int .i64 a, .int .i64 b, .int .i64 c] 29)).alloc (.cells #[.string t, .int .i64 x, .int .i64 y, .int .i64 z] 29)) 31 d m)
    have HW := Lib.hid hW0
    clear hW0
    go_enter Tryd.func17, Tryd.ntmps17
    obtain ⟨m0, m1⟩ := M0.out
    go_wp2_with fail
    rw [← HW.out]
    clear HW
    refine (K.out _ P0.out Q0.out).mono ?_
    rintro e w1 ⟨rfl, hb⟩
    have P1 := Lib.hid (P0.out.below hb)
    have Q1 := Lib.hid (Q0.out.below hb)
    have M1 := Lib.hid (M0.out.below hb)
    have HB1 := Lib.hid (HB0.out.trans (hb.mono HB0.out.size))
    clear hb m0 m1
    obtain ⟨m0, m1⟩ := M1.out
    go_wp2_with fail
    refine bodyPost_ret (v := .tuple #[.int .i64 0, .int .i64 k]) (by first | (simp [results, Tryd.results17, go_sem]; done) | (simp [results, Tryd.results17, go_sem, *]; done)) rfl ⟨rfl, ?_⟩
    repeat (first | exact Below.refl _ _ | exact HB1.out | refine Below.setCell ?_ (by first | (simp; done) | omega | (simp; omega)) _ | refine Below.alloc ?_ (by first | (simp; done) | omega | (simp; omega)) _ | refine bel_drew ?_)

/-- What Elongation returns. -/
def eloV (s : ByteArray) (a b c : Int) (t : ByteArray) (x y z d m : Int) : Value := if askP s a b c t x y z d m = 0 then .tuple #[.int .i64 (btw (dirI (wY a b c x y z d m) (wX a b c x y z d m)) (orbI x z d m + 180000)), .int .i64 0] else .tuple #[.int .i64 0, .int .i64 (askP s a b c t x y z d m)]
theorem eloV_form (s : ByteArray) (a b c : Int) (t : ByteArray) (x y z d m : Int) : ∃ p q : Int, eloV s a b c t x y z d m = .tuple #[.int .i64 p, .int .i64 q] := by
  unfold eloV
  split <;> exact ⟨_, _, rfl⟩
set_option maxHeartbeats 2000000 in
theorem specElongation_any (s : ByteArray) (a b c : Int) (t : ByteArray) (x y z d m : Int) (w : World) :
    Calls Tryd.prog 19 #[.agg #[.string s, .int .i64 a, .int .i64 b, .int .i64 c], .agg #[.string t, .int .i64 x, .int .i64 y, .int .i64 z], .agg #[.int .i64 d, .int .i64 m]] w fun e w' => e = .returned (eloV s a b c t x y z d m) ∧ Below w.heap.size w w' := by
  unfold eloV
  have K := Lib.hid (fun w' p q => l07Ask_at w.heap.size (w.heap.size + 1) s a b c t x y z d m w' p q)
  by_cases h : askP s a b c t x y z d m = 0
  · rw [if_pos h]
    rw [h] at K
    obtain ⟨hp, hq, hm, hn⟩ := askP_0 _ _ _ _ _ _ _ _ _ _ h
    obtain ⟨⟨a0, a1⟩, ⟨b0, b1⟩, c0, c1⟩ := planet_bd s a b c hp
    obtain ⟨⟨x0, x1⟩, ⟨y0, y1⟩, z0, z1⟩ := planet_bd t x y z hq
    obtain ⟨⟨d0, d1⟩, n0, n1⟩ := okM_bd d m hm
    have S := Lib.hid (fun w' p q => l07Seen_at w.heap.size (w.heap.size + 1) s a b c t x y z d m hp hq hm w' p q)
    have sb := dirI_bd (wY a b c x y z d m) (wX a b c x y z d m)
    generalize dirI (wY a b c x y z d m) (wX a b c x y z d m) = R at *
    have AN := Lib.hid (fun (w' : World) h1 h3 => l07Angle_at (w.heap.size + 1) 0 t x y z d m x0 x1 z0 z1 d0 d1 n0 n1 w' h1 h3)
    have ob := orb_bd x z d m
    generalize orbI x z d m = O at *
    have NN := Lib.hid (fun w => l02Normal_any (O + 180000) w (by omega) (by omega))
    have nb := nrm_bd (O + 180000)
    have BB := Lib.hid (fun w => l02Between_any R (nrm (O + 180000)) w (by omega) (by omega) (by omega) (by omega))
    rw [show btw R (nrm (O + 180000)) = btw R (O + 180000) from by unfold btw fwd; rw [nrm_nrm]] at BB
    generalize btw R (O + 180000) = T at *
    generalize nrm (O + 180000) = U at *
    clear h hp hq hm hn a0 a1 b0 b1 c0 c1 x0 x1 y0 y1 z0 z1 d0 d1 n0 n1
    obtain ⟨W0, hW0⟩ : ∃ W0, W0 = ((w.alloc (.cells #[.string s, .int .i64 a, .int .i64 b, .int .i64 c] 29)).alloc (.cells #[.string t, .int .i64 x, .int .i64 y, .int .i64 z] 29)).alloc (.cells #[.int .i64 d, .int .i64 m] 31) := ⟨_, rfl⟩
    have HB0 : Hid (Below w.heap.size w W0) := Lib.hid (by rw [hW0]; exact (((Below.refl _ _).alloc (Nat.le_refl _) _).alloc (by first | (simp; done) | (simp; omega)) _).alloc (by first | (simp; done) | (simp; omega)) _)
    have P0 : Hid (Pl W0 w.heap.size s a b c) := Lib.hid (by rw [hW0]; exact ((Pl.new _ _ _ _ _ _).alloc _).alloc _)
    have Q0 : Hid (Pl W0 (w.heap.size + 1) t x y z) := Lib.hid (by rw [hW0]; simpa using (Pl.new (w.alloc (.cells #[.string s, .int .i64 a, .int .i64 b, .int .i64 c] 29)) 29 t x y z).alloc (.cells #[.int .i64 d, .int .i64 m] 31))
    have M0 : Hid (Mo W0 (w.heap.size + 1 + 1) d m) := Lib.hid (by rw [hW0]; simpa using Mo.new ((w.alloc (.cells #[.string s, .int .i64 a, .int .i64 b, .int .i64 c] 29)).alloc (.cells #[.string t, .int .i64 x, .int .i64 y, .int .i64 z] 29)) 31 d m)
    have HW := Lib.hid hW0
    clear hW0
    go_enter Tryd.func19, Tryd.ntmps19
    obtain ⟨m0, m1⟩ := M0.out
    go_wp2_with fail
    rw [← HW.out]
    clear HW
    refine (K.out _ P0.out Q0.out).mono ?_
    rintro e w1 ⟨rfl, hb⟩
    have P1 := Lib.hid (P0.out.below hb)
    have Q1 := Lib.hid (Q0.out.below hb)
    have M1 := Lib.hid (M0.out.below hb)
    have HB1 := Lib.hid (HB0.out.trans (hb.mono HB0.out.size))
    clear hb m0 m1
    obtain ⟨m0, m1⟩ := M1.out
    go_wp2_with fail
    have K1 : Hid (w1.cell? ⟨w.heap.size + 1 + 1, 0, none⟩ = some (.int .i64 d) ∧ w1.cell? ⟨w.heap.size + 1 + 1, 1, none⟩ = some (.int .i64 m) ∧ Below w1.heap.size w1 w1) := Lib.hid ⟨M1.out.c0, M1.out.c1, Below.refl _ _⟩
    have ew : IntKind.i64.wrap (O + 180000) = O + 180000 := IntWalk.i64_in _ (by omega)
    go_region_held3 (fun w' => w'.cell? ⟨w.heap.size + 1 + 1, 0, none⟩ = some (.int .i64 d) ∧ w'.cell? ⟨w.heap.size + 1 + 1, 1, none⟩ = some (.int .i64 m) ∧ Below w1.heap.size w1 w') (first | (exact keepM K1.out (bel_drew (Below.refl _ _))) | (exact keepM K1.out y2) | (exact keepM K1.out y1) | go_keep) ((first
      | (go_at_call 34; (with_reducible refine (S.out _ (P1.out.below (bel_drew (Below.refl _ _))) (Q1.out.below (bel_drew (Below.refl _ _)))).mono ?_); rintro e x1 ⟨rfl, hx1⟩; have y1 := undrewP hx1)
      | (go_at_call 42; (with_reducible refine (AN.out _ (Q1.out.below y1).c1 (Q1.out.below y1).c3).mono ?_); rintro e x2 ⟨rfl, hx2⟩; have y2 := y1.trans (hx2.mono y1.size))
      | (go_at_call 41; (with_reducible refine (NN.out _).mono ?_); rintro e x3 ⟨rfl, rfl⟩)
      | (go_at_call 40; (with_reducible refine (BB.out _).mono ?_); rintro e x4 ⟨rfl, rfl⟩)))
    rename_i held
    have HB2 := Lib.hid (HB1.out.trans (held.2.2.mono HB1.out.size))
    clear held m0 m1
    go_wp2_with fail
    refine bodyPost_ret (v := .tuple #[.int .i64 T, .int .i64 0]) (by first | (simp [results, Tryd.results19, go_sem]; done) | (simp [results, Tryd.results19, go_sem, *]; done)) rfl ⟨rfl, ?_⟩
    repeat (first | exact Below.refl _ _ | exact HB2.out | refine Below.setCell ?_ (by first | (simp; done) | omega | (simp; omega)) _ | refine Below.alloc ?_ (by first | (simp; done) | omega | (simp; omega)) _ | refine bel_drew ?_)
  · rw [if_neg h]
    generalize askP s a b c t x y z d m = k at *
    have hk : (k == 0) = false := by simpa using h
    clear h
    obtain ⟨W0, hW0⟩ : ∃ W0, W0 = ((w.alloc (.cells #[.string s, .int .i64 a, .int .i64 b, .int .i64 c] 29)).alloc (.cells #[.string t, .int .i64 x, .int .i64 y, .int .i64 z] 29)).alloc (.cells #[.int .i64 d, .int .i64 m] 31) := ⟨_, rfl⟩
    have HB0 : Hid (Below w.heap.size w W0) := Lib.hid (by rw [hW0]; exact (((Below.refl _ _).alloc (Nat.le_refl _) _).alloc (by first | (simp; done) | (simp; omega)) _).alloc (by first | (simp; done) | (simp; omega)) _)
    have P0 : Hid (Pl W0 w.heap.size s a b c) := Lib.hid (by rw [hW0]; exact ((Pl.new _ _ _ _ _ _).alloc _).alloc _)
    have Q0 : Hid (Pl W0 (w.heap.size + 1) t x y z) := Lib.hid (by rw [hW0]; simpa using (Pl.new (w.alloc (.cells #[.string s, .int .i64 a, .int .i64 b, .int .i64 c] 29)) 29 t x y z).alloc (.cells #[.int .i64 d, .int .i64 m] 31))
    have M0 : Hid (Mo W0 (w.heap.size + 1 + 1) d m) := Lib.hid (by rw [hW0]; simpa using Mo.new ((w.alloc (.cells #[.string s, .int .i64 a, .int .i64 b, .int .i64 c] 29)).alloc (.cells #[.string t, .int .i64 x, .int .i64 y, .int .i64 z] 29)) 31 d m)
    have HW := Lib.hid hW0
    clear hW0
    go_enter Tryd.func19, Tryd.ntmps19
    obtain ⟨m0, m1⟩ := M0.out
    go_wp2_with fail
    rw [← HW.out]
    clear HW
    refine (K.out _ P0.out Q0.out).mono ?_
    rintro e w1 ⟨rfl, hb⟩
    have P1 := Lib.hid (P0.out.below hb)
    have Q1 := Lib.hid (Q0.out.below hb)
    have M1 := Lib.hid (M0.out.below hb)
    have HB1 := Lib.hid (HB0.out.trans (hb.mono HB0.out.size))
    clear hb m0 m1
    obtain ⟨m0, m1⟩ := M1.out
    go_wp2_with fail
    refine bodyPost_ret (v := .tuple #[.int .i64 0, .int .i64 k]) (by first | (simp [results, Tryd.results19, go_sem]; done) | (simp [results, Tryd.results19, go_sem, *]; done)) rfl ⟨rfl, ?_⟩
    repeat (first | exact Below.refl _ _ | exact HB1.out | refine Below.setCell ?_ (by first | (simp; done) | omega | (simp; omega)) _ | refine Below.alloc ?_ (by first | (simp; done) | omega | (simp; omega)) _ | refine bel_drew ?_)

/-- What PhaseOf returns. -/
def phaV (s : ByteArray) (a b c : Int) (t : ByteArray) (x y z d m : Int) : Value := if askP s a b c t x y z d m = 0 then .tuple #[.int .i64 (nearQ (1000 * (1000000 + cosI (btw (orbI a c d m + 180000) (dirI (wY x y z a b c d m) (wX x y z a b c d m))))) 2000000), .int .i64 0] else .tuple #[.int .i64 0, .int .i64 (askP s a b c t x y z d m)]
theorem phaV_form (s : ByteArray) (a b c : Int) (t : ByteArray) (x y z d m : Int) : ∃ p q : Int, phaV s a b c t x y z d m = .tuple #[.int .i64 p, .int .i64 q] := by
  unfold phaV
  split <;> exact ⟨_, _, rfl⟩
set_option maxHeartbeats 2000000 in
theorem specPhaseOf_any (s : ByteArray) (a b c : Int) (t : ByteArray) (x y z d m : Int) (w : World) :
    Calls Tryd.prog 21 #[.agg #[.string s, .int .i64 a, .int .i64 b, .int .i64 c], .agg #[.string t, .int .i64 x, .int .i64 y, .int .i64 z], .agg #[.int .i64 d, .int .i64 m]] w fun e w' => e = .returned (phaV s a b c t x y z d m) ∧ Below w.heap.size w w' := by
  unfold phaV
  have K := Lib.hid (fun w' p q => l07Ask_at w.heap.size (w.heap.size + 1) s a b c t x y z d m w' p q)
  by_cases h : askP s a b c t x y z d m = 0
  · rw [if_pos h]
    rw [h] at K
    obtain ⟨hp, hq, hm, hn⟩ := askP_0 _ _ _ _ _ _ _ _ _ _ h
    obtain ⟨⟨a0, a1⟩, ⟨b0, b1⟩, c0, c1⟩ := planet_bd s a b c hp
    obtain ⟨⟨x0, x1⟩, ⟨y0, y1⟩, z0, z1⟩ := planet_bd t x y z hq
    obtain ⟨⟨d0, d1⟩, n0, n1⟩ := okM_bd d m hm
    have S := Lib.hid (fun w' q p => l07Seen_at (w.heap.size + 1) w.heap.size t x y z s a b c d m hq hp hm w' q p)
    have sb := dirI_bd (wY x y z a b c d m) (wX x y z a b c d m)
    generalize dirI (wY x y z a b c d m) (wX x y z a b c d m) = R at *
    have AN := Lib.hid (fun (w' : World) h1 h3 => l07Angle_at w.heap.size 0 s a b c d m a0 a1 c0 c1 d0 d1 n0 n1 w' h1 h3)
    have ob := orb_bd a c d m
    generalize orbI a c d m = O at *
    have NN := Lib.hid (fun w => l02Normal_any (O + 180000) w (by omega) (by omega))
    have nb := nrm_bd (O + 180000)
    have BB := Lib.hid (fun w => l02Between_any (nrm (O + 180000)) R w (by omega) (by omega) (by omega) (by omega))
    rw [show btw (nrm (O + 180000)) R = btw (O + 180000) R from by unfold btw fwd; rw [nrm_nrm]] at BB
    have tb := btw_bd (O + 180000) R
    generalize btw (O + 180000) R = T at *
    generalize nrm (O + 180000) = U at *
    have CC := Lib.hid (fun w => l02Cosine_any T (by omega) (by omega) w)
    have cb := cosI_bd T
    generalize cosI T = V at *
    have DD := Lib.hid (fun w => l01Div_any (1000 * (1000000 + V)) 2000000 w (by omega) (by omega) (by omega) (by omega) (by omega))
    generalize hF : nearQ (1000 * (1000000 + V)) 2000000 = F at *
    clear hF
    clear h hp hq hm hn a0 a1 b0 b1 c0 c1 x0 x1 y0 y1 z0 z1 d0 d1 n0 n1
    obtain ⟨W0, hW0⟩ : ∃ W0, W0 = ((w.alloc (.cells #[.string s, .int .i64 a, .int .i64 b, .int .i64 c] 29)).alloc (.cells #[.string t, .int .i64 x, .int .i64 y, .int .i64 z] 29)).alloc (.cells #[.int .i64 d, .int .i64 m] 31) := ⟨_, rfl⟩
    have HB0 : Hid (Below w.heap.size w W0) := Lib.hid (by rw [hW0]; exact (((Below.refl _ _).alloc (Nat.le_refl _) _).alloc (by first | (simp; done) | (simp; omega)) _).alloc (by first | (simp; done) | (simp; omega)) _)
    have P0 : Hid (Pl W0 w.heap.size s a b c) := Lib.hid (by rw [hW0]; exact ((Pl.new _ _ _ _ _ _).alloc _).alloc _)
    have Q0 : Hid (Pl W0 (w.heap.size + 1) t x y z) := Lib.hid (by rw [hW0]; simpa using (Pl.new (w.alloc (.cells #[.string s, .int .i64 a, .int .i64 b, .int .i64 c] 29)) 29 t x y z).alloc (.cells #[.int .i64 d, .int .i64 m] 31))
    have M0 : Hid (Mo W0 (w.heap.size + 1 + 1) d m) := Lib.hid (by rw [hW0]; simpa using Mo.new ((w.alloc (.cells #[.string s, .int .i64 a, .int .i64 b, .int .i64 c] 29)).alloc (.cells #[.string t, .int .i64 x, .int .i64 y, .int .i64 z] 29)) 31 d m)
    have HW := Lib.hid hW0
    clear hW0
    go_enter Tryd.func21, Tryd.ntmps21
    obtain ⟨m0, m1⟩ := M0.out
    go_wp2_with fail
    rw [← HW.out]
    clear HW
    refine (K.out _ P0.out Q0.out).mono ?_
    rintro e w1 ⟨rfl, hb⟩
    have P1 := Lib.hid (P0.out.below hb)
    have Q1 := Lib.hid (Q0.out.below hb)
    have M1 := Lib.hid (M0.out.below hb)
    have HB1 := Lib.hid (HB0.out.trans (hb.mono HB0.out.size))
    clear hb m0 m1
    obtain ⟨m0, m1⟩ := M1.out
    go_wp2_with fail
    have K1 : Hid (w1.cell? ⟨w.heap.size + 1 + 1, 0, none⟩ = some (.int .i64 d) ∧ w1.cell? ⟨w.heap.size + 1 + 1, 1, none⟩ = some (.int .i64 m) ∧ Below w1.heap.size w1 w1) := Lib.hid ⟨M1.out.c0, M1.out.c1, Below.refl _ _⟩
    have ew : IntKind.i64.wrap (O + 180000) = O + 180000 := IntWalk.i64_in _ (by omega)
    go_region_held3 (fun w' => w'.cell? ⟨w.heap.size + 1 + 1, 0, none⟩ = some (.int .i64 d) ∧ w'.cell? ⟨w.heap.size + 1 + 1, 1, none⟩ = some (.int .i64 m) ∧ Below w1.heap.size w1 w') (first | (exact keepM K1.out (bel_drew (Below.refl _ _))) | (exact keepM K1.out y2) | (exact keepM K1.out y1) | go_keep) ((first
      | (go_at_call 42; (with_reducible refine (AN.out _ (P1.out.below (bel_drew (Below.refl _ _))).c1 (P1.out.below (bel_drew (Below.refl _ _))).c3).mono ?_); rintro e x1 ⟨rfl, hx1⟩; have y1 := undrewP hx1)
      | (go_at_call 34; (with_reducible refine (S.out _ (Q1.out.below y1) (P1.out.below y1)).mono ?_); rintro e x2 ⟨rfl, hx2⟩; have y2 := y1.trans (hx2.mono y1.size))
      | (go_at_call 41; (with_reducible refine (NN.out _).mono ?_); rintro e x3 ⟨rfl, rfl⟩)
      | (go_at_call 40; (with_reducible refine (BB.out _).mono ?_); rintro e x4 ⟨rfl, rfl⟩)))
    rename_i held
    have HB2 := Lib.hid (HB1.out.trans (held.2.2.mono HB1.out.size))
    clear held m0 m1
    go_wp2_with fail
    refine (CC.out _).mono ?_
    rintro e w3 ⟨rfl, hb⟩
    have HB3 := Lib.hid (HB2.out.trans (hb.mono HB2.out.size))
    clear hb
    go_wp2_with fail
    refine (DD.out _).mono ?_
    rintro e w' ⟨rfl, rfl⟩
    go_wp2_with fail
    refine bodyPost_ret (v := .tuple #[.int .i64 F, .int .i64 0]) (by first | (simp [results, Tryd.results21, go_sem]; done) | (simp [results, Tryd.results21, go_sem, *]; done)) rfl ⟨rfl, ?_⟩
    repeat (first | exact Below.refl _ _ | exact HB3.out | refine Below.setCell ?_ (by first | (simp; done) | omega | (simp; omega)) _ | refine Below.alloc ?_ (by first | (simp; done) | omega | (simp; omega)) _ | refine bel_drew ?_)
  · rw [if_neg h]
    generalize askP s a b c t x y z d m = k at *
    have hk : (k == 0) = false := by simpa using h
    clear h
    obtain ⟨W0, hW0⟩ : ∃ W0, W0 = ((w.alloc (.cells #[.string s, .int .i64 a, .int .i64 b, .int .i64 c] 29)).alloc (.cells #[.string t, .int .i64 x, .int .i64 y, .int .i64 z] 29)).alloc (.cells #[.int .i64 d, .int .i64 m] 31) := ⟨_, rfl⟩
    have HB0 : Hid (Below w.heap.size w W0) := Lib.hid (by rw [hW0]; exact (((Below.refl _ _).alloc (Nat.le_refl _) _).alloc (by first | (simp; done) | (simp; omega)) _).alloc (by first | (simp; done) | (simp; omega)) _)
    have P0 : Hid (Pl W0 w.heap.size s a b c) := Lib.hid (by rw [hW0]; exact ((Pl.new _ _ _ _ _ _).alloc _).alloc _)
    have Q0 : Hid (Pl W0 (w.heap.size + 1) t x y z) := Lib.hid (by rw [hW0]; simpa using (Pl.new (w.alloc (.cells #[.string s, .int .i64 a, .int .i64 b, .int .i64 c] 29)) 29 t x y z).alloc (.cells #[.int .i64 d, .int .i64 m] 31))
    have M0 : Hid (Mo W0 (w.heap.size + 1 + 1) d m) := Lib.hid (by rw [hW0]; simpa using Mo.new ((w.alloc (.cells #[.string s, .int .i64 a, .int .i64 b, .int .i64 c] 29)).alloc (.cells #[.string t, .int .i64 x, .int .i64 y, .int .i64 z] 29)) 31 d m)
    have HW := Lib.hid hW0
    clear hW0
    go_enter Tryd.func21, Tryd.ntmps21
    obtain ⟨m0, m1⟩ := M0.out
    go_wp2_with fail
    rw [← HW.out]
    clear HW
    refine (K.out _ P0.out Q0.out).mono ?_
    rintro e w1 ⟨rfl, hb⟩
    have P1 := Lib.hid (P0.out.below hb)
    have Q1 := Lib.hid (Q0.out.below hb)
    have M1 := Lib.hid (M0.out.below hb)
    have HB1 := Lib.hid (HB0.out.trans (hb.mono HB0.out.size))
    clear hb m0 m1
    obtain ⟨m0, m1⟩ := M1.out
    go_wp2_with fail
    refine bodyPost_ret (v := .tuple #[.int .i64 0, .int .i64 k]) (by first | (simp [results, Tryd.results21, go_sem]; done) | (simp [results, Tryd.results21, go_sem, *]; done)) rfl ⟨rfl, ?_⟩
    repeat (first | exact Below.refl _ _ | exact HB1.out | refine Below.setCell ?_ (by first | (simp; done) | omega | (simp; omega)) _ | refine Below.alloc ?_ (by first | (simp; done) | omega | (simp; omega)) _ | refine bel_drew ?_)

/-- What PlaceInOrbit returns. -/
def pioV (s : ByteArray) (a b c d m : Int) : Value := if planetB s a b c = true ∧ okM d m = true then .tuple #[.int .i64 (plX a b c d m), .int .i64 (plY a b c d m), .int .i64 0] else .tuple #[.int .i64 0, .int .i64 0, .int .i64 1]
theorem pioV_form (s : ByteArray) (a b c d m : Int) : ∃ p q r : Int, pioV s a b c d m = .tuple #[.int .i64 p, .int .i64 q, .int .i64 r] := by
  unfold pioV
  split <;> exact ⟨_, _, _, rfl⟩
set_option maxHeartbeats 2000000 in
theorem specPlaceInOrbit_any (s : ByteArray) (a b c d m : Int) (w : World) :
    Calls Tryd.prog 11 #[.agg #[.string s, .int .i64 a, .int .i64 b, .int .i64 c], .agg #[.int .i64 d, .int .i64 m]] w fun e w' => e = .returned (pioV s a b c d m) ∧ Below w.heap.size w w' := by
  unfold pioV
  have I := Lib.hid (fun (w : World) g h0 h1 h2 h3 => l07One_at g 0 s a b c w h0 h1 h2 h3)
  have J := Lib.hid (fun w => l03Ok_any d m w)
  cases hp : planetB s a b c with
  | false =>
    rw [if_neg (by simp)]
    rw [hp] at I
    clear hp
    go_enter Tryd.func11, Tryd.ntmps11
    go_wp2_with fail
    refine (I.out _ _ (by simp) (by simp) (by simp) (by simp)).mono ?_
    rintro e w1 ⟨rfl, rfl⟩
    go_wp2_with fail
    refine bodyPost_ret (v := .tuple #[.int .i64 0, .int .i64 0, .int .i64 1]) (by first | (simp [results, Tryd.results11, go_sem]; done) | (simp [results, Tryd.results11, go_sem, *]; done)) rfl ⟨rfl, ?_⟩
    repeat (first | exact Below.refl _ _ | refine Below.setCell ?_ (by first | (simp; done) | omega | (simp; omega)) _ | refine Below.alloc ?_ (by first | (simp; done) | omega | (simp; omega)) _ | refine bel_drew ?_)
  | true =>
    rw [hp] at I
    cases hm : okM d m with
    | false =>
      rw [if_neg (by simp)]
      rw [hm] at J
      clear hp hm
      go_enter Tryd.func11, Tryd.ntmps11
      go_wp2_with fail
      refine (I.out _ _ (by simp) (by simp) (by simp) (by simp)).mono ?_
      rintro e w1 ⟨rfl, rfl⟩
      go_wp2_with fail
      refine (J.out _).mono ?_
      rintro e w2 ⟨rfl, hb⟩
      have hsw2 := hb.size
      try simp at hsw2
      obtain ⟨hcw2, hfw2⟩ := bcell hb
      have HBw2 : Hid (Below w.heap.size w w2) := by
        apply Lib.hid
        refine Below.trans ?_ (hb.mono ?_)
        · repeat (first | exact Below.refl _ _ | refine Below.setCell ?_ (by first | (simp; done) | omega | (simp; omega)) _ | refine Below.alloc ?_ (by first | (simp; done) | omega | (simp; omega)) _)
        · first | (simp; done) | omega | (simp; omega)
      have hzw2 : w.heap.size + 1 < w2.heap.size := by have := hb.size; (try simp at this); omega
      have hyw2 : w.heap.size < w2.heap.size := by have := hb.size; (try simp at this); omega
      clear hb
      go_wp2_with fail
      refine bodyPost_ret (v := .tuple #[.int .i64 0, .int .i64 0, .int .i64 1]) (by first | (simp [results, Tryd.results11, go_sem]; done) | (simp [results, Tryd.results11, go_sem, *]; done)) rfl ⟨rfl, ?_⟩
      repeat (first | exact Below.refl _ _ | exact HBw2.out | refine Below.setCell ?_ (by first | (simp; done) | omega | (simp; omega)) _ | refine Below.alloc ?_ (by first | (simp; done) | omega | (simp; omega)) _ | refine bel_drew ?_)
    | true =>
      rw [if_pos ⟨rfl, rfl⟩]
      rw [hm] at J
      have G := Lib.hid (fun (w : World) g p => l07Place_at g s a b c d m hp hm w p)
      clear hp hm
      generalize plX a b c d m = X at *
      generalize plY a b c d m = Y at *
      have P0 : Hid (Pl ((w.alloc (.cells #[.string s, .int .i64 a, .int .i64 b, .int .i64 c] 29)).alloc (.cells #[.int .i64 d, .int .i64 m] 31)) w.heap.size s a b c) := Lib.hid ((Pl.new _ _ _ _ _ _).alloc _)
      go_enter Tryd.func11, Tryd.ntmps11
      go_wp2_with fail
      refine (I.out _ _ (by simp) (by simp) (by simp) (by simp)).mono ?_
      rintro e w1 ⟨rfl, rfl⟩
      go_wp2_with fail
      refine (J.out _).mono ?_
      rintro e w2 ⟨rfl, hb⟩
      have P2 := Lib.hid (P0.out.below hb)
      have HBw2 : Hid (Below w.heap.size w w2) := Lib.hid ((((Below.refl _ _).alloc (Nat.le_refl _) _).alloc (by simp) _).trans (hb.mono (by simp; omega)))
      obtain ⟨hc2, _⟩ := bcell hb
      have m0 : w2.cell? ⟨w.heap.size + 1, 0, none⟩ = some (.int .i64 d) := by rw [hc2 _ _ (by simp)]; simp
      have m1 : w2.cell? ⟨w.heap.size + 1, 1, none⟩ = some (.int .i64 m) := by rw [hc2 _ _ (by simp)]; simp
      clear hb hc2
      go_wp2_with fail
      refine (G.out _ _ P2.out).mono ?_
      rintro e w3 ⟨rfl, hb⟩
      have HB3 := Lib.hid (HBw2.out.trans (hb.mono HBw2.out.size))
      clear hb m0 m1
      go_wp2_with fail
      refine bodyPost_ret (v := .tuple #[.int .i64 X, .int .i64 Y, .int .i64 0]) (by first | (simp [results, Tryd.results11, go_sem]; done) | (simp [results, Tryd.results11, go_sem, *]; done)) rfl ⟨rfl, ?_⟩
      repeat (first | exact Below.refl _ _ | exact HB3.out | refine Below.setCell ?_ (by first | (simp; done) | omega | (simp; omega)) _ | refine Below.alloc ?_ (by first | (simp; done) | omega | (simp; omega)) _ | refine bel_drew ?_)
end Go.Proofs.YtmdjogjcdjaafaaDoor
