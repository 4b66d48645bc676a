/-
  How planets are seen, in package impl: the contracts of angleAt, SeenAngle, SeenDistance, sunAngleAt, Elongation, PhaseOf.
-/
import Derived.Test.YtmdjogjcdjaafaaDoorPlan6
import Derived.Test.YtmdjogjcdjaafaaDoorDivR
namespace Go.Proofs.YtmdjogjcdjaafaaDoor
open Go.RowKit
set_option linter.unusedVariables false

theorem atan_in {y x : Int} (y0 : -1000000000000 ≤ y) (y1 : y ≤ 1000000000000) (x0 : -1000000000000 ≤ x) (x1 : x ≤ 1000000000000) (h : ¬ (x = 0 ∧ y = 0)) : atanV y x = .tuple #[.int .i64 (dirI y x), .int .i64 0] := by
  unfold atanV
  rw [if_pos ((inR_two _ _ _ _).2 ⟨⟨y0, y1⟩, x0, x1⟩), if_neg (by omega)]
set_option maxHeartbeats 1000000 in
theorem viewAngle_any (s : ByteArray) (a b c : Int) (t : ByteArray) (x y z d m : Int) (hmax : s.size ≤ maxLen) (tmax : t.size ≤ maxLen) (w : World) (hs : SinesOK w) :
    Calls Tryd.prog 35 #[.agg #[.string s, .int .i64 a, .int .i64 b, .int .i64 c, .string t, .int .i64 x, .int .i64 y, .int .i64 z], .agg #[.int .i64 d, .int .i64 m]] w fun e w' => e = .returned (seeV s a b c t x y z d m) ∧ Below w.heap.size w w' := by
  unfold seeV
  have A := Lib.hid (fun w hs => wayAt_any s a b c t x y z d m hmax tmax w hs)
  have E := Lib.hid hs
  clear hs hmax tmax
  unfold wayV at A
  by_cases h : askP s a b c t x y z d m = 0
  · rw [if_pos h]
    simp only [if_pos h] at A
    obtain ⟨hp, hq, hm, hn⟩ := askP_0 _ _ _ _ _ _ _ _ _ _ h
    obtain ⟨_, ⟨b0, b1⟩, _⟩ := planet_bd s a b c hp
    obtain ⟨_, ⟨y0, y1⟩, _⟩ := planet_bd t x y z hq
    have q1 := wX_bd a b c x y z d m b0 b1 y0 y1
    have q2 := wY_bd a b c x y z d m b0 b1 y0 y1
    have B := Lib.hid (fun w hs => implATan_any (wY a b c x y z d m) (wX a b c x y z d m) w hs)
    rw [atan_in (by omega) (by omega) (by omega) (by omega) hn] at B
    clear h hp hq hm hn b0 b1 y0 y1 q1 q2
    generalize dirI (wY a b c x y z d m) (wX a b c x y z d m) = R at *
    generalize wX a b c x y z d m = X at *
    generalize wY a b c x y z d m = Y at *
    go_enter Tryd.func35, Tryd.ntmps35
    go_wp2_with fail
    refine (A.out _ (E.out.below (by repeat (first | exact Below.refl _ _ | refine Below.setCell ?_ (by first | (simp; done) | omega | (simp; omega)) _ | refine Below.alloc ?_ (by first | (simp; done) | omega | (simp; omega)) _ | refine bel_drew ?_)))).mono ?_
    rintro e w1 ⟨rfl, hb⟩
    have hsw1 := hb.size
    try simp at hsw1
    obtain ⟨hcw1, hfw1⟩ := bcell hb
    have HBw1 : Hid (Below w.heap.size w w1) := by
      apply Lib.hid
      refine Below.trans ?_ (hb.mono ?_)
      · repeat (first | exact Below.refl _ _ | refine Below.setCell ?_ (by first | (simp; done) | omega | (simp; omega)) _ | refine Below.alloc ?_ (by first | (simp; done) | omega | (simp; omega)) _)
      · first | (simp; done) | omega | (simp; omega)
    have hzw1 : w.heap.size + 1 < w1.heap.size := by have := hb.size; (try simp at this); omega
    have hyw1 : w.heap.size < w1.heap.size := by have := hb.size; (try simp at this); omega
    clear hb
    go_wp2_with fail
    refine (B.out _ (E.out.below (by repeat (first | exact Below.refl _ _ | exact HBw1.out | refine Below.setCell ?_ (by first | (simp; done) | omega | (simp; omega)) _ | refine Below.alloc ?_ (by first | (simp; done) | omega | (simp; omega)) _ | refine bel_drew ?_)))).mono ?_
    rintro e w2 ⟨rfl, hb⟩
    have hsw2 := hb.size
    try simp at hsw2
    obtain ⟨hcw2, hfw2⟩ := bcell hb
    have HBw2 : Hid (Below w.heap.size w w2) := by
      apply Lib.hid
      refine Below.trans ?_ (hb.mono ?_)
      · repeat (first | exact Below.refl _ _ | exact HBw1.out | refine Below.setCell ?_ (by first | (simp; done) | omega | (simp; omega)) _ | refine Below.alloc ?_ (by first | (simp; done) | omega | (simp; omega)) _)
      · first | (simp; done) | omega | (simp; omega)
    have hzw2 : w.heap.size + 1 < w2.heap.size := by have := hb.size; (try simp at this); omega
    have hyw2 : w.heap.size < w2.heap.size := by have := hb.size; (try simp at this); omega
    clear hb
    first | (have gsw2w1 : w1.heap.size < w2.heap.size := by omega) | skip
    go_wp2_with fail
    refine bodyPost_ret (v := .tuple #[.int .i64 R, .int .i64 0]) (by first | (simp [results, Tryd.results35, go_sem]; done) | (simp [results, Tryd.results35, go_sem, *]; done)) rfl ⟨rfl, ?_⟩
    repeat (first | exact Below.refl _ _ | exact HBw2.out | refine Below.setCell ?_ (by first | (simp; done) | omega | (simp; omega)) _ | refine Below.alloc ?_ (by first | (simp; done) | omega | (simp; omega)) _ | refine bel_drew ?_)
  · rw [if_neg h]
    simp only [if_neg h] at A
    generalize askP s a b c t x y z d m = k at *
    have hk : (k == 0) = false := by simpa using h
    clear h
    go_enter Tryd.func35, Tryd.ntmps35
    go_wp2_with fail
    refine (A.out _ (E.out.below (by repeat (first | exact Below.refl _ _ | refine Below.setCell ?_ (by first | (simp; done) | omega | (simp; omega)) _ | refine Below.alloc ?_ (by first | (simp; done) | omega | (simp; omega)) _ | refine bel_drew ?_)))).mono ?_
    rintro e w1 ⟨rfl, hb⟩
    have hsw1 := hb.size
    try simp at hsw1
    obtain ⟨hcw1, hfw1⟩ := bcell hb
    have HBw1 : Hid (Below w.heap.size w w1) := by
      apply Lib.hid
      refine Below.trans ?_ (hb.mono ?_)
      · repeat (first | exact Below.refl _ _ | refine Below.setCell ?_ (by first | (simp; done) | omega | (simp; omega)) _ | refine Below.alloc ?_ (by first | (simp; done) | omega | (simp; omega)) _)
      · first | (simp; done) | omega | (simp; omega)
    have hzw1 : w.heap.size + 1 < w1.heap.size := by have := hb.size; (try simp at this); omega
    have hyw1 : w.heap.size < w1.heap.size := by have := hb.size; (try simp at this); omega
    clear hb
    go_wp2_with fail
    refine bodyPost_ret (v := .tuple #[.int .i64 0, .int .i64 k]) (by first | (simp [results, Tryd.results35, go_sem]; done) | (simp [results, Tryd.results35, go_sem, *]; done)) rfl ⟨rfl, ?_⟩
    repeat (first | exact Below.refl _ _ | exact HBw1.out | refine Below.setCell ?_ (by first | (simp; done) | omega | (simp; omega)) _ | refine Below.alloc ?_ (by first | (simp; done) | omega | (simp; omega)) _ | refine bel_drew ?_)

set_option maxHeartbeats 1000000 in
theorem implSeenAngle_any (s : ByteArray) (a b c : Int) (t : ByteArray) (x y z d m : Int) (hmax : s.size ≤ maxLen) (tmax : t.size ≤ maxLen) (w : World) (hs : SinesOK w) :
    Calls Tryd.prog 16 #[.agg #[.string s, .int .i64 a, .int .i64 b, .int .i64 c], .agg #[.string t, .int .i64 x, .int .i64 y, .int .i64 z], .agg #[.int .i64 d, .int .i64 m]] w fun e w' => e = .returned (seeV s a b c t x y z d m) ∧ Below w.heap.size w w' := by
  have A := Lib.hid (fun w hs => viewAngle_any s a b c t x y z d m hmax tmax w hs)
  have E := Lib.hid hs
  clear hs hmax tmax
  obtain ⟨p, q, hz⟩ := seeV_form s a b c t x y z d m
  rw [hz] at A ⊢
  clear hz
  go_enter Tryd.func16, Tryd.ntmps16
  go_wp2_with fail
  refine (A.out _ (E.out.below (by repeat (first | exact Below.refl _ _ | refine Below.setCell ?_ (by first | (simp; done) | omega | (simp; omega)) _ | refine Below.alloc ?_ (by first | (simp; done) | omega | (simp; omega)) _ | refine bel_drew ?_)))).mono ?_
  rintro e w1 ⟨rfl, hb⟩
  have hsw1 := hb.size
  try simp at hsw1
  obtain ⟨hcw1, hfw1⟩ := bcell hb
  have HBw1 : Hid (Below w.heap.size w w1) := by
    apply Lib.hid
    refine Below.trans ?_ (hb.mono ?_)
    · repeat (first | exact Below.refl _ _ | refine Below.setCell ?_ (by first | (simp; done) | omega | (simp; omega)) _ | refine Below.alloc ?_ (by first | (simp; done) | omega | (simp; omega)) _)
    · first | (simp; done) | omega | (simp; omega)
  have hzw1 : w.heap.size + 2 < w1.heap.size := by have := hb.size; (try simp at this); omega
  have hyw1 : w.heap.size + 1 < w1.heap.size := by have := hb.size; (try simp at this); omega
  have hxw1 : w.heap.size < w1.heap.size := by have := hb.size; (try simp at this); omega
  clear hb
  go_wp2_with fail
  refine bodyPost_ret (v := .tuple #[.int .i64 p, .int .i64 q]) (by first | (simp [results, Tryd.results16, go_sem]; done) | (simp [results, Tryd.results16, go_sem, *]; done)) rfl ⟨rfl, ?_⟩
  repeat (first | exact Below.refl _ _ | exact HBw1.out | refine Below.setCell ?_ (by first | (simp; done) | omega | (simp; omega)) _ | refine Below.alloc ?_ (by first | (simp; done) | omega | (simp; omega)) _ | refine bel_drew ?_)

set_option maxHeartbeats 2000000 in
theorem implSeenDistance_any (s : ByteArray) (a b c : Int) (t : ByteArray) (x y z d m : Int) (hmax : s.size ≤ maxLen) (tmax : t.size ≤ maxLen) (w : World) (hs : SinesOK w) :
    Calls Tryd.prog 18 #[.agg #[.string s, .int .i64 a, .int .i64 b, .int .i64 c], .agg #[.string t, .int .i64 x, .int .i64 y, .int .i64 z], .agg #[.int .i64 d, .int .i64 m]] w fun e w' => e = .returned (disV s a b c t x y z d m) ∧ Below w.heap.size w w' := by
  unfold disV
  have A := Lib.hid (fun w hs => wayAt_any s a b c t x y z d m hmax tmax w hs)
  have E := Lib.hid hs
  clear hs hmax tmax
  unfold wayV at A
  by_cases h : askP s a b c t x y z d m = 0
  · rw [if_pos h]
    simp only [if_pos h] at A
    obtain ⟨hp, hq, hm, hn⟩ := askP_0 _ _ _ _ _ _ _ _ _ _ h
    obtain ⟨_, ⟨b0, b1⟩, _⟩ := planet_bd s a b c hp
    obtain ⟨_, ⟨y0, y1⟩, _⟩ := planet_bd t x y z hq
    have q1 := wX_bd a b c x y z d m b0 b1 y0 y1
    have q2 := wY_bd a b c x y z d m b0 b1 y0 y1
    clear h hp hq hm hn b0 b1 y0 y1
    generalize wX a b c x y z d m = X at *
    generalize wY a b c x y z d m = Y at *
    have r1 := sq_le X 100000000 q1.1 q1.2
    have r2 := sq_le Y 100000000 q2.1 q2.2
    have RT := Lib.hid (fun w => implRootI_any (X * X + Y * Y) w (by omega))
    have f1 : wrap64 (X * X) = X * X := IntWalk.wrap64_in _ (by omega)
    have f2 : wrap64 (Y * Y) = Y * Y := IntWalk.wrap64_in _ (by omega)
    have f3 : wrap64 (X * X + Y * Y) = X * X + Y * Y := IntWalk.wrap64_in _ (by omega)
    generalize rootI (X * X + Y * Y) = R at *
    clear q1 q2 r1 r2
    have F := Lib.hid (And.intro f1 (And.intro f2 f3))
    clear f1 f2 f3
    go_enter Tryd.func18, Tryd.ntmps18
    go_wp2_with fail
    refine (A.out _ (E.out.below (by repeat (first | exact Below.refl _ _ | refine Below.setCell ?_ (by first | (simp; done) | omega | (simp; omega)) _ | refine Below.alloc ?_ (by first | (simp; done) | omega | (simp; omega)) _ | refine bel_drew ?_)))).mono ?_
    rintro e w1 ⟨rfl, hb⟩
    have hsw1 := hb.size
    try simp at hsw1
    obtain ⟨hcw1, hfw1⟩ := bcell hb
    have HBw1 : Hid (Below w.heap.size w w1) := by
      apply Lib.hid
      refine Below.trans ?_ (hb.mono ?_)
      · repeat (first | exact Below.refl _ _ | refine Below.setCell ?_ (by first | (simp; done) | omega | (simp; omega)) _ | refine Below.alloc ?_ (by first | (simp; done) | omega | (simp; omega)) _)
      · first | (simp; done) | omega | (simp; omega)
    have hzw1 : w.heap.size + 2 < w1.heap.size := by have := hb.size; (try simp at this); omega
    have hyw1 : w.heap.size + 1 < w1.heap.size := by have := hb.size; (try simp at this); omega
    have hxw1 : w.heap.size < w1.heap.size := by have := hb.size; (try simp at this); omega
    clear hb
    go_wp2_with fail
    try rw [F.out.1]
    try rw [F.out.2.1]
    try rw [F.out.2.2]
    refine (RT.out _).mono ?_
    rintro e w' ⟨rfl, rfl⟩
    go_wp2_with fail
    refine bodyPost_ret (v := .tuple #[.int .i64 R, .int .i64 0]) (by first | (simp [results, Tryd.results18, go_sem]; done) | (simp [results, Tryd.results18, go_sem, *]; done)) rfl ⟨rfl, ?_⟩
    repeat (first | exact Below.refl _ _ | exact HBw1.out | refine Below.setCell ?_ (by first | (simp; done) | omega | (simp; omega)) _ | refine Below.alloc ?_ (by first | (simp; done) | omega | (simp; omega)) _ | refine bel_drew ?_)
  · rw [if_neg h]
    simp only [if_neg h] at A
    have RT := Lib.hid (fun w => implRootI_any 0 w (by omega))
    rw [show rootI 0 = 0 from (IsRoot.unique (rootI_is 0) (Or.inr ⟨by omega, by omega, by omega, by omega⟩))] at RT
    generalize askP s a b c t x y z d m = k at *
    have hk : (k == 0) = false := by simpa using h
    clear h
    go_enter Tryd.func18, Tryd.ntmps18
    go_wp2_with fail
    refine (A.out _ (E.out.below (by repeat (first | exact Below.refl _ _ | refine Below.setCell ?_ (by first | (simp; done) | omega | (simp; omega)) _ | refine Below.alloc ?_ (by first | (simp; done) | omega | (simp; omega)) _ | refine bel_drew ?_)))).mono ?_
    rintro e w1 ⟨rfl, hb⟩
    have hsw1 := hb.size
    try simp at hsw1
    obtain ⟨hcw1, hfw1⟩ := bcell hb
    have HBw1 : Hid (Below w.heap.size w w1) := by
      apply Lib.hid
      refine Below.trans ?_ (hb.mono ?_)
      · repeat (first | exact Below.refl _ _ | refine Below.setCell ?_ (by first | (simp; done) | omega | (simp; omega)) _ | refine Below.alloc ?_ (by first | (simp; done) | omega | (simp; omega)) _)
      · first | (simp; done) | omega | (simp; omega)
    have hzw1 : w.heap.size + 2 < w1.heap.size := by have := hb.size; (try simp at this); omega
    have hyw1 : w.heap.size + 1 < w1.heap.size := by have := hb.size; (try simp at this); omega
    have hxw1 : w.heap.size < w1.heap.size := by have := hb.size; (try simp at this); omega
    clear hb
    go_wp2_with fail
    refine (RT.out _).mono ?_
    rintro e w' ⟨rfl, rfl⟩
    go_wp2_with fail
    refine bodyPost_ret (v := .tuple #[.int .i64 0, .int .i64 k]) (by first | (simp [results, Tryd.results18, go_sem]; done) | (simp [results, Tryd.results18, go_sem, *]; done)) rfl ⟨rfl, ?_⟩
    repeat (first | exact Below.refl _ _ | exact HBw1.out | refine Below.setCell ?_ (by first | (simp; done) | omega | (simp; omega)) _ | refine Below.alloc ?_ (by first | (simp; done) | omega | (simp; omega)) _ | refine bel_drew ?_)

set_option maxHeartbeats 1000000 in
theorem sunAngle_any (s : ByteArray) (a b c d m : Int) (h : planetB s a b c = true) (k : okM d m = true) (w : World) :
    Calls Tryd.prog 44 #[.agg #[.string s, .int .i64 a, .int .i64 b, .int .i64 c], .agg #[.int .i64 d, .int .i64 m]] w fun e w' => e = .returned (.int .i64 (orbI a c d m + 180000)) ∧ Below w.heap.size w w' := by
  obtain ⟨⟨a0, a1⟩, ⟨b0, b1⟩, c0, c1⟩ := planet_bd s a b c h
  obtain ⟨⟨d0, d1⟩, m0, m1⟩ := okM_bd d m k
  have A := Lib.hid (fun (w : World) => angleAt_any s a b c d m a0 a1 c0 c1 d0 d1 m0 m1 w)
  have ob := orb_bd a c d m
  clear h k a0 a1 b0 b1 c0 c1 d0 d1 m0 m1
  generalize orbI a c d m = o at *
  go_enter Tryd.func44, Tryd.ntmps44
  go_wp2_with fail
  refine (A.out _).mono ?_
  rintro e w1 ⟨rfl, hb⟩
  have hsw1 := hb.size
  try simp at hsw1
  obtain ⟨hcw1, hfw1⟩ := bcell hb
  have HBw1 : Hid (Below w.heap.size w w1) := by
    apply Lib.hid
    refine Below.trans ?_ (hb.mono ?_)
    · repeat (first | exact Below.refl _ _ | refine Below.setCell ?_ (by first | (simp; done) | omega | (simp; omega)) _ | refine Below.alloc ?_ (by first | (simp; done) | omega | (simp; omega)) _)
    · first | (simp; done) | omega | (simp; omega)
  have hzw1 : w.heap.size + 1 < w1.heap.size := by have := hb.size; (try simp at this); omega
  have hyw1 : w.heap.size < w1.heap.size := by have := hb.size; (try simp at this); omega
  clear hb
  go_wp2_with fail
  go_ret
  refine ⟨rfl, ?_⟩
  repeat (first | exact Below.refl _ _ | exact HBw1.out | refine Below.setCell ?_ (by first | (simp; done) | omega | (simp; omega)) _ | refine Below.alloc ?_ (by first | (simp; done) | omega | (simp; omega)) _ | refine bel_drew ?_)

set_option maxHeartbeats 1000000 in
theorem implElongation_any (s : ByteArray) (a b c : Int) (t : ByteArray) (x y z d m : Int) (hmax : s.size ≤ maxLen) (tmax : t.size ≤ maxLen) (w : World) (hs : SinesOK w) :
    Calls Tryd.prog 20 #[.agg #[.string s, .int .i64 a, .int .i64 b, .int .i64 c], .agg #[.string t, .int .i64 x, .int .i64 y, .int .i64 z], .agg #[.int .i64 d, .int .i64 m]] w fun e w' => e = .returned (eloV s a b c t x y z d m) ∧ Below w.heap.size w w' := by
  unfold eloV
  have A := Lib.hid (fun w hs => implSeenAngle_any s a b c t x y z d m hmax tmax w hs)
  have E := Lib.hid hs
  clear hs hmax tmax
  unfold seeV at A
  by_cases h : askP s a b c t x y z d m = 0
  · rw [if_pos h]
    simp only [if_pos h] at A
    obtain ⟨hp, hq, hm, hn⟩ := askP_0 _ _ _ _ _ _ _ _ _ _ h
    have S := Lib.hid (fun w => sunAngle_any t x y z d m hq hm w)
    have ob := orb_bd x z d m
    have sb := dirI_bd (wY a b c x y z d m) (wX a b c x y z d m)
    generalize dirI (wY a b c x y z d m) (wX a b c x y z d m) = R at *
    generalize orbI x z d m = O at *
    have BB := Lib.hid (fun w => implBtw_any R (O + 180000) w (by omega) (by omega) (by omega) (by omega))
    generalize btw R (O + 180000) = T at *
    clear h hp hq hm hn
    go_enter Tryd.func20, Tryd.ntmps20
    go_wp2_with fail
    refine (A.out _ (E.out.below (by repeat (first | exact Below.refl _ _ | refine Below.setCell ?_ (by first | (simp; done) | omega | (simp; omega)) _ | refine Below.alloc ?_ (by first | (simp; done) | omega | (simp; omega)) _ | refine bel_drew ?_)))).mono ?_
    rintro e w1 ⟨rfl, hb⟩
    have hsw1 := hb.size
    try simp at hsw1
    obtain ⟨hcw1, hfw1⟩ := bcell hb
    have HBw1 : Hid (Below w.heap.size w w1) := by
      apply Lib.hid
      refine Below.trans ?_ (hb.mono ?_)
      · repeat (first | exact Below.refl _ _ | refine Below.setCell ?_ (by first | (simp; done) | omega | (simp; omega)) _ | refine Below.alloc ?_ (by first | (simp; done) | omega | (simp; omega)) _)
      · first | (simp; done) | omega | (simp; omega)
    have hzw1 : w.heap.size + 2 < w1.heap.size := by have := hb.size; (try simp at this); omega
    have hyw1 : w.heap.size + 1 < w1.heap.size := by have := hb.size; (try simp at this); omega
    have hxw1 : w.heap.size < w1.heap.size := by have := hb.size; (try simp at this); omega
    clear hb
    go_wp2_with fail
    refine (S.out _).mono ?_
    rintro e w2 ⟨rfl, hb⟩
    have hsw2 := hb.size
    try simp at hsw2
    obtain ⟨hcw2, hfw2⟩ := bcell hb
    have HBw2 : Hid (Below w.heap.size w w2) := by
      apply Lib.hid
      refine Below.trans ?_ (hb.mono ?_)
      · repeat (first | exact Below.refl _ _ | exact HBw1.out | refine Below.setCell ?_ (by first | (simp; done) | omega | (simp; omega)) _ | refine Below.alloc ?_ (by first | (simp; done) | omega | (simp; omega)) _)
      · first | (simp; done) | omega | (simp; omega)
    have hzw2 : w.heap.size + 2 < w2.heap.size := by have := hb.size; (try simp at this); omega
    have hyw2 : w.heap.size + 1 < w2.heap.size := by have := hb.size; (try simp at this); omega
    have hxw2 : w.heap.size < w2.heap.size := by have := hb.size; (try simp at this); omega
    clear hb
    first | (have gsw2w1 : w1.heap.size < w2.heap.size := by omega) | skip
    go_wp2_with fail
    refine (BB.out _).mono ?_
    rintro e w' ⟨rfl, rfl⟩
    go_wp2_with fail
    refine bodyPost_ret (v := .tuple #[.int .i64 T, .int .i64 0]) (by first | (simp [results, Tryd.results20, go_sem]; done) | (simp [results, Tryd.results20, go_sem, *]; done)) rfl ⟨rfl, ?_⟩
    repeat (first | exact Below.refl _ _ | exact HBw2.out | refine Below.setCell ?_ (by first | (simp; done) | omega | (simp; omega)) _ | refine Below.alloc ?_ (by first | (simp; done) | omega | (simp; omega)) _ | refine bel_drew ?_)
  · rw [if_neg h]
    simp only [if_neg h] at A
    generalize askP s a b c t x y z d m = k at *
    have hk : (k == 0) = false := by simpa using h
    clear h
    go_enter Tryd.func20, Tryd.ntmps20
    go_wp2_with fail
    refine (A.out _ (E.out.below (by repeat (first | exact Below.refl _ _ | refine Below.setCell ?_ (by first | (simp; done) | omega | (simp; omega)) _ | refine Below.alloc ?_ (by first | (simp; done) | omega | (simp; omega)) _ | refine bel_drew ?_)))).mono ?_
    rintro e w1 ⟨rfl, hb⟩
    have hsw1 := hb.size
    try simp at hsw1
    obtain ⟨hcw1, hfw1⟩ := bcell hb
    have HBw1 : Hid (Below w.heap.size w w1) := by
      apply Lib.hid
      refine Below.trans ?_ (hb.mono ?_)
      · repeat (first | exact Below.refl _ _ | refine Below.setCell ?_ (by first | (simp; done) | omega | (simp; omega)) _ | refine Below.alloc ?_ (by first | (simp; done) | omega | (simp; omega)) _)
      · first | (simp; done) | omega | (simp; omega)
    have hzw1 : w.heap.size + 2 < w1.heap.size := by have := hb.size; (try simp at this); omega
    have hyw1 : w.heap.size + 1 < w1.heap.size := by have := hb.size; (try simp at this); omega
    have hxw1 : w.heap.size < w1.heap.size := by have := hb.size; (try simp at this); omega
    clear hb
    go_wp2_with fail
    refine bodyPost_ret (v := .tuple #[.int .i64 0, .int .i64 k]) (by first | (simp [results, Tryd.results20, go_sem]; done) | (simp [results, Tryd.results20, go_sem, *]; done)) rfl ⟨rfl, ?_⟩
    repeat (first | exact Below.refl _ _ | exact HBw1.out | refine Below.setCell ?_ (by first | (simp; done) | omega | (simp; omega)) _ | refine Below.alloc ?_ (by first | (simp; done) | omega | (simp; omega)) _ | refine bel_drew ?_)

set_option maxHeartbeats 1000000 in
theorem implPhaseOf_any (s : ByteArray) (a b c : Int) (t : ByteArray) (x y z d m : Int) (hmax : s.size ≤ maxLen) (tmax : t.size ≤ maxLen) (w : World) (hs : SinesOK w) :
    Calls Tryd.prog 22 #[.agg #[.string s, .int .i64 a, .int .i64 b, .int .i64 c], .agg #[.string t, .int .i64 x, .int .i64 y, .int .i64 z], .agg #[.int .i64 d, .int .i64 m]] w fun e w' => e = .returned (phaV s a b c t x y z d m) ∧ Below w.heap.size w w' := by
  unfold phaV
  have A := Lib.hid (fun w hs => implSeenAngle_any t x y z s a b c d m tmax hmax w hs)
  have E := Lib.hid hs
  clear hs hmax tmax
  unfold seeV at A
  by_cases h : askP s a b c t x y z d m = 0
  · rw [if_pos h]
    have h' : askP t x y z s a b c d m = 0 := by rw [askP_comm]; exact h
    simp only [if_pos h'] at A
    obtain ⟨hp, hq, hm, hn⟩ := askP_0 _ _ _ _ _ _ _ _ _ _ h
    have S := Lib.hid (fun w => sunAngle_any s a b c d m hp hm w)
    have ob := orb_bd a c d m
    have sb := dirI_bd (wY x y z a b c d m) (wX x y z a b c d m)
    generalize dirI (wY x y z a b c d m) (wX x y z a b c d m) = R at *
    generalize orbI a c d m = O at *
    have BB := Lib.hid (fun w => implBtw_any (O + 180000) R w (by omega) (by omega) (by omega) (by omega))
    have tb := btw_bd (O + 180000) R
    generalize btw (O + 180000) R = T at *
    have CC := Lib.hid (fun w hs => implCosine_any T (by omega) (by omega) w hs)
    have cb := cosI_bd T
    generalize cosI T = V at *
    have DD := Lib.hid (fun w => implDiv_any (1000 * (1000000 + V)) 2000000 w)
    rw [show divR (1000 * (1000000 + V)) 2000000 = nearQ (1000 * (1000000 + V)) 2000000 from by unfold divR; rw [if_pos (by rw [inR_2, Bool.and_eq_true, inR_1, inR_1]; omega)]] at DD
    generalize hF : nearQ (1000 * (1000000 + V)) 2000000 = F at *
    clear hF h h' hp hq hm hn
    go_enter Tryd.func22, Tryd.ntmps22
    go_wp2_with fail
    refine (A.out _ (E.out.below (by repeat (first | exact Below.refl _ _ | refine Below.setCell ?_ (by first | (simp; done) | omega | (simp; omega)) _ | refine Below.alloc ?_ (by first | (simp; done) | omega | (simp; omega)) _ | refine bel_drew ?_)))).mono ?_
    rintro e w1 ⟨rfl, hb⟩
    have hsw1 := hb.size
    try simp at hsw1
    obtain ⟨hcw1, hfw1⟩ := bcell hb
    have HBw1 : Hid (Below w.heap.size w w1) := by
      apply Lib.hid
      refine Below.trans ?_ (hb.mono ?_)
      · repeat (first | exact Below.refl _ _ | refine Below.setCell ?_ (by first | (simp; done) | omega | (simp; omega)) _ | refine Below.alloc ?_ (by first | (simp; done) | omega | (simp; omega)) _)
      · first | (simp; done) | omega | (simp; omega)
    have hzw1 : w.heap.size + 2 < w1.heap.size := by have := hb.size; (try simp at this); omega
    have hyw1 : w.heap.size + 1 < w1.heap.size := by have := hb.size; (try simp at this); omega
    have hxw1 : w.heap.size < w1.heap.size := by have := hb.size; (try simp at this); omega
    clear hb
    go_wp2_with fail
    refine (S.out _).mono ?_
    rintro e w2 ⟨rfl, hb⟩
    have hsw2 := hb.size
    try simp at hsw2
    obtain ⟨hcw2, hfw2⟩ := bcell hb
    have HBw2 : Hid (Below w.heap.size w w2) := by
      apply Lib.hid
      refine Below.trans ?_ (hb.mono ?_)
      · repeat (first | exact Below.refl _ _ | exact HBw1.out | refine Below.setCell ?_ (by first | (simp; done) | omega | (simp; omega)) _ | refine Below.alloc ?_ (by first | (simp; done) | omega | (simp; omega)) _)
      · first | (simp; done) | omega | (simp; omega)
    have hzw2 : w.heap.size + 2 < w2.heap.size := by have := hb.size; (try simp at this); omega
    have hyw2 : w.heap.size + 1 < w2.heap.size := by have := hb.size; (try simp at this); omega
    have hxw2 : w.heap.size < w2.heap.size := by have := hb.size; (try simp at this); omega
    clear hb
    first | (have gsw2w1 : w1.heap.size < w2.heap.size := by omega) | skip
    go_wp2_with fail
    refine (BB.out _).mono ?_
    rintro e w' ⟨rfl, rfl⟩
    go_wp2_with fail
    refine (CC.out _ (E.out.below (by repeat (first | exact Below.refl _ _ | exact HBw2.out | refine Below.setCell ?_ (by first | (simp; done) | omega | (simp; omega)) _ | refine Below.alloc ?_ (by first | (simp; done) | omega | (simp; omega)) _ | refine bel_drew ?_)))).mono ?_
    rintro e w3 ⟨rfl, hb⟩
    have hsw3 := hb.size
    try simp at hsw3
    obtain ⟨hcw3, hfw3⟩ := bcell hb
    have HBw3 : Hid (Below w.heap.size w w3) := by
      apply Lib.hid
      refine Below.trans ?_ (hb.mono ?_)
      · repeat (first | exact Below.refl _ _ | exact HBw2.out | refine Below.setCell ?_ (by first | (simp; done) | omega | (simp; omega)) _ | refine Below.alloc ?_ (by first | (simp; done) | omega | (simp; omega)) _)
      · first | (simp; done) | omega | (simp; omega)
    have hzw3 : w.heap.size + 2 < w3.heap.size := by have := hb.size; (try simp at this); omega
    have hyw3 : w.heap.size + 1 < w3.heap.size := by have := hb.size; (try simp at this); omega
    have hxw3 : w.heap.size < w3.heap.size := by have := hb.size; (try simp at this); omega
    clear hb
    first | (have gsw3w1 : w1.heap.size < w3.heap.size := by omega) | skip
    first | (have gsw3w2 : w2.heap.size < w3.heap.size := by omega) | skip
    go_wp2_with fail
    refine (DD.out _).mono ?_
    rintro e w4 ⟨rfl, hb⟩
    have hsw4 := hb.size
    try simp at hsw4
    obtain ⟨hcw4, hfw4⟩ := bcell hb
    have HBw4 : Hid (Below w.heap.size w w4) := by
      apply Lib.hid
      refine Below.trans ?_ (hb.mono ?_)
      · repeat (first | exact Below.refl _ _ | exact HBw3.out | refine Below.setCell ?_ (by first | (simp; done) | omega | (simp; omega)) _ | refine Below.alloc ?_ (by first | (simp; done) | omega | (simp; omega)) _)
      · first | (simp; done) | omega | (simp; omega)
    have hzw4 : w.heap.size + 2 < w4.heap.size := by have := hb.size; (try simp at this); omega
    have hyw4 : w.heap.size + 1 < w4.heap.size := by have := hb.size; (try simp at this); omega
    have hxw4 : w.heap.size < w4.heap.size := by have := hb.size; (try simp at this); omega
    clear hb
    first | (have gsw4w1 : w1.heap.size < w4.heap.size := by omega) | skip
    first | (have gsw4w2 : w2.heap.size < w4.heap.size := by omega) | skip
    first | (have gsw4w3 : w3.heap.size < w4.heap.size := by omega) | skip
    go_wp2_with fail
    refine bodyPost_ret (v := .tuple #[.int .i64 F, .int .i64 0]) (by first | (simp [results, Tryd.results22, go_sem]; done) | (simp [results, Tryd.results22, go_sem, *]; done)) rfl ⟨rfl, ?_⟩
    repeat (first | exact Below.refl _ _ | exact HBw4.out | refine Below.setCell ?_ (by first | (simp; done) | omega | (simp; omega)) _ | refine Below.alloc ?_ (by first | (simp; done) | omega | (simp; omega)) _ | refine bel_drew ?_)
  · rw [if_neg h]
    have h' : ¬ askP t x y z s a b c d m = 0 := by rw [askP_comm]; exact h
    simp only [if_neg h'] at A
    rw [askP_comm] at A
    generalize askP s a b c t x y z d m = k at *
    have hk : (k == 0) = false := by simpa using h
    clear h h'
    go_enter Tryd.func22, Tryd.ntmps22
    go_wp2_with fail
    refine (A.out _ (E.out.below (by repeat (first | exact Below.refl _ _ | refine Below.setCell ?_ (by first | (simp; done) | omega | (simp; omega)) _ | refine Below.alloc ?_ (by first | (simp; done) | omega | (simp; omega)) _ | refine bel_drew ?_)))).mono ?_
    rintro e w1 ⟨rfl, hb⟩
    have hsw1 := hb.size
    try simp at hsw1
    obtain ⟨hcw1, hfw1⟩ := bcell hb
    have HBw1 : Hid (Below w.heap.size w w1) := by
      apply Lib.hid
      refine Below.trans ?_ (hb.mono ?_)
      · repeat (first | exact Below.refl _ _ | refine Below.setCell ?_ (by first | (simp; done) | omega | (simp; omega)) _ | refine Below.alloc ?_ (by first | (simp; done) | omega | (simp; omega)) _)
      · first | (simp; done) | omega | (simp; omega)
    have hzw1 : w.heap.size + 2 < w1.heap.size := by have := hb.size; (try simp at this); omega
    have hyw1 : w.heap.size + 1 < w1.heap.size := by have := hb.size; (try simp at this); omega
    have hxw1 : w.heap.size < w1.heap.size := by have := hb.size; (try simp at this); omega
    clear hb
    go_wp2_with fail
    refine bodyPost_ret (v := .tuple #[.int .i64 0, .int .i64 k]) (by first | (simp [results, Tryd.results22, go_sem]; done) | (simp [results, Tryd.results22, go_sem, *]; done)) rfl ⟨rfl, ?_⟩
    repeat (first | exact Below.refl _ _ | exact HBw1.out | refine Below.setCell ?_ (by first | (simp; done) | omega | (simp; omega)) _ | refine Below.alloc ?_ (by first | (simp; done) | omega | (simp; omega)) _ | refine bel_drew ?_)
end Go.Proofs.YtmdjogjcdjaafaaDoor
