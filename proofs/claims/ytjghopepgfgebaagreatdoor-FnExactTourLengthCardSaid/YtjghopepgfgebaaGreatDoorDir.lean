/-
  Directions: the contracts of DirectionOf in both packages.
-/
import Derived.Test.YtjghopepgfgebaaGreatDoorSinW
import Derived.Test.YtjghopepgfgebaaGreatDoorVecS
namespace Go.Proofs.YtjghopepgfgebaaGreatDoor
open Go.RowKit
set_option linter.unusedVariables false

def dirV (lon lat : Int) : Value := if inR (-90000) 90000 [lat] = true then .tuple #[.agg #[.int .i64 (nearQ (cosI lat * cosI lon) 1000000), .int .i64 (nearQ (cosI lat * sinI lon) 1000000), .int .i64 (sinI lat)], .int .i64 0] else .tuple #[.agg #[.int .i64 0, .int .i64 0, .int .i64 0], .int .i64 2]
theorem dirV_form (lon lat : Int) : ∃ a b c d : Int, dirV lon lat = .tuple #[.agg #[.int .i64 a, .int .i64 b, .int .i64 c], .int .i64 d] := by
  unfold dirV
  split <;> exact ⟨_, _, _, _, rfl⟩

set_option maxHeartbeats 1000000 in
theorem implDir_any (lon lat : Int) (l0 : -9223372036854775808 ≤ lon) (l1 : lon ≤ 9223372036854775807) (w : World) (hs : SinesOK w) :
    Calls Tryz.prog 128 #[.int .i64 lon, .int .i64 lat] w fun e w' => e = .returned (dirV lon lat) ∧ Below w.heap.size w w' := by
  unfold dirV
  cases hin : inR (-90000) 90000 [lat] with
  | false =>
    rw [if_neg (by simp)]
    have HI := Lib.hid hin
    clear hin hs
    go_enter Tryz.func128, Tryz.ntmps128
    go_wp2_with fail
    refine (within1 _ _ lat _ _ _ (by simp)).mono ?_
    rintro e w' ⟨rfl, rfl⟩
    rw [HI.out]
    go_wp2_with fail
    refine bodyPost_ret (v := .tuple #[.agg #[.int .i64 0, .int .i64 0, .int .i64 0], .int .i64 2]) (by first | (simp [results, Tryz.results128, go_sem]; done) | (simp [results, Tryz.results128, go_sem, *]; done)) rfl ⟨rfl, ?_⟩
    repeat (first | exact Below.refl _ _ | refine Below.setCell ?_ (by first | (simp; done) | omega | (simp; omega)) _ | refine Below.alloc ?_ (by first | (simp; done) | omega | (simp; omega)) _ | refine bel_drew ?_)
  | true =>
    rw [if_pos rfl]
    obtain ⟨t0, t1⟩ := (inR_1 _ _ _).1 hin
    have E := Lib.hid hs
    have HI := Lib.hid hin
    have CT := Lib.hid (fun w hs => implCosine_any lat (by omega) (by omega) w hs)
    have ST := Lib.hid (fun w hs => implSine_any lat (by omega) (by omega) w hs)
    have CL := Lib.hid (fun w hs => implCosine_any lon l0 l1 w hs)
    have SL := Lib.hid (fun w hs => implSine_any lon l0 l1 w hs)
    have b1 := cosI_bd lat
    have b2 := sinI_bd lat
    have b3 := cosI_bd lon
    have b4 := sinI_bd lon
    clear hin hs
    generalize cosI lat = p at *
    generalize sinI lat = q at *
    generalize cosI lon = r at *
    generalize sinI lon = s at *
    have p1 := pr_bd p r 1000000 1000000 b1.1 b1.2 b3.1 b3.2
    have p2 := pr_bd p s 1000000 1000000 b1.1 b1.2 b4.1 b4.2
    have Q := Lib.hid (fun w => quotients_any (p * r) (p * s) (q * 1000000) 1000000 w (by omega) (by omega) (by omega) (by omega) (by omega) (by omega) (by omega) (by omega))
    rw [nearQ_whole q 1000000 (by omega)] at Q
    have e1 : wrap64 (p * r) = p * r := IntWalk.wrap64_in _ (by omega)
    have e2 : wrap64 (p * s) = p * s := IntWalk.wrap64_in _ (by omega)
    have E1 := Lib.hid e1
    have E2 := Lib.hid e2
    clear p1 p2 e1 e2 b1 b3 b4
    generalize nearQ (p * r) 1000000 = x at *
    generalize nearQ (p * s) 1000000 = y at *
    have U := Lib.hid (fun w => vector_any x y q w)
    go_enter Tryz.func128, Tryz.ntmps128
    go_wp2_with fail
    refine (within1 _ _ lat _ _ _ (by simp)).mono ?_
    rintro e w' ⟨rfl, rfl⟩
    rw [HI.out]
    go_wp2_with fail
    refine (CT.out _ (E.out.below (by repeat (first | exact Below.refl _ _ | refine Below.setCell ?_ (by first | (simp; done) | omega | (simp; omega)) _ | refine Below.alloc ?_ (by first | (simp; done) | omega | (simp; omega)) _ | refine bel_drew ?_)))).mono ?_
    rintro e w1 ⟨rfl, hb⟩
    have hsw1 := hb.size
    try simp at hsw1
    obtain ⟨hcw1, hfw1⟩ := bcell hb
    have HBw1 : Hid (Below w.heap.size w w1) := by
      apply Lib.hid
      refine Below.trans ?_ (hb.mono ?_)
      · repeat (first | exact Below.refl _ _ | refine Below.setCell ?_ (by first | (simp; done) | omega | (simp; omega)) _ | refine Below.alloc ?_ (by first | (simp; done) | omega | (simp; omega)) _)
      · first | (simp; done) | omega | (simp; omega)
    have hzw1 : w.heap.size + 1 < w1.heap.size := by have := hb.size; (try simp at this); omega
    have hyw1 : w.heap.size < w1.heap.size := by have := hb.size; (try simp at this); omega
    clear hb
    go_wp2_with fail
    refine (ST.out _ (E.out.below (by repeat (first | exact Below.refl _ _ | exact HBw1.out | refine Below.setCell ?_ (by first | (simp; done) | omega | (simp; omega)) _ | refine Below.alloc ?_ (by first | (simp; done) | omega | (simp; omega)) _ | refine bel_drew ?_)))).mono ?_
    rintro e w2 ⟨rfl, hb⟩
    have hsw2 := hb.size
    try simp at hsw2
    obtain ⟨hcw2, hfw2⟩ := bcell hb
    have HBw2 : Hid (Below w.heap.size w w2) := by
      apply Lib.hid
      refine Below.trans ?_ (hb.mono ?_)
      · repeat (first | exact Below.refl _ _ | exact HBw1.out | refine Below.setCell ?_ (by first | (simp; done) | omega | (simp; omega)) _ | refine Below.alloc ?_ (by first | (simp; done) | omega | (simp; omega)) _)
      · first | (simp; done) | omega | (simp; omega)
    have hzw2 : w.heap.size + 1 < w2.heap.size := by have := hb.size; (try simp at this); omega
    have hyw2 : w.heap.size < w2.heap.size := by have := hb.size; (try simp at this); omega
    clear hb
    first | (have gsw2w1 : w1.heap.size < w2.heap.size := by omega) | skip
    go_wp2_with fail
    refine (CL.out _ (E.out.below (by repeat (first | exact Below.refl _ _ | exact HBw2.out | refine Below.setCell ?_ (by first | (simp; done) | omega | (simp; omega)) _ | refine Below.alloc ?_ (by first | (simp; done) | omega | (simp; omega)) _ | refine bel_drew ?_)))).mono ?_
    rintro e w3 ⟨rfl, hb⟩
    have hsw3 := hb.size
    try simp at hsw3
    obtain ⟨hcw3, hfw3⟩ := bcell hb
    have HBw3 : Hid (Below w.heap.size w w3) := by
      apply Lib.hid
      refine Below.trans ?_ (hb.mono ?_)
      · repeat (first | exact Below.refl _ _ | exact HBw2.out | refine Below.setCell ?_ (by first | (simp; done) | omega | (simp; omega)) _ | refine Below.alloc ?_ (by first | (simp; done) | omega | (simp; omega)) _)
      · first | (simp; done) | omega | (simp; omega)
    have hzw3 : w.heap.size + 1 < w3.heap.size := by have := hb.size; (try simp at this); omega
    have hyw3 : w.heap.size < w3.heap.size := by have := hb.size; (try simp at this); omega
    clear hb
    first | (have gsw3w1 : w1.heap.size < w3.heap.size := by omega) | skip
    first | (have gsw3w2 : w2.heap.size < w3.heap.size := by omega) | skip
    go_wp2_with fail
    refine (SL.out _ (E.out.below (by repeat (first | exact Below.refl _ _ | exact HBw3.out | refine Below.setCell ?_ (by first | (simp; done) | omega | (simp; omega)) _ | refine Below.alloc ?_ (by first | (simp; done) | omega | (simp; omega)) _ | refine bel_drew ?_)))).mono ?_
    rintro e w4 ⟨rfl, hb⟩
    have hsw4 := hb.size
    try simp at hsw4
    obtain ⟨hcw4, hfw4⟩ := bcell hb
    have HBw4 : Hid (Below w.heap.size w w4) := by
      apply Lib.hid
      refine Below.trans ?_ (hb.mono ?_)
      · repeat (first | exact Below.refl _ _ | exact HBw3.out | refine Below.setCell ?_ (by first | (simp; done) | omega | (simp; omega)) _ | refine Below.alloc ?_ (by first | (simp; done) | omega | (simp; omega)) _)
      · first | (simp; done) | omega | (simp; omega)
    have hzw4 : w.heap.size + 1 < w4.heap.size := by have := hb.size; (try simp at this); omega
    have hyw4 : w.heap.size < w4.heap.size := by have := hb.size; (try simp at this); omega
    clear hb
    first | (have gsw4w1 : w1.heap.size < w4.heap.size := by omega) | skip
    first | (have gsw4w2 : w2.heap.size < w4.heap.size := by omega) | skip
    first | (have gsw4w3 : w3.heap.size < w4.heap.size := by omega) | skip
    go_wp2_with fail
    rw [E1.out, E2.out]
    refine (Q.out _).mono ?_
    rintro e w5 ⟨rfl, hb⟩
    have hsw5 := hb.size
    try simp at hsw5
    obtain ⟨hcw5, hfw5⟩ := bcell hb
    have HBw5 : Hid (Below w.heap.size w w5) := by
      apply Lib.hid
      refine Below.trans ?_ (hb.mono ?_)
      · repeat (first | exact Below.refl _ _ | exact HBw4.out | refine Below.setCell ?_ (by first | (simp; done) | omega | (simp; omega)) _ | refine Below.alloc ?_ (by first | (simp; done) | omega | (simp; omega)) _)
      · first | (simp; done) | omega | (simp; omega)
    have hzw5 : w.heap.size + 1 < w5.heap.size := by have := hb.size; (try simp at this); omega
    have hyw5 : w.heap.size < w5.heap.size := by have := hb.size; (try simp at this); omega
    clear hb
    first | (have gsw5w1 : w1.heap.size < w5.heap.size := by omega) | skip
    first | (have gsw5w2 : w2.heap.size < w5.heap.size := by omega) | skip
    first | (have gsw5w3 : w3.heap.size < w5.heap.size := by omega) | skip
    first | (have gsw5w4 : w4.heap.size < w5.heap.size := by omega) | skip
    go_wp2_with fail
    refine (U.out _).mono ?_
    rintro e w6 ⟨rfl, hb⟩
    have hsw6 := hb.size
    try simp at hsw6
    obtain ⟨hcw6, hfw6⟩ := bcell hb
    have HBw6 : Hid (Below w.heap.size w w6) := by
      apply Lib.hid
      refine Below.trans ?_ (hb.mono ?_)
      · repeat (first | exact Below.refl _ _ | exact HBw5.out | refine Below.setCell ?_ (by first | (simp; done) | omega | (simp; omega)) _ | refine Below.alloc ?_ (by first | (simp; done) | omega | (simp; omega)) _)
      · first | (simp; done) | omega | (simp; omega)
    have hzw6 : w.heap.size + 1 < w6.heap.size := by have := hb.size; (try simp at this); omega
    have hyw6 : w.heap.size < w6.heap.size := by have := hb.size; (try simp at this); omega
    clear hb
    first | (have gsw6w1 : w1.heap.size < w6.heap.size := by omega) | skip
    first | (have gsw6w2 : w2.heap.size < w6.heap.size := by omega) | skip
    first | (have gsw6w3 : w3.heap.size < w6.heap.size := by omega) | skip
    first | (have gsw6w4 : w4.heap.size < w6.heap.size := by omega) | skip
    first | (have gsw6w5 : w5.heap.size < w6.heap.size := by omega) | skip
    go_wp2_with fail
    have a4 : w.heap.size < w4.heap.size + 1 := by omega
    have a5 : w.heap.size < w5.heap.size + 1 := by omega
    have z0 : w6.cell? ⟨w.heap.size, 0, none⟩ = some (.int .i64 0) := by rw [hcw6 _ _ hyw5, hcw5 _ _ (by simp; omega), World.cell?_alloc_lt _ _ _ hyw4, hcw4 _ _ hyw3, hcw3 _ _ hyw2, hcw2 _ _ hyw1, hcw1 _ _ (by first | (simp; done) | (simp; omega))]; simp
    have z1 : w6.cell? ⟨w.heap.size, 1, none⟩ = some (.int .i64 0) := by rw [hcw6 _ _ hyw5, hcw5 _ _ (by simp; omega), World.cell?_alloc_lt _ _ _ hyw4, hcw4 _ _ hyw3, hcw3 _ _ hyw2, hcw2 _ _ hyw1, hcw1 _ _ (by first | (simp; done) | (simp; omega))]; simp
    have z2 : w6.cell? ⟨w.heap.size, 2, none⟩ = some (.int .i64 0) := by rw [hcw6 _ _ hyw5, hcw5 _ _ (by simp; omega), World.cell?_alloc_lt _ _ _ hyw4, hcw4 _ _ hyw3, hcw3 _ _ hyw2, hcw2 _ _ hyw1, hcw1 _ _ (by first | (simp; done) | (simp; omega))]; simp
    clear hcw1 hcw2 hcw3 hcw4 hcw5 hcw6
    refine bodyPost_ret (v := .tuple #[.agg #[.int .i64 x, .int .i64 y, .int .i64 q], .int .i64 0]) (by first | (simp [results, Tryz.results128, go_sem]; done) | (simp [results, Tryz.results128, go_sem, z0, z1, z2, *]; done)) rfl ⟨rfl, ?_⟩
    repeat (first | exact Below.refl _ _ | exact HBw6.out | refine Below.setCell ?_ (by first | (simp; done) | omega | (simp; omega)) _ | refine Below.alloc ?_ (by first | (simp; done) | omega | (simp; omega)) _ | refine bel_drew ?_)

set_option maxHeartbeats 1000000 in
theorem l04Direction_any (lon lat : Int) (l0 : -9223372036854775808 ≤ lon) (l1 : lon ≤ 9223372036854775807) (t0 : -9223372036854775808 ≤ lat) (t1 : lat ≤ 9223372036854775807) (w : World) :
    Calls Tryz.prog 75 #[.int .i64 lon, .int .i64 lat] w fun e w' => e = .returned (.agg #[.int .i64 (nearQ (cosI lat * cosI lon) 1000000), .int .i64 (nearQ (cosI lat * sinI lon) 1000000), .int .i64 (sinI lat)]) ∧ Below w.heap.size w w' := by
  have CT := Lib.hid (fun w => l02Cosine_any lat t0 t1 w)
  have ST := Lib.hid (fun w => l02Sine_any lat t0 t1 w)
  have CL := Lib.hid (fun w => l02Cosine_any lon l0 l1 w)
  have SL := Lib.hid (fun w => l02Sine_any lon l0 l1 w)
  have b1 := cosI_bd lat
  have b3 := cosI_bd lon
  have b4 := sinI_bd lon
  generalize cosI lat = p at *
  generalize sinI lat = q at *
  generalize cosI lon = r at *
  generalize sinI lon = s at *
  have p1 := pr_bd p r 1000000 1000000 b1.1 b1.2 b3.1 b3.2
  have p2 := pr_bd p s 1000000 1000000 b1.1 b1.2 b4.1 b4.2
  have D1 := Lib.hid (fun w => l01Div_any (p * r) 1000000 w (by omega) (by omega) (by omega) (by omega) (by omega))
  have D2 := Lib.hid (fun w => l01Div_any (p * s) 1000000 w (by omega) (by omega) (by omega) (by omega) (by omega))
  have e1 : wrap64 (p * r) = p * r := IntWalk.wrap64_in _ (by omega)
  have e2 : wrap64 (p * s) = p * s := IntWalk.wrap64_in _ (by omega)
  have E1 := Lib.hid e1
  have E2 := Lib.hid e2
  clear p1 p2 e1 e2 b1 b3 b4
  generalize nearQ (p * r) 1000000 = x at *
  generalize nearQ (p * s) 1000000 = y at *
  go_enter Tryz.func75, Tryz.ntmps75
  go_wp2_with fail
  refine (CT.out _).mono ?_
  rintro e w1 ⟨rfl, hb⟩
  have hsw1 := hb.size
  try simp at hsw1
  obtain ⟨hcw1, hfw1⟩ := bcell hb
  have HBw1 : Hid (Below w.heap.size w w1) := by
    apply Lib.hid
    refine Below.trans ?_ (hb.mono ?_)
    · repeat (first | exact Below.refl _ _ | refine Below.setCell ?_ (by first | (simp; done) | omega | (simp; omega)) _ | refine Below.alloc ?_ (by first | (simp; done) | omega | (simp; omega)) _)
    · first | (simp; done) | omega | (simp; omega)
  have hzw1 : w.heap.size < w1.heap.size := by have := hb.size; (try simp at this); omega
  clear hb
  go_wp2_with fail
  refine (CL.out _).mono ?_
  rintro e w2 ⟨rfl, hb⟩
  have hsw2 := hb.size
  try simp at hsw2
  obtain ⟨hcw2, hfw2⟩ := bcell hb
  have HBw2 : Hid (Below w.heap.size w w2) := by
    apply Lib.hid
    refine Below.trans ?_ (hb.mono ?_)
    · repeat (first | exact Below.refl _ _ | exact HBw1.out | refine Below.setCell ?_ (by first | (simp; done) | omega | (simp; omega)) _ | refine Below.alloc ?_ (by first | (simp; done) | omega | (simp; omega)) _)
    · first | (simp; done) | omega | (simp; omega)
  have hzw2 : w.heap.size < w2.heap.size := by have := hb.size; (try simp at this); omega
  clear hb
  first | (have gsw2w1 : w1.heap.size < w2.heap.size := by omega) | skip
  go_wp2_with fail
  rw [E1.out]
  refine (D1.out _).mono ?_
  rintro e w' ⟨rfl, rfl⟩
  go_wp2_with fail
  refine (SL.out _).mono ?_
  rintro e w3 ⟨rfl, hb⟩
  have hsw3 := hb.size
  try simp at hsw3
  obtain ⟨hcw3, hfw3⟩ := bcell hb
  have HBw3 : Hid (Below w.heap.size w w3) := by
    apply Lib.hid
    refine Below.trans ?_ (hb.mono ?_)
    · repeat (first | exact Below.refl _ _ | exact HBw2.out | refine Below.setCell ?_ (by first | (simp; done) | omega | (simp; omega)) _ | refine Below.alloc ?_ (by first | (simp; done) | omega | (simp; omega)) _)
    · first | (simp; done) | omega | (simp; omega)
  have hzw3 : w.heap.size < w3.heap.size := by have := hb.size; (try simp at this); omega
  clear hb
  first | (have gsw3w1 : w1.heap.size < w3.heap.size := by omega) | skip
  first | (have gsw3w2 : w2.heap.size < w3.heap.size := by omega) | skip
  go_wp2_with fail
  rw [E2.out]
  refine (D2.out _).mono ?_
  rintro e w' ⟨rfl, rfl⟩
  go_wp2_with fail
  refine (ST.out _).mono ?_
  rintro e w4 ⟨rfl, hb⟩
  have hsw4 := hb.size
  try simp at hsw4
  obtain ⟨hcw4, hfw4⟩ := bcell hb
  have HBw4 : Hid (Below w.heap.size w w4) := by
    apply Lib.hid
    refine Below.trans ?_ (hb.mono ?_)
    · repeat (first | exact Below.refl _ _ | exact HBw3.out | refine Below.setCell ?_ (by first | (simp; done) | omega | (simp; omega)) _ | refine Below.alloc ?_ (by first | (simp; done) | omega | (simp; omega)) _)
    · first | (simp; done) | omega | (simp; omega)
  have hzw4 : w.heap.size < w4.heap.size := by have := hb.size; (try simp at this); omega
  clear hb
  first | (have gsw4w1 : w1.heap.size < w4.heap.size := by omega) | skip
  first | (have gsw4w2 : w2.heap.size < w4.heap.size := by omega) | skip
  first | (have gsw4w3 : w3.heap.size < w4.heap.size := by omega) | skip
  go_wp2_with fail
  refine bodyPost_ret (v := .agg #[.int .i64 x, .int .i64 y, .int .i64 q]) (by first | (simp [results, Tryz.results75, go_sem]; done) | (simp [results, Tryz.results75, go_sem, *]; done)) rfl ⟨rfl, ?_⟩
  repeat (first | exact Below.refl _ _ | exact HBw4.out | refine Below.setCell ?_ (by first | (simp; done) | omega | (simp; omega)) _ | refine Below.alloc ?_ (by first | (simp; done) | omega | (simp; omega)) _ | refine bel_drew ?_)

end Go.Proofs.YtjghopepgfgebaaGreatDoor
