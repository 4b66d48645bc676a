/-
  Spots of a dome and the shares of its zones: the contracts of SpotOf, ZoneShare (packages impl and spec).
-/
import Derived.Test.YtcdmgkjaionjpaaDoorDome1
import Derived.Test.YtcdmgkjaionjpaaDoorSinW
import Derived.Test.YtcdmgkjaionjpaaDoorVecMath
namespace Go.Proofs.YtcdmgkjaionjpaaDoor
open Go.RowKit
set_option linter.unusedVariables false

/-- How far a spot is from the middle. -/
def farM (h : Int) : Int := nearQ ((90000 - h) * 1000000) 90000
theorem farM_bd (h : Int) (h0 : 0 ≤ h) (h1 : h ≤ 90000) : 0 ≤ farM h ∧ farM h ≤ 1000000 := by
  unfold farM
  rw [nearQ_pp _ _ (by omega) (by omega)]
  omega
/-- What SpotOf returns. -/
def spotV (a h : Int) : Value := if upB a h = true then .tuple #[.agg #[.int .i64 (nearQ (farM h * sinI a) 1000000), .int .i64 (nearQ (farM h * cosI a) 1000000)], .int .i64 0] else .tuple #[.agg #[.int .i64 0, .int .i64 0], .int .i64 2]
theorem spotV_form (a h : Int) : ∃ x y c : Int, spotV a h = .tuple #[.agg #[.int .i64 x, .int .i64 y], .int .i64 c] := by unfold spotV; split <;> exact ⟨_, _, _, rfl⟩

set_option maxHeartbeats 1000000 in
theorem implSpot_any (a h : Int) (w : World) (hs : SinesOK w) :
    Calls Tryd.prog 13 #[.int .i64 a, .int .i64 h] w fun e w' => e = .returned (spotV a h) ∧ Below w.heap.size w w' := by
  unfold spotV
  have U := Lib.hid (fun w => isUp_any a h w)
  have E := Lib.hid hs
  clear hs
  cases hu : upB a h with
  | false =>
    rw [if_neg (by simp)]
    rw [hu] at U
    clear hu
    go_enter Tryd.func13, Tryd.ntmps13
    go_wp2_with fail
    refine (U.out _).mono ?_
    rintro e w1 ⟨rfl, hb⟩
    have hsw1 := hb.size
    try simp at hsw1
    obtain ⟨hcw1, hfw1⟩ := bcell hb
    have HBw1 : Hid (Below w.heap.size w w1) := by
      apply Lib.hid
      refine Below.trans ?_ (hb.mono ?_)
      · repeat (first | exact Below.refl _ _ | refine Below.setCell ?_ (by first | (simp; done) | omega | (simp; omega)) _ | refine Below.alloc ?_ (by first | (simp; done) | omega | (simp; omega)) _)
      · first | (simp; done) | omega | (simp; omega)
    have hzw1 : w.heap.size < w1.heap.size := by have := hb.size; (try simp at this); omega
    clear hb
    go_wp2_with fail
    have z0 : w1.cell? ⟨w.heap.size, 0, none⟩ = some (.int .i64 0) := by rw [hcw1 _ _ (by first | (simp; done) | (simp; omega))]; simp
    have z1 : w1.cell? ⟨w.heap.size, 1, none⟩ = some (.int .i64 0) := by rw [hcw1 _ _ (by first | (simp; done) | (simp; omega))]; simp
    clear hcw1
    refine bodyPost_ret (v := .tuple #[.agg #[.int .i64 0, .int .i64 0], .int .i64 2]) (by first | (simp [results, Tryd.results13, go_sem]; done) | (simp [results, Tryd.results13, go_sem, z0, z1, *]; done)) rfl ⟨rfl, ?_⟩
    repeat (first | exact Below.refl _ _ | exact HBw1.out | refine Below.setCell ?_ (by first | (simp; done) | omega | (simp; omega)) _ | refine Below.alloc ?_ (by first | (simp; done) | omega | (simp; omega)) _ | refine bel_drew ?_)
  | true =>
    rw [if_pos rfl]
    rw [hu] at U
    obtain ⟨⟨a0, a1⟩, h0, h1⟩ := upB_bd hu
    have F := Lib.hid (fun w => nearest_any ((90000 - h) * 1000000) 90000 w (by omega) (by omega) (by omega) (by omega))
    have S := Lib.hid (fun w hs => implSine_any a (by omega) (by omega) w hs)
    have C := Lib.hid (fun w hs => implCosine_any a (by omega) (by omega) w hs)
    change Hid (∀ w, Calls Tryd.prog 39 #[.int .i64 ((90000 - h) * 1000000), .int .i64 90000] w fun e w' => e = .returned (.int .i64 (farM h)) ∧ Below w.heap.size w w') at F
    have b1 := farM_bd h h0 h1
    have b2 := sinI_bd a
    have b3 := cosI_bd a
    generalize farM h = r at *
    generalize sinI a = s at *
    generalize cosI a = c at *
    have p1 := pr_bd r s 1000000 1000000 (by omega) (by omega) b2.1 b2.2
    have p2 := pr_bd r c 1000000 1000000 (by omega) (by omega) b3.1 b3.2
    have X := Lib.hid (fun w => nearest_any (r * s) 1000000 w (by omega) (by omega) (by omega) (by omega))
    have Y := Lib.hid (fun w => nearest_any (r * c) 1000000 w (by omega) (by omega) (by omega) (by omega))
    have e1 : wrap64 (r * s) = r * s := IntWalk.wrap64_in _ (by omega)
    have e2 : wrap64 (r * c) = r * c := IntWalk.wrap64_in _ (by omega)
    have E1 := Lib.hid e1
    have E2 := Lib.hid e2
    clear p1 p2 e1 e2 b2 b3 hu
    generalize nearQ (r * s) 1000000 = x at *
    generalize nearQ (r * c) 1000000 = y at *
    go_enter Tryd.func13, Tryd.ntmps13
    go_wp2_with fail
    refine (U.out _).mono ?_
    rintro e w1 ⟨rfl, hb⟩
    have hsw1 := hb.size
    try simp at hsw1
    obtain ⟨hcw1, hfw1⟩ := bcell hb
    have HBw1 : Hid (Below w.heap.size w w1) := by
      apply Lib.hid
      refine Below.trans ?_ (hb.mono ?_)
      · repeat (first | exact Below.refl _ _ | refine Below.setCell ?_ (by first | (simp; done) | omega | (simp; omega)) _ | refine Below.alloc ?_ (by first | (simp; done) | omega | (simp; omega)) _)
      · first | (simp; done) | omega | (simp; omega)
    have hzw1 : w.heap.size < w1.heap.size := by have := hb.size; (try simp at this); omega
    clear hb
    go_wp2_with fail
    refine (F.out _).mono ?_
    rintro e w2 ⟨rfl, hb⟩
    have hsw2 := hb.size
    try simp at hsw2
    obtain ⟨hcw2, hfw2⟩ := bcell hb
    have HBw2 : Hid (Below w.heap.size w w2) := by
      apply Lib.hid
      refine Below.trans ?_ (hb.mono ?_)
      · repeat (first | exact Below.refl _ _ | exact HBw1.out | refine Below.setCell ?_ (by first | (simp; done) | omega | (simp; omega)) _ | refine Below.alloc ?_ (by first | (simp; done) | omega | (simp; omega)) _)
      · first | (simp; done) | omega | (simp; omega)
    have hzw2 : w.heap.size < w2.heap.size := by have := hb.size; (try simp at this); omega
    clear hb
    first | (have gsw2w1 : w1.heap.size < w2.heap.size := by omega) | skip
    go_wp2_with fail
    refine (S.out _ (E.out.below (by repeat (first | exact Below.refl _ _ | exact HBw2.out | refine Below.setCell ?_ (by first | (simp; done) | omega | (simp; omega)) _ | refine Below.alloc ?_ (by first | (simp; done) | omega | (simp; omega)) _ | refine bel_drew ?_)))).mono ?_
    rintro e w3 ⟨rfl, hb⟩
    have hsw3 := hb.size
    try simp at hsw3
    obtain ⟨hcw3, hfw3⟩ := bcell hb
    have HBw3 : Hid (Below w.heap.size w w3) := by
      apply Lib.hid
      refine Below.trans ?_ (hb.mono ?_)
      · repeat (first | exact Below.refl _ _ | exact HBw2.out | refine Below.setCell ?_ (by first | (simp; done) | omega | (simp; omega)) _ | refine Below.alloc ?_ (by first | (simp; done) | omega | (simp; omega)) _)
      · first | (simp; done) | omega | (simp; omega)
    have hzw3 : w.heap.size < w3.heap.size := by have := hb.size; (try simp at this); omega
    clear hb
    first | (have gsw3w1 : w1.heap.size < w3.heap.size := by omega) | skip
    first | (have gsw3w2 : w2.heap.size < w3.heap.size := by omega) | skip
    go_wp2_with fail
    rw [E1.out]
    refine (X.out _).mono ?_
    rintro e w4 ⟨rfl, hb⟩
    have hsw4 := hb.size
    try simp at hsw4
    obtain ⟨hcw4, hfw4⟩ := bcell hb
    have HBw4 : Hid (Below w.heap.size w w4) := by
      apply Lib.hid
      refine Below.trans ?_ (hb.mono ?_)
      · repeat (first | exact Below.refl _ _ | exact HBw3.out | refine Below.setCell ?_ (by first | (simp; done) | omega | (simp; omega)) _ | refine Below.alloc ?_ (by first | (simp; done) | omega | (simp; omega)) _)
      · first | (simp; done) | omega | (simp; omega)
    have hzw4 : w.heap.size < w4.heap.size := by have := hb.size; (try simp at this); omega
    clear hb
    first | (have gsw4w1 : w1.heap.size < w4.heap.size := by omega) | skip
    first | (have gsw4w2 : w2.heap.size < w4.heap.size := by omega) | skip
    first | (have gsw4w3 : w3.heap.size < w4.heap.size := by omega) | skip
    go_wp2_with fail
    refine (C.out _ (E.out.below (by repeat (first | exact Below.refl _ _ | exact HBw4.out | refine Below.setCell ?_ (by first | (simp; done) | omega | (simp; omega)) _ | refine Below.alloc ?_ (by first | (simp; done) | omega | (simp; omega)) _ | refine bel_drew ?_)))).mono ?_
    rintro e w5 ⟨rfl, hb⟩
    have hsw5 := hb.size
    try simp at hsw5
    obtain ⟨hcw5, hfw5⟩ := bcell hb
    have HBw5 : Hid (Below w.heap.size w w5) := by
      apply Lib.hid
      refine Below.trans ?_ (hb.mono ?_)
      · repeat (first | exact Below.refl _ _ | exact HBw4.out | refine Below.setCell ?_ (by first | (simp; done) | omega | (simp; omega)) _ | refine Below.alloc ?_ (by first | (simp; done) | omega | (simp; omega)) _)
      · first | (simp; done) | omega | (simp; omega)
    have hzw5 : w.heap.size < w5.heap.size := by have := hb.size; (try simp at this); omega
    clear hb
    first | (have gsw5w1 : w1.heap.size < w5.heap.size := by omega) | skip
    first | (have gsw5w2 : w2.heap.size < w5.heap.size := by omega) | skip
    first | (have gsw5w3 : w3.heap.size < w5.heap.size := by omega) | skip
    first | (have gsw5w4 : w4.heap.size < w5.heap.size := by omega) | skip
    go_wp2_with fail
    rw [E2.out]
    refine (Y.out _).mono ?_
    rintro e w6 ⟨rfl, hb⟩
    have hsw6 := hb.size
    try simp at hsw6
    obtain ⟨hcw6, hfw6⟩ := bcell hb
    have HBw6 : Hid (Below w.heap.size w w6) := by
      apply Lib.hid
      refine Below.trans ?_ (hb.mono ?_)
      · repeat (first | exact Below.refl _ _ | exact HBw5.out | refine Below.setCell ?_ (by first | (simp; done) | omega | (simp; omega)) _ | refine Below.alloc ?_ (by first | (simp; done) | omega | (simp; omega)) _)
      · first | (simp; done) | omega | (simp; omega)
    have hzw6 : w.heap.size < w6.heap.size := by have := hb.size; (try simp at this); omega
    clear hb
    first | (have gsw6w1 : w1.heap.size < w6.heap.size := by omega) | skip
    first | (have gsw6w2 : w2.heap.size < w6.heap.size := by omega) | skip
    first | (have gsw6w3 : w3.heap.size < w6.heap.size := by omega) | skip
    first | (have gsw6w4 : w4.heap.size < w6.heap.size := by omega) | skip
    first | (have gsw6w5 : w5.heap.size < w6.heap.size := by omega) | skip
    go_wp2_with fail
    have z0 : w6.cell? ⟨w.heap.size, 0, none⟩ = some (.int .i64 0) := by rw [hcw6 _ _ hzw5, hcw5 _ _ hzw4, hcw4 _ _ hzw3, hcw3 _ _ hzw2, hcw2 _ _ hzw1, hcw1 _ _ (by first | (simp; done) | (simp; omega))]; simp
    have z1 : w6.cell? ⟨w.heap.size, 1, none⟩ = some (.int .i64 0) := by rw [hcw6 _ _ hzw5, hcw5 _ _ hzw4, hcw4 _ _ hzw3, hcw3 _ _ hzw2, hcw2 _ _ hzw1, hcw1 _ _ (by first | (simp; done) | (simp; omega))]; simp
    clear hcw1 hcw2 hcw3 hcw4 hcw5 hcw6
    refine bodyPost_ret (v := .tuple #[.agg #[.int .i64 x, .int .i64 y], .int .i64 0]) (by first | (simp [results, Tryd.results13, go_sem]; done) | (simp [results, Tryd.results13, go_sem, z0, z1, *]; done)) rfl ⟨rfl, ?_⟩
    repeat (first | exact Below.refl _ _ | exact HBw6.out | refine Below.setCell ?_ (by first | (simp; done) | omega | (simp; omega)) _ | refine Below.alloc ?_ (by first | (simp; done) | omega | (simp; omega)) _ | refine bel_drew ?_)

set_option maxHeartbeats 1000000 in
theorem l09Spot_any (a h : Int) (a0 : 0 ≤ a) (a1 : a ≤ 359999) (h0 : 0 ≤ h) (h1 : h ≤ 90000) (w : World) :
    Calls Tryd.prog 37 #[.int .i64 a, .int .i64 h] w fun e w' => e = .returned (.agg #[.int .i64 (nearQ (farM h * sinI a) 1000000), .int .i64 (nearQ (farM h * cosI a) 1000000)]) ∧ Below w.heap.size w w' := by
  have F := Lib.hid (fun w => l01Div_any ((90000 - h) * 1000000) 90000 w (by omega) (by omega) (by omega) (by omega) (by omega))
  have S := Lib.hid (fun w => l02Sine_any a (by omega) (by omega) w)
  have C := Lib.hid (fun w => l02Cosine_any a (by omega) (by omega) w)
  change Hid (∀ w, Calls Tryd.prog 57 #[.int .i64 ((90000 - h) * 1000000), .int .i64 90000] w fun e w' => e = .returned (.int .i64 (farM h)) ∧ w = w') at F
  have b1 := farM_bd h h0 h1
  have b2 := sinI_bd a
  have b3 := cosI_bd a
  generalize farM h = r at *
  generalize sinI a = s at *
  generalize cosI a = c at *
  have p1 := pr_bd r s 1000000 1000000 (by omega) (by omega) b2.1 b2.2
  have p2 := pr_bd r c 1000000 1000000 (by omega) (by omega) b3.1 b3.2
  have X := Lib.hid (fun w => l01Div_any (r * s) 1000000 w (by omega) (by omega) (by omega) (by omega) (by omega))
  have Y := Lib.hid (fun w => l01Div_any (r * c) 1000000 w (by omega) (by omega) (by omega) (by omega) (by omega))
  have e1 : wrap64 (r * s) = r * s := IntWalk.wrap64_in _ (by omega)
  have e2 : wrap64 (r * c) = r * c := IntWalk.wrap64_in _ (by omega)
  have E1 := Lib.hid e1
  have E2 := Lib.hid e2
  clear p1 p2 e1 e2 b2 b3
  generalize nearQ (r * s) 1000000 = x at *
  generalize nearQ (r * c) 1000000 = y at *
  go_enter Tryd.func37, Tryd.ntmps37
  go_wp2_with fail
  refine (F.out _).mono ?_
  rintro e w' ⟨rfl, rfl⟩
  go_wp2_with fail
  refine (S.out _).mono ?_
  rintro e w1 ⟨rfl, hb⟩
  have hsw1 := hb.size
  try simp at hsw1
  obtain ⟨hcw1, hfw1⟩ := bcell hb
  have HBw1 : Hid (Below w.heap.size w w1) := by
    apply Lib.hid
    refine Below.trans ?_ (hb.mono ?_)
    · repeat (first | exact Below.refl _ _ | refine Below.setCell ?_ (by first | (simp; done) | omega | (simp; omega)) _ | refine Below.alloc ?_ (by first | (simp; done) | omega | (simp; omega)) _)
    · first | (simp; done) | omega | (simp; omega)
  have hzw1 : w.heap.size < w1.heap.size := by have := hb.size; (try simp at this); omega
  clear hb
  go_wp2_with fail
  rw [E1.out]
  refine (X.out _).mono ?_
  rintro e w' ⟨rfl, rfl⟩
  go_wp2_with fail
  refine (C.out _).mono ?_
  rintro e w2 ⟨rfl, hb⟩
  have hsw2 := hb.size
  try simp at hsw2
  obtain ⟨hcw2, hfw2⟩ := bcell hb
  have HBw2 : Hid (Below w.heap.size w w2) := by
    apply Lib.hid
    refine Below.trans ?_ (hb.mono ?_)
    · repeat (first | exact Below.refl _ _ | exact HBw1.out | refine Below.setCell ?_ (by first | (simp; done) | omega | (simp; omega)) _ | refine Below.alloc ?_ (by first | (simp; done) | omega | (simp; omega)) _)
    · first | (simp; done) | omega | (simp; omega)
  have hzw2 : w.heap.size < w2.heap.size := by have := hb.size; (try simp at this); omega
  clear hb
  first | (have gsw2w1 : w1.heap.size < w2.heap.size := by omega) | skip
  go_wp2_with fail
  rw [E2.out]
  refine (Y.out _).mono ?_
  rintro e w' ⟨rfl, rfl⟩
  go_wp2_with fail
  refine bodyPost_ret (v := .agg #[.int .i64 x, .int .i64 y]) (by first | (simp [results, Tryd.results37, go_sem]; done) | (simp [results, Tryd.results37, go_sem, *]; done)) rfl ⟨rfl, ?_⟩
  repeat (first | exact Below.refl _ _ | exact HBw2.out | refine Below.setCell ?_ (by first | (simp; done) | omega | (simp; omega)) _ | refine Below.alloc ?_ (by first | (simp; done) | omega | (simp; omega)) _ | refine bel_drew ?_)
set_option maxHeartbeats 1000000 in
theorem specSpot_any (a h : Int) (w : World) :
    Calls Tryd.prog 12 #[.int .i64 a, .int .i64 h] w fun e w' => e = .returned (spotV a h) ∧ Below w.heap.size w w' := by
  unfold spotV
  have U := Lib.hid (fun w => l09Up_any a h w)
  cases hu : upB a h with
  | false =>
    rw [if_neg (by simp)]
    rw [hu] at U
    clear hu
    go_enter Tryd.func12, Tryd.ntmps12
    go_wp2_with fail
    refine (U.out _).mono ?_
    rintro e w' ⟨rfl, rfl⟩
    go_wp2_with fail
    refine bodyPost_ret (v := .tuple #[.agg #[.int .i64 0, .int .i64 0], .int .i64 2]) (by first | (simp [results, Tryd.results12, go_sem]; done) | (simp [results, Tryd.results12, go_sem, *]; done)) rfl ⟨rfl, ?_⟩
    repeat (first | exact Below.refl _ _ | refine Below.setCell ?_ (by first | (simp; done) | omega | (simp; omega)) _ | refine Below.alloc ?_ (by first | (simp; done) | omega | (simp; omega)) _ | refine bel_drew ?_)
  | true =>
    rw [if_pos rfl]
    rw [hu] at U
    obtain ⟨⟨a0, a1⟩, h0, h1⟩ := upB_bd hu
    have S := Lib.hid (fun w => l09Spot_any a h a0 a1 h0 h1 w)
    clear hu
    generalize nearQ (farM h * sinI a) 1000000 = x at *
    generalize nearQ (farM h * cosI a) 1000000 = y at *
    go_enter Tryd.func12, Tryd.ntmps12
    go_wp2_with fail
    refine (U.out _).mono ?_
    rintro e w' ⟨rfl, rfl⟩
    go_wp2_with fail
    refine (S.out _).mono ?_
    rintro e w1 ⟨rfl, hb⟩
    have hsw1 := hb.size
    try simp at hsw1
    obtain ⟨hcw1, hfw1⟩ := bcell hb
    have HBw1 : Hid (Below w.heap.size w w1) := by
      apply Lib.hid
      refine Below.trans ?_ (hb.mono ?_)
      · repeat (first | exact Below.refl _ _ | refine Below.setCell ?_ (by first | (simp; done) | omega | (simp; omega)) _ | refine Below.alloc ?_ (by first | (simp; done) | omega | (simp; omega)) _)
      · first | (simp; done) | omega | (simp; omega)
    have hzw1 : w.heap.size < w1.heap.size := by have := hb.size; (try simp at this); omega
    clear hb
    go_wp2_with fail
    refine bodyPost_ret (v := .tuple #[.agg #[.int .i64 x, .int .i64 y], .int .i64 0]) (by first | (simp [results, Tryd.results12, go_sem]; done) | (simp [results, Tryd.results12, go_sem, *]; done)) rfl ⟨rfl, ?_⟩
    repeat (first | exact Below.refl _ _ | exact HBw1.out | refine Below.setCell ?_ (by first | (simp; done) | omega | (simp; omega)) _ | refine Below.alloc ?_ (by first | (simp; done) | omega | (simp; omega)) _ | refine bel_drew ?_)

def zoneB (l h : Int) : Bool := inR 0 90000 [l] && inR l 90000 [h]
/-- What ZoneShare returns. -/
def zoneV (l h : Int) : Value := if zoneB l h = true then .tuple #[.int .i64 (nearQ (1000 * (sinI h - sinI l)) 1000000), .int .i64 0] else .tuple #[.int .i64 0, .int .i64 2]
theorem zoneV_form (l h : Int) : ∃ x c : Int, zoneV l h = .tuple #[.int .i64 x, .int .i64 c] := by unfold zoneV; split <;> exact ⟨_, _, rfl⟩

set_option maxHeartbeats 1000000 in
theorem implZone_any (l h : Int) (w : World) (hs : SinesOK w) :
    Calls Tryd.prog 30 #[.int .i64 l, .int .i64 h] w fun e w' => e = .returned (zoneV l h) ∧ Below w.heap.size w w' := by
  unfold zoneV zoneB
  have E := Lib.hid hs
  clear hs
  cases h1 : inR 0 90000 [l] with
  | false =>
    rw [Bool.false_and, if_neg (by simp)]
    have H1 := Lib.hid h1
    clear h1
    go_enter Tryd.func30, Tryd.ntmps30
    go_wp2_with fail
    refine (within1 _ _ l _ _ _ (by first | (simp; done) | (rw [World.cell?_alloc_at _ _ _ _ (by simp)]; rfl))).mono ?_
    rintro e w' ⟨rfl, rfl⟩
    rw [H1.out]
    go_wp2_with fail
    refine bodyPost_ret (v := .tuple #[.int .i64 0, .int .i64 2]) (by first | (simp [results, Tryd.results30, go_sem]; done) | (simp [results, Tryd.results30, go_sem]; done)) rfl ⟨rfl, ?_⟩
    repeat (first | exact Below.refl _ _ | refine Below.setCell ?_ (by first | (simp; done) | omega | (simp; omega)) _ | refine Below.alloc ?_ (by first | (simp; done) | omega | (simp; omega)) _ | refine bel_drew ?_)
  | true =>
    rw [Bool.true_and]
    cases h2 : inR l 90000 [h] with
    | false =>
      rw [if_neg (by simp)]
      have H1 := Lib.hid h1
      have H2 := Lib.hid h2
      clear h1 h2
      go_enter Tryd.func30, Tryd.ntmps30
      go_wp2_with fail
      refine (within1 _ _ l _ _ _ (by first | (simp; done) | (rw [World.cell?_alloc_at _ _ _ _ (by simp)]; rfl))).mono ?_
      rintro e w' ⟨rfl, rfl⟩
      rw [H1.out]
      go_wp2_with fail
      refine (within1 _ _ h _ _ _ (by first | (simp; done) | (rw [World.cell?_alloc_at _ _ _ _ (by simp)]; rfl))).mono ?_
      rintro e w' ⟨rfl, rfl⟩
      rw [H2.out]
      go_wp2_with fail
      refine bodyPost_ret (v := .tuple #[.int .i64 0, .int .i64 2]) (by first | (simp [results, Tryd.results30, go_sem]; done) | (simp [results, Tryd.results30, go_sem]; done)) rfl ⟨rfl, ?_⟩
      repeat (first | exact Below.refl _ _ | refine Below.setCell ?_ (by first | (simp; done) | omega | (simp; omega)) _ | refine Below.alloc ?_ (by first | (simp; done) | omega | (simp; omega)) _ | refine bel_drew ?_)
    | true =>
      rw [if_pos rfl]
      have H1 := Lib.hid h1
      have H2 := Lib.hid h2
      rw [inR_1] at h1 h2
      have S := Lib.hid (fun w hs => implSine_any h (by omega) (by omega) w hs)
      have S' := Lib.hid (fun w hs => implSine_any l (by omega) (by omega) w hs)
      have b2 := sinI_bd h
      have b3 := sinI_bd l
      clear h1 h2
      generalize sinI h = s at *
      generalize sinI l = c at *
      have N := Lib.hid (fun w => nearest_any (1000 * (s - c)) 1000000 w (by omega) (by omega) (by omega) (by omega))
      generalize nearQ (1000 * (s - c)) 1000000 = x at *
      go_enter Tryd.func30, Tryd.ntmps30
      go_wp2_with fail
      refine (within1 _ _ l _ _ _ (by first | (simp; done) | (rw [World.cell?_alloc_at _ _ _ _ (by simp)]; rfl))).mono ?_
      rintro e w' ⟨rfl, rfl⟩
      rw [H1.out]
      go_wp2_with fail
      refine (within1 _ _ h _ _ _ (by first | (simp; done) | (rw [World.cell?_alloc_at _ _ _ _ (by simp)]; rfl))).mono ?_
      rintro e w' ⟨rfl, rfl⟩
      rw [H2.out]
      go_wp2_with fail
      refine (S.out _ (E.out.below (by repeat (first | exact Below.refl _ _ | refine Below.setCell ?_ (by first | (simp; done) | omega | (simp; omega)) _ | refine Below.alloc ?_ (by first | (simp; done) | omega | (simp; omega)) _ | refine bel_drew ?_)))).mono ?_
      rintro e w1 ⟨rfl, hb⟩
      have hsw1 := hb.size
      try simp at hsw1
      obtain ⟨hcw1, hfw1⟩ := bcell hb
      have HBw1 : Hid (Below w.heap.size w w1) := by
        apply Lib.hid
        refine Below.trans ?_ (hb.mono ?_)
        · repeat (first | exact Below.refl _ _ | refine Below.setCell ?_ (by first | (simp; done) | omega | (simp; omega)) _ | refine Below.alloc ?_ (by first | (simp; done) | omega | (simp; omega)) _)
        · first | (simp; done) | omega | (simp; omega)
      have hzw1 : w.heap.size + 1 < w1.heap.size := by have := hb.size; (try simp at this); omega
      have hyw1 : w.heap.size < w1.heap.size := by have := hb.size; (try simp at this); omega
      clear hb
      go_wp2_with fail
      refine (S'.out _ (E.out.below (by repeat (first | exact Below.refl _ _ | exact HBw1.out | refine Below.setCell ?_ (by first | (simp; done) | omega | (simp; omega)) _ | refine Below.alloc ?_ (by first | (simp; done) | omega | (simp; omega)) _ | refine bel_drew ?_)))).mono ?_
      rintro e w2 ⟨rfl, hb⟩
      have hsw2 := hb.size
      try simp at hsw2
      obtain ⟨hcw2, hfw2⟩ := bcell hb
      have HBw2 : Hid (Below w.heap.size w w2) := by
        apply Lib.hid
        refine Below.trans ?_ (hb.mono ?_)
        · repeat (first | exact Below.refl _ _ | exact HBw1.out | refine Below.setCell ?_ (by first | (simp; done) | omega | (simp; omega)) _ | refine Below.alloc ?_ (by first | (simp; done) | omega | (simp; omega)) _)
        · first | (simp; done) | omega | (simp; omega)
      have hzw2 : w.heap.size + 1 < w2.heap.size := by have := hb.size; (try simp at this); omega
      have hyw2 : w.heap.size < w2.heap.size := by have := hb.size; (try simp at this); omega
      clear hb
      first | (have gsw2w1 : w1.heap.size < w2.heap.size := by omega) | skip
      go_wp2_with fail
      refine (N.out _).mono ?_
      rintro e w3 ⟨rfl, hb⟩
      have hsw3 := hb.size
      try simp at hsw3
      obtain ⟨hcw3, hfw3⟩ := bcell hb
      have HBw3 : Hid (Below w.heap.size w w3) := by
        apply Lib.hid
        refine Below.trans ?_ (hb.mono ?_)
        · repeat (first | exact Below.refl _ _ | exact HBw2.out | refine Below.setCell ?_ (by first | (simp; done) | omega | (simp; omega)) _ | refine Below.alloc ?_ (by first | (simp; done) | omega | (simp; omega)) _)
        · first | (simp; done) | omega | (simp; omega)
      have hzw3 : w.heap.size + 1 < w3.heap.size := by have := hb.size; (try simp at this); omega
      have hyw3 : w.heap.size < w3.heap.size := by have := hb.size; (try simp at this); omega
      clear hb
      first | (have gsw3w1 : w1.heap.size < w3.heap.size := by omega) | skip
      first | (have gsw3w2 : w2.heap.size < w3.heap.size := by omega) | skip
      go_wp2_with fail
      refine bodyPost_ret (v := .tuple #[.int .i64 x, .int .i64 0]) (by first | (simp [results, Tryd.results30, go_sem]; done) | (simp [results, Tryd.results30, go_sem]; done)) rfl ⟨rfl, ?_⟩
      repeat (first | exact Below.refl _ _ | exact HBw3.out | refine Below.setCell ?_ (by first | (simp; done) | omega | (simp; omega)) _ | refine Below.alloc ?_ (by first | (simp; done) | omega | (simp; omega)) _ | refine bel_drew ?_)
set_option maxHeartbeats 1000000 in
theorem specZone_any (l h : Int) (w : World) :
    Calls Tryd.prog 29 #[.int .i64 l, .int .i64 h] w fun e w' => e = .returned (zoneV l h) ∧ Below w.heap.size w w' := by
  unfold zoneV zoneB
  have I1 := Lib.hid (fun w => l00In_any l 0 90000 w)
  have I2 := Lib.hid (fun w => l00In_any h l 90000 w)
  cases h1 : inR 0 90000 [l] with
  | false =>
    rw [Bool.false_and, if_neg (by simp)]
    rw [h1] at I1
    clear h1
    go_enter Tryd.func29, Tryd.ntmps29
    go_wp2_with fail
    refine (I1.out _).mono ?_
    rintro e w' ⟨rfl, rfl⟩
    go_wp2_with fail
    refine bodyPost_ret (v := .tuple #[.int .i64 0, .int .i64 2]) (by first | (simp [results, Tryd.results29, go_sem]; done) | (simp [results, Tryd.results29, go_sem]; done)) rfl ⟨rfl, ?_⟩
    repeat (first | exact Below.refl _ _ | refine Below.setCell ?_ (by first | (simp; done) | omega | (simp; omega)) _ | refine Below.alloc ?_ (by first | (simp; done) | omega | (simp; omega)) _ | refine bel_drew ?_)
  | true =>
    rw [Bool.true_and]
    rw [h1] at I1
    cases h2 : inR l 90000 [h] with
    | false =>
      rw [if_neg (by simp)]
      rw [h2] at I2
      clear h1 h2
      go_enter Tryd.func29, Tryd.ntmps29
      go_wp2_with fail
      refine (I1.out _).mono ?_
      rintro e w' ⟨rfl, rfl⟩
      go_wp2_with fail
      refine (I2.out _).mono ?_
      rintro e w' ⟨rfl, rfl⟩
      go_wp2_with fail
      refine bodyPost_ret (v := .tuple #[.int .i64 0, .int .i64 2]) (by first | (simp [results, Tryd.results29, go_sem]; done) | (simp [results, Tryd.results29, go_sem]; done)) rfl ⟨rfl, ?_⟩
      repeat (first | exact Below.refl _ _ | refine Below.setCell ?_ (by first | (simp; done) | omega | (simp; omega)) _ | refine Below.alloc ?_ (by first | (simp; done) | omega | (simp; omega)) _ | refine bel_drew ?_)
    | true =>
      rw [if_pos rfl]
      rw [h2] at I2
      rw [inR_1] at h1 h2
      have S := Lib.hid (fun w => l02Sine_any h (by omega) (by omega) w)
      have S' := Lib.hid (fun w => l02Sine_any l (by omega) (by omega) w)
      have b2 := sinI_bd h
      have b3 := sinI_bd l
      clear h1 h2
      generalize sinI h = s at *
      generalize sinI l = c at *
      have N := Lib.hid (fun w => l01Div_any (1000 * (s - c)) 1000000 w (by omega) (by omega) (by omega) (by omega) (by omega))
      generalize nearQ (1000 * (s - c)) 1000000 = x at *
      go_enter Tryd.func29, Tryd.ntmps29
      go_wp2_with fail
      refine (I1.out _).mono ?_
      rintro e w' ⟨rfl, rfl⟩
      go_wp2_with fail
      refine (I2.out _).mono ?_
      rintro e w' ⟨rfl, rfl⟩
      go_wp2_with fail
      refine (S.out _).mono ?_
      rintro e w1 ⟨rfl, hb⟩
      have hsw1 := hb.size
      try simp at hsw1
      obtain ⟨hcw1, hfw1⟩ := bcell hb
      have HBw1 : Hid (Below w.heap.size w w1) := by
        apply Lib.hid
        refine Below.trans ?_ (hb.mono ?_)
        · repeat (first | exact Below.refl _ _ | refine Below.setCell ?_ (by first | (simp; done) | omega | (simp; omega)) _ | refine Below.alloc ?_ (by first | (simp; done) | omega | (simp; omega)) _)
        · first | (simp; done) | omega | (simp; omega)
      clear hb
      go_wp2_with fail
      refine (S'.out _).mono ?_
      rintro e w2 ⟨rfl, hb⟩
      have hsw2 := hb.size
      try simp at hsw2
      obtain ⟨hcw2, hfw2⟩ := bcell hb
      have HBw2 : Hid (Below w.heap.size w w2) := by
        apply Lib.hid
        refine Below.trans ?_ (hb.mono ?_)
        · repeat (first | exact Below.refl _ _ | exact HBw1.out | refine Below.setCell ?_ (by first | (simp; done) | omega | (simp; omega)) _ | refine Below.alloc ?_ (by first | (simp; done) | omega | (simp; omega)) _)
        · first | (simp; done) | omega | (simp; omega)
      clear hb
      first | (have gsw2w1 : w1.heap.size < w2.heap.size := by omega) | skip
      go_wp2_with fail
      refine (N.out _).mono ?_
      rintro e w' ⟨rfl, rfl⟩
      go_wp2_with fail
      refine bodyPost_ret (v := .tuple #[.int .i64 x, .int .i64 0]) (by first | (simp [results, Tryd.results29, go_sem]; done) | (simp [results, Tryd.results29, go_sem]; done)) rfl ⟨rfl, ?_⟩
      repeat (first | exact Below.refl _ _ | exact HBw2.out | refine Below.setCell ?_ (by first | (simp; done) | omega | (simp; omega)) _ | refine Below.alloc ?_ (by first | (simp; done) | omega | (simp; omega)) _ | refine bel_drew ?_)
set_option maxHeartbeats 400000 in
theorem eqSpot_same (x y : Int) (w : World) :
    Calls Tryd.prog 14 #[.agg #[.int .i64 x, .int .i64 y], .agg #[.int .i64 x, .int .i64 y]] w fun e w' => e = .returned (.bool true) ∧ Below w.heap.size w w' := by
  go_enter Tryd.func14, Tryd.ntmps14
  go_wp2_with fail
  go_ret
  refine ⟨rfl, ?_⟩
  repeat (first | exact Below.refl _ _ | refine Below.setCell ?_ (by first | (simp; done) | omega | (simp; omega)) _ | refine Below.alloc ?_ (by first | (simp; done) | omega | (simp; omega)) _ | refine bel_drew ?_)
end Go.Proofs.YtcdmgkjaionjpaaDoor
