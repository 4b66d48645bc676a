/-
  Directions in the frame of a tilted dome: the contracts of overFloor, direction of a floor vector, tilted, levelled, turned, TiltedDirection, LevelDirection (package impl), l09Turn, TiltedDirection, LevelDirection (package spec).
-/
import Derived.Test.YtcdmgkjaionjpaaDoorDome1
import Derived.Test.YtcdmgkjaionjpaaDoorHorM
import Derived.Test.YtcdmgkjaionjpaaDoorTow
import Derived.Test.YtcdmgkjaionjpaaDoorRot
import Derived.Test.YtcdmgkjaionjpaaDoorSRot
import Derived.Test.YtcdmgkjaionjpaaDoorSAng
import Derived.Test.YtcdmgkjaionjpaaDoorAngP
import Derived.Shelf.Abstract
namespace Go.Proofs.YtcdmgkjaionjpaaDoor
open Go.RowKit
set_option linter.unusedVariables false

theorem cosI_nrm (a : Int) : cosI (nrm a) = cosI a := by unfold cosI; rw [nrm_nrm]
theorem dirT_inD (lon d : Int) (d0 : -90000 ≤ d) (d1 : d ≤ 90000) : dirT lon d = (dX lon d, dY lon d, sinI d) := by
  unfold dirT
  rw [if_pos ((inR_1 _ _ _).2 ⟨d0, d1⟩)]
  rfl
theorem dX_nrm (lon lat : Int) : dX (nrm lon) lat = dX lon lat := by unfold dX; rw [cosI_nrm]
theorem dY_nrm (lon lat : Int) : dY (nrm lon) lat = dY lon lat := by unfold dY; rw [sinI_nrm]
/-- The second and the third component of a vector that is turned around the first axis. -/
def tuY (y z s c : Int) : Int := nearQ (y * c - z * s) 1000000
def tuZ (y z s c : Int) : Int := nearQ (y * s + z * c) 1000000
theorem tu_in {x y z s c : Int} (h : inV 1000000 x y z) (hs : -1000000 ≤ s ∧ s ≤ 1000000) (hc : -1000000 ≤ c ∧ c ≤ 1000000) : inV 2000000 x (tuY y z s c) (tuZ y z s c) := by
  obtain ⟨⟨a, b⟩, ⟨k, d⟩, e, f⟩ := h
  have p1 := pr_bd y c 1000000 1000000 k d hc.1 hc.2
  have p2 := pr_bd z s 1000000 1000000 e f hs.1 hs.2
  have p3 := pr_bd z c 1000000 1000000 e f hc.1 hc.2
  have p4 := pr_bd y s 1000000 1000000 k d hs.1 hs.2
  have q1 := nq6_bd (y * c - z * s) 2000000 (by omega) (by omega) (by omega)
  have q2 := nq6_bd (y * s + z * c) 2000000 (by omega) (by omega) (by omega)
  unfold tuY tuZ
  exact ⟨⟨by omega, by omega⟩, ⟨by omega, by omega⟩, by omega, by omega⟩
/-- The vector of a direction that is turned by an angle. -/
def tvX (a h : Int) : Int := dX (90000 - a) h
def tvY (t a h : Int) : Int := tuY (dY (90000 - a) h) (sinI h) (sinI t) (cosI t)
def tvZ (t a h : Int) : Int := tuZ (dY (90000 - a) h) (sinI h) (sinI t) (cosI t)
theorem tv_in (t a h : Int) : inV 2000000 (tvX a h) (tvY t a h) (tvZ t a h) := tu_in (dir_in _ _) (sinI_bd _) (cosI_bd _)
def azI (x y : Int) : Int := nrm (90000 - lonI x y)
theorem lonI_bd (x y : Int) : 0 ≤ lonI x y ∧ lonI x y < 360000 := by
  unfold lonI
  have := dirI_bd y x
  split <;> omega
/-- What TiltedDirection and LevelDirection return, turned by t. -/
def turnV (s : ByteArray) (r b t u v : Int) : Value := if domeB s r b = true then (if dirB u v = true then .tuple #[.int .i64 (azI (tvX u v) (tvY t u v)), .int .i64 (latI (tvX u v) (tvY t u v) (tvZ t u v)), .int .i64 0] else .tuple #[.int .i64 0, .int .i64 0, .int .i64 2]) else .tuple #[.int .i64 0, .int .i64 0, .int .i64 1]
def tiltV (s : ByteArray) (r b u v : Int) : Value := turnV s r b b u v
def levelV (s : ByteArray) (r b u v : Int) : Value := turnV s r b (-b) u v
theorem turnV_form (s : ByteArray) (r b t u v : Int) : ∃ x y c : Int, turnV s r b t u v = .tuple #[.int .i64 x, .int .i64 y, .int .i64 c] := by
  unfold turnV
  split
  · split <;> exact ⟨_, _, _, rfl⟩
  · exact ⟨_, _, _, rfl⟩
theorem tiltV_form (s : ByteArray) (r b u v : Int) : ∃ x y c : Int, tiltV s r b u v = .tuple #[.int .i64 x, .int .i64 y, .int .i64 c] := turnV_form _ _ _ _ _ _
theorem levelV_form (s : ByteArray) (r b u v : Int) : ∃ x y c : Int, levelV s r b u v = .tuple #[.int .i64 x, .int .i64 y, .int .i64 c] := turnV_form _ _ _ _ _ _
theorem dirB_bd {u v : Int} (h : dirB u v = true) : (0 ≤ u ∧ u ≤ 359999) ∧ -90000 ≤ v ∧ v ≤ 90000 := by
  unfold dirB at h
  simp only [Bool.and_eq_true, inR_1] at h
  exact h

set_option maxHeartbeats 1000000 in
theorem l09Turn_any (a h t : Int) (a0 : 0 ≤ a) (a1 : a ≤ 359999) (h0 : -90000 ≤ h) (h1 : h ≤ 90000) (t0 : -100000 ≤ t) (t1 : t ≤ 100000) (w : World) :
    Calls Tryd.prog 49 #[.int .i64 a, .int .i64 h, .int .i64 t] w fun e w' => e = .returned (.tuple #[.int .i64 (azI (tvX a h) (tvY t a h)), .int .i64 (latI (tvX a h) (tvY t a h) (tvZ t a h))]) ∧ Below w.heap.size w w' := by
  have nb := nrm_bd (90000 - a)
  have nt := nrm_bd t
  have N1 := Lib.hid (fun w => l02Normal_any (90000 - a) w (by omega) (by omega))
  have N2 := Lib.hid (fun w => l02Normal_any t w (by omega) (by omega))
  have D := Lib.hid (fun w => l04Direction_any (nrm (90000 - a)) h (by omega) (by omega) (by omega) (by omega) w)
  change Hid (∀ w, Calls Tryd.prog 82 #[.int .i64 (nrm (90000 - a)), .int .i64 h] w fun e w' => e = .returned (.agg #[.int .i64 (dX (nrm (90000 - a)) h), .int .i64 (dY (nrm (90000 - a)) h), .int .i64 (sinI h)]) ∧ Below w.heap.size w w') at D
  rw [dX_nrm, dY_nrm] at D
  have R := Lib.hid (fun w => l04Rotated_any (dX (90000 - a) h) (dY (90000 - a) h) (sinI h) 1 (nrm t) (inV_2 (dir_in _ _)) (by omega) (by omega) (by omega) w)
  change Hid (∀ w, Calls Tryd.prog 81 #[.agg #[.int .i64 (dX (90000 - a) h), .int .i64 (dY (90000 - a) h), .int .i64 (sinI h)], .int .i64 1, .int .i64 (nrm t)] w fun e w' => e = .returned (.agg #[.int .i64 (tvX a h), .int .i64 (tuY (dY (90000 - a) h) (sinI h) (sinI (nrm t)) (cosI (nrm t))), .int .i64 (tuZ (dY (90000 - a) h) (sinI h) (sinI (nrm t)) (cosI (nrm t)))]) ∧ Below w.heap.size w w') at R
  rw [sinI_nrm, cosI_nrm] at R
  change Hid (∀ w, Calls Tryd.prog 81 #[.agg #[.int .i64 (dX (90000 - a) h), .int .i64 (dY (90000 - a) h), .int .i64 (sinI h)], .int .i64 1, .int .i64 (nrm t)] w fun e w' => e = .returned (.agg #[.int .i64 (tvX a h), .int .i64 (tvY t a h), .int .i64 (tvZ t a h)]) ∧ Below w.heap.size w w') at R
  have G := Lib.hid (fun w => l04Angles_any (tvX a h) (tvY t a h) (tvZ t a h) (tv_in t a h) w)
  have lb := lonI_bd (tvX a h) (tvY t a h)
  have N3 := Lib.hid (fun w => l02Normal_any (90000 - lonI (tvX a h) (tvY t a h)) w (by omega) (by omega))
  change Hid (∀ w, Calls Tryd.prog 83 #[.int .i64 (90000 - lonI (tvX a h) (tvY t a h))] w fun e w' => e = .returned (.int .i64 (azI (tvX a h) (tvY t a h))) ∧ w = w') at N3
  generalize azI (tvX a h) (tvY t a h) = A at *
  generalize lonI (tvX a h) (tvY t a h) = L at *
  generalize latI (tvX a h) (tvY t a h) (tvZ t a h) = B at *
  generalize tvX a h = X at *
  generalize tvY t a h = Y at *
  generalize tvZ t a h = Z at *
  generalize dX (90000 - a) h = x at *
  generalize dY (90000 - a) h = y at *
  generalize sinI h = z at *
  generalize nrm t = n at *
  generalize nrm (90000 - a) = k at *
  go_enter Tryd.func49, Tryd.ntmps49
  go_wp2_with fail
  refine (N1.out _).mono ?_
  rintro e w' ⟨rfl, rfl⟩
  go_wp2_with fail
  refine (D.out _).mono ?_
  rintro e w1 ⟨rfl, hb⟩
  have hsw1 := hb.size
  try simp at hsw1
  obtain ⟨hcw1, hfw1⟩ := bcell hb
  have HBw1 : Hid (Below w.heap.size w w1) := by
    apply Lib.hid
    refine Below.trans ?_ (hb.mono ?_)
    · repeat (first | exact Below.refl _ _ | refine Below.setCell ?_ (by first | (simp; done) | omega | (simp; omega)) _ | refine Below.alloc ?_ (by first | (simp; done) | omega | (simp; omega)) _)
    · first | (simp; done) | omega | (simp; omega)
  clear hb
  go_wp2_with fail
  refine (N2.out _).mono ?_
  rintro e w' ⟨rfl, rfl⟩
  go_wp2_with fail
  refine (R.out _).mono ?_
  rintro e w2 ⟨rfl, hb⟩
  have hsw2 := hb.size
  try simp at hsw2
  obtain ⟨hcw2, hfw2⟩ := bcell hb
  have HBw2 : Hid (Below w.heap.size w w2) := by
    apply Lib.hid
    refine Below.trans ?_ (hb.mono ?_)
    · repeat (first | exact Below.refl _ _ | exact HBw1.out | refine Below.setCell ?_ (by first | (simp; done) | omega | (simp; omega)) _ | refine Below.alloc ?_ (by first | (simp; done) | omega | (simp; omega)) _)
    · first | (simp; done) | omega | (simp; omega)
  clear hb
  first | (have gsw2w1 : w1.heap.size < w2.heap.size := by omega) | skip
  go_wp2_with fail
  refine (G.out _).mono ?_
  rintro e w3 ⟨rfl, hb⟩
  have hsw3 := hb.size
  try simp at hsw3
  obtain ⟨hcw3, hfw3⟩ := bcell hb
  have HBw3 : Hid (Below w.heap.size w w3) := by
    apply Lib.hid
    refine Below.trans ?_ (hb.mono ?_)
    · repeat (first | exact Below.refl _ _ | exact HBw2.out | refine Below.setCell ?_ (by first | (simp; done) | omega | (simp; omega)) _ | refine Below.alloc ?_ (by first | (simp; done) | omega | (simp; omega)) _)
    · first | (simp; done) | omega | (simp; omega)
  clear hb
  first | (have gsw3w1 : w1.heap.size < w3.heap.size := by omega) | skip
  first | (have gsw3w2 : w2.heap.size < w3.heap.size := by omega) | skip
  go_wp2_with fail
  refine (N3.out _).mono ?_
  rintro e w' ⟨rfl, rfl⟩
  go_wp2_with fail
  refine bodyPost_ret (v := .tuple #[.int .i64 A, .int .i64 B]) (by first | (simp [results, Tryd.results49, go_sem]; done) | (simp [results, Tryd.results49, go_sem, *]; done)) rfl ⟨rfl, ?_⟩
  repeat (first | exact Below.refl _ _ | exact HBw3.out | refine Below.setCell ?_ (by first | (simp; done) | omega | (simp; omega)) _ | refine Below.alloc ?_ (by first | (simp; done) | omega | (simp; omega)) _ | refine bel_drew ?_)
set_option maxHeartbeats 1000000 in
theorem specTilt_any (s : ByteArray) (r b u v : Int) (fu : fits u) (fv : fits v) (w : World) :
    Calls Tryd.prog 19 #[.agg #[.string s, .int .i64 r, .int .i64 b], .int .i64 u, .int .i64 v] w fun e w' => e = .returned (tiltV s r b u v) ∧ Below w.heap.size w w' := by
  unfold tiltV turnV
  have V := Lib.hid (fun (w : World) g c0 c1 c2 => l09Ok_at g 0 s r b w c0 c1 c2)
  have I := Lib.hid (fun w => l05DirD_any u v w)
  cases hd : domeB s r b with
  | false =>
    rw [if_neg (by simp)]
    rw [hd] at V
    clear hd
    go_enter Tryd.func19, Tryd.ntmps19
    go_wp2_with fail
    refine (V.out _ _ (by simp) (by simp) (by simp)).mono ?_
    rintro e w1 ⟨rfl, rfl⟩
    go_wp2_with fail
    refine bodyPost_ret (v := .tuple #[.int .i64 0, .int .i64 0, .int .i64 1]) (by first | (simp [results, Tryd.results19, go_sem]; done) | (simp [results, Tryd.results19, go_sem]; done)) rfl ⟨rfl, ?_⟩
    repeat (first | exact Below.refl _ _ | refine Below.setCell ?_ (by first | (simp; done) | omega | (simp; omega)) _ | refine Below.alloc ?_ (by first | (simp; done) | omega | (simp; omega)) _ | refine bel_drew ?_)
  | true =>
    rw [if_pos rfl]
    rw [hd] at V
    have hbd := (domeB_bd hd).2
    clear hd
    cases hu : dirB u v with
    | false =>
      rw [if_neg (by simp)]
      rw [hu] at I
      clear hu
      go_enter Tryd.func19, Tryd.ntmps19
      go_wp2_with fail
      refine (V.out _ _ (by simp) (by simp) (by simp)).mono ?_
      rintro e w1 ⟨rfl, rfl⟩
      go_wp2_with fail
      refine (I.out _).mono ?_
      rintro e w' ⟨rfl, rfl⟩
      go_wp2_with fail
      refine bodyPost_ret (v := .tuple #[.int .i64 0, .int .i64 0, .int .i64 2]) (by first | (simp [results, Tryd.results19, go_sem]; done) | (simp [results, Tryd.results19, go_sem]; done)) rfl ⟨rfl, ?_⟩
      repeat (first | exact Below.refl _ _ | refine Below.setCell ?_ (by first | (simp; done) | omega | (simp; omega)) _ | refine Below.alloc ?_ (by first | (simp; done) | omega | (simp; omega)) _ | refine bel_drew ?_)
    | true =>
      rw [if_pos rfl]
      rw [hu] at I
      obtain ⟨⟨u0, u1⟩, v0, v1⟩ := dirB_bd hu
      have T := Lib.hid (fun w => l09Turn_any u v b u0 u1 v0 v1 (by omega) (by omega) w)
      clear hu
      generalize azI (tvX u v) (tvY b u v) = A at *
      generalize latI (tvX u v) (tvY b u v) (tvZ b u v) = B at *
      go_enter Tryd.func19, Tryd.ntmps19
      go_wp2_with fail
      refine (V.out _ _ (by simp) (by simp) (by simp)).mono ?_
      rintro e w1 ⟨rfl, rfl⟩
      go_wp2_with fail
      refine (I.out _).mono ?_
      rintro e w' ⟨rfl, rfl⟩
      go_wp2_with fail
      refine (T.out _).mono ?_
      rintro e w1 ⟨rfl, hb⟩
      have hsw1 := hb.size
      try simp at hsw1
      obtain ⟨hcw1, hfw1⟩ := bcell hb
      have HBw1 : Hid (Below w.heap.size w w1) := by
        apply Lib.hid
        refine Below.trans ?_ (hb.mono ?_)
        · repeat (first | exact Below.refl _ _ | refine Below.setCell ?_ (by first | (simp; done) | omega | (simp; omega)) _ | refine Below.alloc ?_ (by first | (simp; done) | omega | (simp; omega)) _)
        · first | (simp; done) | omega | (simp; omega)
      have hzw1 : w.heap.size < w1.heap.size := by have := hb.size; (try simp at this); omega
      clear hb
      go_wp2_with fail
      refine bodyPost_ret (v := .tuple #[.int .i64 A, .int .i64 B, .int .i64 0]) (by first | (simp [results, Tryd.results19, go_sem]; done) | (simp [results, Tryd.results19, go_sem, *]; done)) rfl ⟨rfl, ?_⟩
      repeat (first | exact Below.refl _ _ | exact HBw1.out | refine Below.setCell ?_ (by first | (simp; done) | omega | (simp; omega)) _ | refine Below.alloc ?_ (by first | (simp; done) | omega | (simp; omega)) _ | refine bel_drew ?_)
set_option maxHeartbeats 1000000 in
theorem specLevel_any (s : ByteArray) (r b u v : Int) (fu : fits u) (fv : fits v) (w : World) :
    Calls Tryd.prog 22 #[.agg #[.string s, .int .i64 r, .int .i64 b], .int .i64 u, .int .i64 v] w fun e w' => e = .returned (levelV s r b u v) ∧ Below w.heap.size w w' := by
  unfold levelV turnV
  have V := Lib.hid (fun (w : World) g c0 c1 c2 => l09Ok_at g 0 s r b w c0 c1 c2)
  have I := Lib.hid (fun w => l05DirD_any u v w)
  cases hd : domeB s r b with
  | false =>
    rw [if_neg (by simp)]
    rw [hd] at V
    clear hd
    go_enter Tryd.func22, Tryd.ntmps22
    go_wp2_with fail
    refine (V.out _ _ (by simp) (by simp) (by simp)).mono ?_
    rintro e w1 ⟨rfl, rfl⟩
    go_wp2_with fail
    refine bodyPost_ret (v := .tuple #[.int .i64 0, .int .i64 0, .int .i64 1]) (by first | (simp [results, Tryd.results22, go_sem]; done) | (simp [results, Tryd.results22, go_sem]; done)) rfl ⟨rfl, ?_⟩
    repeat (first | exact Below.refl _ _ | refine Below.setCell ?_ (by first | (simp; done) | omega | (simp; omega)) _ | refine Below.alloc ?_ (by first | (simp; done) | omega | (simp; omega)) _ | refine bel_drew ?_)
  | true =>
    rw [if_pos rfl]
    rw [hd] at V
    have hbd := (domeB_bd hd).2
    clear hd
    cases hu : dirB u v with
    | false =>
      rw [if_neg (by simp)]
      rw [hu] at I
      clear hu
      go_enter Tryd.func22, Tryd.ntmps22
      go_wp2_with fail
      refine (V.out _ _ (by simp) (by simp) (by simp)).mono ?_
      rintro e w1 ⟨rfl, rfl⟩
      go_wp2_with fail
      refine (I.out _).mono ?_
      rintro e w' ⟨rfl, rfl⟩
      go_wp2_with fail
      refine bodyPost_ret (v := .tuple #[.int .i64 0, .int .i64 0, .int .i64 2]) (by first | (simp [results, Tryd.results22, go_sem]; done) | (simp [results, Tryd.results22, go_sem]; done)) rfl ⟨rfl, ?_⟩
      repeat (first | exact Below.refl _ _ | refine Below.setCell ?_ (by first | (simp; done) | omega | (simp; omega)) _ | refine Below.alloc ?_ (by first | (simp; done) | omega | (simp; omega)) _ | refine bel_drew ?_)
    | true =>
      rw [if_pos rfl]
      rw [hu] at I
      obtain ⟨⟨u0, u1⟩, v0, v1⟩ := dirB_bd hu
      have T := Lib.hid (fun w => l09Turn_any u v (-b) u0 u1 v0 v1 (by omega) (by omega) w)
      clear hu
      generalize azI (tvX u v) (tvY (-b) u v) = A at *
      generalize latI (tvX u v) (tvY (-b) u v) (tvZ (-b) u v) = B at *
      go_enter Tryd.func22, Tryd.ntmps22
      go_wp2_with fail
      refine (V.out _ _ (by simp) (by simp) (by simp)).mono ?_
      rintro e w1 ⟨rfl, rfl⟩
      go_wp2_with fail
      refine (I.out _).mono ?_
      rintro e w' ⟨rfl, rfl⟩
      go_wp2_with fail
      refine (T.out _).mono ?_
      rintro e w1 ⟨rfl, hb⟩
      have hsw1 := hb.size
      try simp at hsw1
      obtain ⟨hcw1, hfw1⟩ := bcell hb
      have HBw1 : Hid (Below w.heap.size w w1) := by
        apply Lib.hid
        refine Below.trans ?_ (hb.mono ?_)
        · repeat (first | exact Below.refl _ _ | refine Below.setCell ?_ (by first | (simp; done) | omega | (simp; omega)) _ | refine Below.alloc ?_ (by first | (simp; done) | omega | (simp; omega)) _)
        · first | (simp; done) | omega | (simp; omega)
      have hzw1 : w.heap.size < w1.heap.size := by have := hb.size; (try simp at this); omega
      clear hb
      go_wp2_with fail
      refine bodyPost_ret (v := .tuple #[.int .i64 A, .int .i64 B, .int .i64 0]) (by first | (simp [results, Tryd.results22, go_sem]; done) | (simp [results, Tryd.results22, go_sem, *]; done)) rfl ⟨rfl, ?_⟩
      repeat (first | exact Below.refl _ _ | exact HBw1.out | refine Below.setCell ?_ (by first | (simp; done) | omega | (simp; omega)) _ | refine Below.alloc ?_ (by first | (simp; done) | omega | (simp; omega)) _ | refine bel_drew ?_)
end Go.Proofs.YtcdmgkjaionjpaaDoor
