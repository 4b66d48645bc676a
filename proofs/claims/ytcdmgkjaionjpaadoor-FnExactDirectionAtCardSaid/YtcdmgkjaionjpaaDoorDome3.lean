/-
  Directions of spots: the contracts of DirectionAt (packages impl and spec).
-/
import Derived.Test.YtcdmgkjaionjpaaDoorDome2
import Derived.Test.YtcdmgkjaionjpaaDoorAng
import Derived.Test.YtcdmgkjaionjpaaDoorSArc
import Derived.Test.YtcdmgkjaionjpaaDoorKeep
import Derived.Deep.RegionHeld3
namespace Go.Proofs.YtcdmgkjaionjpaaDoor
open Go.RowKit
set_option linter.unusedVariables false

theorem inR_twoD (lo hi a b : Int) : inR lo hi [a, b] = true ↔ (lo ≤ a ∧ a ≤ hi) ∧ lo ≤ b ∧ b ≤ hi := by
  rw [inR_2, Bool.and_eq_true, inR_1, inR_1]
def disR (x y : Int) : Int := rootI (x * x + y * y)
theorem disR_len (x y : Int) : len3 y x 0 = disR x y := by
  unfold len3 sq3 disR
  congr 1
  omega
theorem disR_0 (x y : Int) : disR x y = 0 ↔ x = 0 ∧ y = 0 := by
  rw [← disR_len, len3_0]
  constructor
  · rintro ⟨a, b, _⟩; exact ⟨b, a⟩
  · rintro ⟨a, b⟩; exact ⟨b, a, rfl⟩
/-- What DirectionAt returns. -/
def atV (x y : Int) : Value := if inR (-1000000) 1000000 [x, y] = true then (if 1000000 < disR x y then .tuple #[.int .i64 0, .int .i64 0, .int .i64 2] else .tuple #[.int .i64 (lonI y x), .int .i64 (90000 - nearQ (disR x y * 90000) 1000000), .int .i64 0]) else .tuple #[.int .i64 0, .int .i64 0, .int .i64 2]
theorem atV_form (x y : Int) : ∃ a b c : Int, atV x y = .tuple #[.int .i64 a, .int .i64 b, .int .i64 c] := by
  unfold atV
  split
  · split <;> exact ⟨_, _, _, rfl⟩
  · exact ⟨_, _, _, rfl⟩
set_option maxHeartbeats 400000 in
theorem toSpot_any (x y : Int) (w : World) :
    Calls Tryd.prog 16 #[.agg #[.int .i64 x, .int .i64 y]] w fun e w' => e = .returned (.agg #[.int .i64 x, .int .i64 y]) ∧ Below w.heap.size w w' := by
  go_enter Tryd.func16, Tryd.ntmps16
  go_wp2_with fail
  refine bodyPost_ret (v := .agg #[.int .i64 x, .int .i64 y]) (by first | (simp [results, Tryd.results16, go_sem]; done) | (simp [results, Tryd.results16, go_sem]; done)) rfl ⟨rfl, ?_⟩
  repeat (first | exact Below.refl _ _ | refine Below.setCell ?_ (by first | (simp; done) | omega | (simp; omega)) _ | refine Below.alloc ?_ (by first | (simp; done) | omega | (simp; omega)) _ | refine bel_drew ?_)

set_option maxRecDepth 100000 in
set_option maxHeartbeats 2000000 in
theorem implDirAt_any (x y : Int) (fx : fits x) (fy : fits y) (w : World) (hs : SinesOK w) :
    Calls Tryd.prog 17 #[.agg #[.int .i64 x, .int .i64 y]] w fun e w' => e = .returned (atV x y) ∧ Below w.heap.size w w' := by
  unfold atV
  have E := Lib.hid hs
  clear hs
  obtain ⟨W0, hW0⟩ : ∃ W0, W0 = ((w.alloc (.cells #[.int .i64 x, .int .i64 y] 23)).alloc (.cells #[.int .i64 y, .int .i64 x, .int .i64 0] 41)) := ⟨_, rfl⟩
  have K0 : Hid (W0.cell? ⟨w.heap.size + 1, 0, none⟩ = some (.int .i64 y) ∧ W0.cell? ⟨w.heap.size + 1, 1, none⟩ = some (.int .i64 x) ∧ W0.cell? ⟨w.heap.size + 1, 2, none⟩ = some (.int .i64 0) ∧ Below w.heap.size w W0) := Lib.hid (by rw [hW0]; exact ⟨by first | (simp; done) | (rw [World.cell?_alloc_at _ _ _ _ (by first | (simp; done) | (simp; omega))]; rfl), by first | (simp; done) | (rw [World.cell?_alloc_at _ _ _ _ (by first | (simp; done) | (simp; omega))]; rfl), by first | (simp; done) | (rw [World.cell?_alloc_at _ _ _ _ (by first | (simp; done) | (simp; omega))]; rfl), by repeat (first | exact Below.refl _ _ | refine Below.alloc ?_ (by first | (simp; done) | (simp; omega)) _)⟩)
  have SZ : Hid (W0.heap.size = w.heap.size + 1 + 1) := Lib.hid (by rw [hW0]; simp)
  have HW := Lib.hid hW0
  clear hW0
  cases hin : inR (-1000000) 1000000 [x, y] with
  | false =>
    rw [if_neg (by simp)]
    have HI := Lib.hid hin
    have HB0 := Lib.hid K0.out.2.2.2
    clear hin
    go_enter Tryd.func17, Tryd.ntmps17
    obtain ⟨k0, k1, k2, k3⟩ := K0.out
    go_wp2_with fail
    rw [← HW.out]
    clear HW
    refine (within2 _ _ x y _ _ _ (by rw [World.cell?_alloc_at _ _ _ _ (by first | (simp [SZ.out]; done) | (rw [SZ.out]))]; rfl) (by rw [World.cell?_alloc_at _ _ _ _ (by first | (simp [SZ.out]; done) | (rw [SZ.out]))]; rfl)).mono ?_
    rintro e w' ⟨rfl, rfl⟩
    rw [HI.out]
    have K1 := Lib.hid (keepW3 K0.out ((Below.refl _ W0).alloc (Nat.le_refl _) (.cells #[.int .i64 x, .int .i64 y] 2)))
    clear k0 k1 k2 k3
    obtain ⟨k0, k1, k2, k3⟩ := K1.out
    go_wp2_with fail
    have HB1 := Lib.hid K1.out.2.2.2
    refine bodyPost_ret (v := .tuple #[.int .i64 0, .int .i64 0, .int .i64 2]) (by first | (simp [results, Tryd.results17, go_sem]; done) | (simp [results, Tryd.results17, go_sem]; done)) rfl ⟨rfl, ?_⟩
    repeat (first | exact Below.refl _ _ | exact HB1.out | refine Below.setCell ?_ (by first | (simp; done) | omega | (simp; omega)) _ | refine Below.alloc ?_ (by first | (simp; done) | omega | (simp; omega)) _ | refine bel_drew ?_)
  | true =>
    rw [if_pos rfl]
    have HI := Lib.hid hin
    rw [inR_twoD] at hin
    obtain ⟨⟨x0, x1⟩, y0, y1⟩ := hin
    have hv : inV 2000000 y x 0 := ⟨⟨by omega, by omega⟩, ⟨by omega, by omega⟩, by omega, by omega⟩
    have hv2 : inV 10000000 y x 0 := ⟨⟨by omega, by omega⟩, ⟨by omega, by omega⟩, by omega, by omega⟩
    have N := Lib.hid (fun w => length_any y x 0 hv2 w)
    have L := Lib.hid (fun w hs => longitude_any y x 0 hv w hs)
    rw [disR_len] at N
    have rb := len3_bd y x 0 1000000 (by omega) (by omega) (by omega) (by omega) (by omega) (by omega) (by omega)
    rw [disR_len] at rb
    have Q := Lib.hid (fun w => nearest_any (disR x y * 90000) 1000000 w (by omega) (by omega) (by omega) (by omega))
    have qb : -1000000000 ≤ nearQ (disR x y * 90000) 1000000 ∧ nearQ (disR x y * 90000) 1000000 ≤ 1000000000 := by
      rw [nearQ_pp _ _ (by omega) (by omega)]
      omega
    have m1 : IntKind.i64.wrap (disR x y * 90000) = disR x y * 90000 := IntWalk.i64_in _ (by omega)
    have m2 : IntKind.i64.wrap (90000 - nearQ (disR x y * 90000) 1000000) = 90000 - nearQ (disR x y * 90000) 1000000 := IntWalk.i64_in _ (by omega)
    generalize nearQ (disR x y * 90000) 1000000 = q at *
    generalize lonI y x = l at *
    generalize disR x y = r at *
    clear hv hv2 fx fy
    by_cases hr : 1000000 < r
    · rw [if_pos hr]
      go_enter Tryd.func17, Tryd.ntmps17
      obtain ⟨k0, k1, k2, k3⟩ := K0.out
      go_wp2_with fail
      rw [← HW.out]
      clear HW
      refine (within2 _ _ x y _ _ _ (by rw [World.cell?_alloc_at _ _ _ _ (by first | (simp [SZ.out]; done) | (rw [SZ.out]))]; rfl) (by rw [World.cell?_alloc_at _ _ _ _ (by first | (simp [SZ.out]; done) | (rw [SZ.out]))]; rfl)).mono ?_
      rintro e w' ⟨rfl, rfl⟩
      rw [HI.out]
      have K1 := Lib.hid (keepW3 K0.out ((Below.refl _ W0).alloc (Nat.le_refl _) (.cells #[.int .i64 x, .int .i64 y] 2)))
      clear k0 k1 k2 k3
      obtain ⟨k0, k1, k2, k3⟩ := K1.out
      go_wp2_with fail
      refine (N.out _).mono ?_
      rintro e w1 ⟨rfl, hb⟩
      have HB2 := Lib.hid (keepW3 K1.out hb).2.2.2
      clear hb
      go_wp2_with fail
      refine bodyPost_ret (v := .tuple #[.int .i64 0, .int .i64 0, .int .i64 2]) (by first | (simp [results, Tryd.results17, go_sem]; done) | (simp [results, Tryd.results17, go_sem]; done)) rfl ⟨rfl, ?_⟩
      repeat (first | exact Below.refl _ _ | exact HB2.out | refine Below.setCell ?_ (by first | (simp; done) | omega | (simp; omega)) _ | refine Below.alloc ?_ (by first | (simp; done) | omega | (simp; omega)) _ | refine bel_drew ?_)
    · rw [if_neg hr]
      go_enter Tryd.func17, Tryd.ntmps17
      obtain ⟨k0, k1, k2, k3⟩ := K0.out
      go_wp2_with fail
      rw [← HW.out]
      clear HW
      refine (within2 _ _ x y _ _ _ (by rw [World.cell?_alloc_at _ _ _ _ (by first | (simp [SZ.out]; done) | (rw [SZ.out]))]; rfl) (by rw [World.cell?_alloc_at _ _ _ _ (by first | (simp [SZ.out]; done) | (rw [SZ.out]))]; rfl)).mono ?_
      rintro e w' ⟨rfl, rfl⟩
      rw [HI.out]
      have K1 := Lib.hid (keepW3 K0.out ((Below.refl _ W0).alloc (Nat.le_refl _) (.cells #[.int .i64 x, .int .i64 y] 2)))
      clear k0 k1 k2 k3
      obtain ⟨k0, k1, k2, k3⟩ := K1.out
      go_wp2_with fail
      refine (N.out _).mono ?_
      rintro e w1 ⟨rfl, hb⟩
      have K2 := Lib.hid (keepW3 K1.out hb)
      have E1 := Lib.hid (E.out.below K2.out.2.2.2)
      clear hb k0 k1 k2 k3
      obtain ⟨k0, k1, k2, k3⟩ := K2.out
      go_wp2_with fail
      go_region_held3 (fun w' => w'.cell? ⟨w.heap.size + 1, 0, none⟩ = some (.int .i64 y) ∧ w'.cell? ⟨w.heap.size + 1, 1, none⟩ = some (.int .i64 x) ∧ w'.cell? ⟨w.heap.size + 1, 2, none⟩ = some (.int .i64 0) ∧ Below w.heap.size w w') (first | (exact keepW3 K2.out (bel_drew (Below.refl _ _))) | (exact keepW3 K2.out y3) | (exact keepW3 K2.out y2) | (exact keepW3 K2.out y1) | go_keep) ((first
        | (go_at_call 46; (with_reducible refine (L.out _ (E1.out.below (bel_drew (Below.refl _ _)))).mono ?_); rintro e x1 ⟨rfl, hx1⟩; have y1 := undrewG hx1)
        | (go_at_call 45; (with_reducible refine (N.out _).mono ?_); rintro e x2 ⟨rfl, hx2⟩; have y2 := y1.trans (hx2.mono y1.size))
        | (go_at_call 39; (with_reducible refine (Q.out _).mono ?_); rintro e x3 ⟨rfl, hx3⟩; have y3 := y2.trans (hx3.mono y2.size))))
      rename_i held
      have HB := Lib.hid held.2.2.2
      clear held k0 k1 k2 k3
      go_wp2_with fail
      refine bodyPost_ret (v := .tuple #[.int .i64 l, .int .i64 (90000 - q), .int .i64 0]) (by first | (simp [results, Tryd.results17, go_sem]; done) | (simp [results, Tryd.results17, go_sem]; done)) rfl ⟨rfl, ?_⟩
      repeat (first | exact Below.refl _ _ | exact HB.out | refine Below.setCell ?_ (by first | (simp; done) | omega | (simp; omega)) _ | refine Below.alloc ?_ (by first | (simp; done) | omega | (simp; omega)) _ | refine bel_drew ?_)

set_option maxHeartbeats 1000000 in
theorem l09Disc_any (x y : Int) (fx : fits x) (fy : fits y) (w : World) :
    Calls Tryd.prog 42 #[.agg #[.int .i64 x, .int .i64 y]] w fun e w' => e = .returned (.bool (inR (-1000000) 1000000 [x, y] && decide (disR x y ≤ 1000000))) ∧ Below w.heap.size w w' := by
  have I1 := Lib.hid (fun w => l00In_any x (-1000000) 1000000 w)
  have I2 := Lib.hid (fun w => l00In_any y (-1000000) 1000000 w)
  rw [inR_2]
  cases h1 : inR (-1000000) 1000000 [x] with
  | false =>
    rw [Bool.false_and, Bool.false_and]
    rw [h1] at I1
    clear h1
    go_enter Tryd.func42, Tryd.ntmps42
    go_wp2_with fail
    refine (I1.out _).mono ?_
    rintro e w' ⟨rfl, rfl⟩
    go_wp2_with fail
    go_ret
    refine ⟨rfl, ?_⟩
    repeat (first | exact Below.refl _ _ | refine Below.setCell ?_ (by first | (simp; done) | omega | (simp; omega)) _ | refine Below.alloc ?_ (by first | (simp; done) | omega | (simp; omega)) _ | refine bel_drew ?_)
  | true =>
    rw [Bool.true_and]
    rw [h1] at I1
    cases h2 : inR (-1000000) 1000000 [y] with
    | false =>
      rw [Bool.false_and]
      rw [h2] at I2
      clear h1 h2
      go_enter Tryd.func42, Tryd.ntmps42
      go_wp2_with fail
      refine (I1.out _).mono ?_
      rintro e w' ⟨rfl, rfl⟩
      go_wp2_with fail
      refine (I2.out _).mono ?_
      rintro e w' ⟨rfl, rfl⟩
      go_wp2_with fail
      go_ret
      refine ⟨rfl, ?_⟩
      repeat (first | exact Below.refl _ _ | refine Below.setCell ?_ (by first | (simp; done) | omega | (simp; omega)) _ | refine Below.alloc ?_ (by first | (simp; done) | omega | (simp; omega)) _ | refine bel_drew ?_)
    | true =>
      rw [Bool.true_and]
      rw [h2] at I2
      rw [inR_1] at h1 h2
      have p1 := sq_bd x 1000000 h1.1 h1.2
      have p2 := sq_bd y 1000000 h2.1 h2.2
      have R := Lib.hid (fun w => l01RootI_any (x * x + y * y) w (by omega))
      change Hid (∀ w, Calls Tryd.prog 73 #[.int .i64 (x * x + y * y)] w fun e w' => e = .returned (.int .i64 (disR x y)) ∧ w = w') at R
      have m1 : wrap64 (x * x) = x * x := IntWalk.wrap64_in _ (by omega)
      have m2 : wrap64 (y * y) = y * y := IntWalk.wrap64_in _ (by omega)
      have m3 : wrap64 (x * x + y * y) = x * x + y * y := IntWalk.wrap64_in _ (by omega)
      have M1 := Lib.hid m1
      have M2 := Lib.hid m2
      have M3 := Lib.hid m3
      clear m1 m2 m3 p1 p2 h1 h2
      generalize disR x y = r at *
      go_enter Tryd.func42, Tryd.ntmps42
      go_wp2_with fail
      refine (I1.out _).mono ?_
      rintro e w' ⟨rfl, rfl⟩
      go_wp2_with fail
      refine (I2.out _).mono ?_
      rintro e w' ⟨rfl, rfl⟩
      go_wp2_with fail
      rw [M1.out, M2.out, M3.out]
      refine (R.out _).mono ?_
      rintro e w' ⟨rfl, rfl⟩
      go_wp2_with fail
      go_ret
      refine ⟨rfl, ?_⟩
      repeat (first | exact Below.refl _ _ | refine Below.setCell ?_ (by first | (simp; done) | omega | (simp; omega)) _ | refine Below.alloc ?_ (by first | (simp; done) | omega | (simp; omega)) _ | refine bel_drew ?_)
set_option maxHeartbeats 1000000 in
theorem l09DirS_any (x y : Int) (hin : inR (-1000000) 1000000 [x, y] = true) (w : World) :
    Calls Tryd.prog 43 #[.agg #[.int .i64 x, .int .i64 y]] w fun e w' => e = .returned (.tuple #[.int .i64 (lonI y x), .int .i64 (90000 - nearQ (disR x y * 90000) 1000000)]) ∧ Below w.heap.size w w' := by
  rw [inR_twoD] at hin
  obtain ⟨⟨x0, x1⟩, y0, y1⟩ := hin
  have p1 := sq_bd x 1000000 x0 x1
  have p2 := sq_bd y 1000000 y0 y1
  have R := Lib.hid (fun w => l01RootI_any (x * x + y * y) w (by omega))
  change Hid (∀ w, Calls Tryd.prog 73 #[.int .i64 (x * x + y * y)] w fun e w' => e = .returned (.int .i64 (disR x y)) ∧ w = w') at R
  have m1 : wrap64 (x * x) = x * x := IntWalk.wrap64_in _ (by omega)
  have m2 : wrap64 (y * y) = y * y := IntWalk.wrap64_in _ (by omega)
  have m3 : wrap64 (x * x + y * y) = x * x + y * y := IntWalk.wrap64_in _ (by omega)
  have M1 := Lib.hid m1
  have M2 := Lib.hid m2
  have M3 := Lib.hid m3
  clear m1 m2 m3 p1 p2
  have rb := len3_bd y x 0 1000000 (by omega) (by omega) (by omega) (by omega) (by omega) (by omega) (by omega)
  rw [disR_len] at rb
  have Q := Lib.hid (fun w => l01Div_any (disR x y * 90000) 1000000 w (by omega) (by omega) (by omega) (by omega) (by omega))
  have qb : -1000000000 ≤ nearQ (disR x y * 90000) 1000000 ∧ nearQ (disR x y * 90000) 1000000 ≤ 1000000000 := by
    rw [nearQ_pp _ _ (by omega) (by omega)]
    omega
  have A := Lib.hid (fun w => l02Arc_any x y (by omega) (by omega) (by omega) (by omega) w)
  have r0 := disR_0 x y
  generalize nearQ (disR x y * 90000) 1000000 = q at *
  by_cases h : x = 0 ∧ y = 0
  · have hl : lonI y x = 0 := by unfold lonI; rw [if_pos ⟨h.2, h.1⟩]
    rw [hl]
    have hr := r0.2 h
    generalize disR x y = r at *
    clear hl r0 A
    subst hr
    clear h
    go_enter Tryd.func43, Tryd.ntmps43
    go_wp2_with fail
    rw [M1.out, M2.out, M3.out]
    refine (R.out _).mono ?_
    rintro e w' ⟨rfl, rfl⟩
    go_wp2_with fail
    refine (Q.out _).mono ?_
    rintro e w' ⟨rfl, rfl⟩
    go_wp2_with fail
    refine bodyPost_ret (v := .tuple #[.int .i64 0, .int .i64 (90000 - q)]) (by first | (simp [results, Tryd.results43, go_sem]; done) | (simp [results, Tryd.results43, go_sem]; done)) rfl ⟨rfl, ?_⟩
    repeat (first | exact Below.refl _ _ | refine Below.setCell ?_ (by first | (simp; done) | omega | (simp; omega)) _ | refine Below.alloc ?_ (by first | (simp; done) | omega | (simp; omega)) _ | refine bel_drew ?_)
  · have hl : lonI y x = dirI x y := by unfold lonI; rw [if_neg (fun k => h ⟨k.2, k.1⟩)]
    rw [hl]
    have hr : ¬ disR x y = 0 := fun k => h (r0.1 k)
    generalize disR x y = r at *
    generalize dirI x y = d at *
    have hr2 : 0 < r := by omega
    clear hl r0 h hr
    go_enter Tryd.func43, Tryd.ntmps43
    go_wp2_with fail
    rw [M1.out, M2.out, M3.out]
    refine (R.out _).mono ?_
    rintro e w' ⟨rfl, rfl⟩
    go_wp2_with fail
    refine (A.out _).mono ?_
    rintro e w1 ⟨rfl, hb⟩
    have hsw1 := hb.size
    try simp at hsw1
    obtain ⟨hcw1, hfw1⟩ := bcell hb
    have HBw1 : Hid (Below w.heap.size w w1) := by
      apply Lib.hid
      refine Below.trans ?_ (hb.mono ?_)
      · repeat (first | exact Below.refl _ _ | refine Below.setCell ?_ (by first | (simp; done) | omega | (simp; omega)) _ | refine Below.alloc ?_ (by first | (simp; done) | omega | (simp; omega)) _)
      · first | (simp; done) | omega | (simp; omega)
    have hzw1 : w.heap.size < w1.heap.size := by have := hb.size; (try simp at this); omega
    clear hb
    go_wp2_with fail
    refine (Q.out _).mono ?_
    rintro e w' ⟨rfl, rfl⟩
    go_wp2_with fail
    refine bodyPost_ret (v := .tuple #[.int .i64 d, .int .i64 (90000 - q)]) (by first | (simp [results, Tryd.results43, go_sem]; done) | (simp [results, Tryd.results43, go_sem]; done)) rfl ⟨rfl, ?_⟩
    repeat (first | exact Below.refl _ _ | exact HBw1.out | refine Below.setCell ?_ (by first | (simp; done) | omega | (simp; omega)) _ | refine Below.alloc ?_ (by first | (simp; done) | omega | (simp; omega)) _ | refine bel_drew ?_)
set_option maxHeartbeats 1000000 in
theorem specDirAt_any (x y : Int) (fx : fits x) (fy : fits y) (w : World) :
    Calls Tryd.prog 15 #[.agg #[.int .i64 x, .int .i64 y]] w fun e w' => e = .returned (atV x y) ∧ Below w.heap.size w w' := by
  unfold atV
  have D := Lib.hid (fun w => l09Disc_any x y fx fy w)
  cases hin : inR (-1000000) 1000000 [x, y] with
  | false =>
    rw [if_neg (by simp)]
    rw [hin, Bool.false_and] at D
    clear hin fx fy
    go_enter Tryd.func15, Tryd.ntmps15
    go_wp2_with fail
    refine (D.out _).mono ?_
    rintro e w1 ⟨rfl, hb⟩
    have hsw1 := hb.size
    try simp at hsw1
    obtain ⟨hcw1, hfw1⟩ := bcell hb
    have HBw1 : Hid (Below w.heap.size w w1) := by
      apply Lib.hid
      refine Below.trans ?_ (hb.mono ?_)
      · repeat (first | exact Below.refl _ _ | refine Below.setCell ?_ (by first | (simp; done) | omega | (simp; omega)) _ | refine Below.alloc ?_ (by first | (simp; done) | omega | (simp; omega)) _)
      · first | (simp; done) | omega | (simp; omega)
    have hzw1 : w.heap.size < w1.heap.size := by have := hb.size; (try simp at this); omega
    clear hb
    go_wp2_with fail
    refine bodyPost_ret (v := .tuple #[.int .i64 0, .int .i64 0, .int .i64 2]) (by first | (simp [results, Tryd.results15, go_sem]; done) | (simp [results, Tryd.results15, go_sem]; done)) rfl ⟨rfl, ?_⟩
    repeat (first | exact Below.refl _ _ | exact HBw1.out | refine Below.setCell ?_ (by first | (simp; done) | omega | (simp; omega)) _ | refine Below.alloc ?_ (by first | (simp; done) | omega | (simp; omega)) _ | refine bel_drew ?_)
  | true =>
    rw [if_pos rfl]
    have S := Lib.hid (fun w => l09DirS_any x y hin w)
    rw [hin, Bool.true_and] at D
    clear hin fx fy
    by_cases hr : 1000000 < disR x y
    · rw [if_pos hr]
      rw [show decide (disR x y ≤ 1000000) = false by simpa using hr] at D
      clear hr
      go_enter Tryd.func15, Tryd.ntmps15
      go_wp2_with fail
      refine (D.out _).mono ?_
      rintro e w1 ⟨rfl, hb⟩
      have hsw1 := hb.size
      try simp at hsw1
      obtain ⟨hcw1, hfw1⟩ := bcell hb
      have HBw1 : Hid (Below w.heap.size w w1) := by
        apply Lib.hid
        refine Below.trans ?_ (hb.mono ?_)
        · repeat (first | exact Below.refl _ _ | refine Below.setCell ?_ (by first | (simp; done) | omega | (simp; omega)) _ | refine Below.alloc ?_ (by first | (simp; done) | omega | (simp; omega)) _)
        · first | (simp; done) | omega | (simp; omega)
      have hzw1 : w.heap.size < w1.heap.size := by have := hb.size; (try simp at this); omega
      clear hb
      go_wp2_with fail
      refine bodyPost_ret (v := .tuple #[.int .i64 0, .int .i64 0, .int .i64 2]) (by first | (simp [results, Tryd.results15, go_sem]; done) | (simp [results, Tryd.results15, go_sem]; done)) rfl ⟨rfl, ?_⟩
      repeat (first | exact Below.refl _ _ | exact HBw1.out | refine Below.setCell ?_ (by first | (simp; done) | omega | (simp; omega)) _ | refine Below.alloc ?_ (by first | (simp; done) | omega | (simp; omega)) _ | refine bel_drew ?_)
    · rw [if_neg hr]
      rw [show decide (disR x y ≤ 1000000) = true by simpa using hr] at D
      clear hr
      generalize 90000 - nearQ (disR x y * 90000) 1000000 = q at *
      generalize lonI y x = l at *
      go_enter Tryd.func15, Tryd.ntmps15
      go_wp2_with fail
      refine (D.out _).mono ?_
      rintro e w1 ⟨rfl, hb⟩
      have q0 : w1.cell? ⟨w.heap.size, 0, none⟩ = some (.int .i64 x) := (hb.cell (p := ⟨w.heap.size, 0, none⟩) (by simp)).trans (by simp)
      have q1 : w1.cell? ⟨w.heap.size, 1, none⟩ = some (.int .i64 y) := (hb.cell (p := ⟨w.heap.size, 1, none⟩) (by simp)).trans (by simp)
      have HBw1 : Hid (Below w.heap.size w w1) := Lib.hid (((Below.refl _ _).alloc (Nat.le_refl _) _).trans (hb.mono (by simp)))
      have hsw1 : w.heap.size ≤ w1.heap.size := HBw1.out.size
      clear hb
      go_wp2_with fail
      refine (S.out _).mono ?_
      rintro e w2 ⟨rfl, hb⟩
      have hsw2 := hb.size
      try simp at hsw2
      obtain ⟨hcw2, hfw2⟩ := bcell hb
      have HBw2 : Hid (Below w.heap.size w w2) := by
        apply Lib.hid
        refine Below.trans ?_ (hb.mono ?_)
        · repeat (first | exact Below.refl _ _ | exact HBw1.out | refine Below.setCell ?_ (by first | (simp; done) | omega | (simp; omega)) _ | refine Below.alloc ?_ (by first | (simp; done) | omega | (simp; omega)) _)
        · first | (simp; done) | omega | (simp; omega)
      clear hb
      first | (have gsw2w1 : w1.heap.size < w2.heap.size := by omega) | skip
      go_wp2_with fail
      refine bodyPost_ret (v := .tuple #[.int .i64 l, .int .i64 q, .int .i64 0]) (by first | (simp [results, Tryd.results15, go_sem]; done) | (simp [results, Tryd.results15, go_sem]; done)) rfl ⟨rfl, ?_⟩
      repeat (first | exact Below.refl _ _ | exact HBw2.out | refine Below.setCell ?_ (by first | (simp; done) | omega | (simp; omega)) _ | refine Below.alloc ?_ (by first | (simp; done) | omega | (simp; omega)) _ | refine bel_drew ?_)
end Go.Proofs.YtcdmgkjaionjpaaDoor
