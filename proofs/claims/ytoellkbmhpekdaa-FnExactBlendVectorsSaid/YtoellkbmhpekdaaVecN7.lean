/-
  Vectors of the length 1: the contracts of NormalVector (package impl), l04Normal, NormalVector (package spec).
-/
import Derived.Test.YtoellkbmhpekdaaVecS
import Derived.Test.YtoellkbmhpekdaaTimesV
import Derived.Test.YtoellkbmhpekdaaBelow3
import Derived.Deep.RegionHeld3
namespace Go.Proofs.Ytoellkbmhpekdaa
open Go.RowKit
set_option linter.unusedVariables false

theorem undrewV {W u : World} (h : Below W.drew.heap.size W.drew u) : Below W.heap.size W u := ⟨h.os, h.tape, h.output, h.size, h.block⟩
/-- A component of the vector of the length 1. -/
def nvI (x L : Int) : Int := nearQ (x * 1000000) L
def normV (x y z : Int) : Value := if okV x y z = true then (if x = 0 ∧ y = 0 ∧ z = 0 then .tuple #[.agg #[.int .i64 0, .int .i64 0, .int .i64 0], .int .i64 6] else .tuple #[.agg #[.int .i64 (nvI x (len3 x y z)), .int .i64 (nvI y (len3 x y z)), .int .i64 (nvI z (len3 x y z))], .int .i64 0]) else .tuple #[.agg #[.int .i64 0, .int .i64 0, .int .i64 0], .int .i64 1]
theorem normV_form (x y z : Int) : ∃ a b c d : Int, normV x y z = .tuple #[.agg #[.int .i64 a, .int .i64 b, .int .i64 c], .int .i64 d] := by
  unfold normV
  split
  · split <;> exact ⟨_, _, _, _, rfl⟩
  · exact ⟨_, _, _, _, rfl⟩
theorem len_pos (x y z : Int) (h : ¬ (x = 0 ∧ y = 0 ∧ z = 0)) : 0 < len3 x y z := by
  have h0 : 0 ≤ len3 x y z := rootI_nonneg _
  have := mt (len3_0 x y z).1 h
  omega
theorem nv_ok (x y z : Int) (h : ¬ (x = 0 ∧ y = 0 ∧ z = 0)) : okV (nvI x (len3 x y z)) (nvI y (len3 x y z)) (nvI z (len3 x y z)) = true := by
  have hp := len_pos x y z h
  obtain ⟨⟨a, b⟩, ⟨c, d⟩, e, f⟩ := len3_ge x y z
  have k1 := nearQ_le x _ 1000000 (by omega) hp a b
  have k2 := nearQ_le y _ 1000000 (by omega) hp c d
  have k3 := nearQ_le z _ 1000000 (by omega) hp e f
  rw [okV_bd]
  unfold nvI
  omega
/-- What stays: a vector, three numbers behind one another in another block, and a third block of three. -/
theorem keepN {w W W' : World} {g h r : Nat} {x y z p q t a b c : Int} (k : C3 W g x y z ∧ C3 W h p q t ∧ C3 W r a b c ∧ Below w.heap.size w W) (hb : Below W.heap.size W W') : C3 W' g x y z ∧ C3 W' h p q t ∧ C3 W' r a b c ∧ Below w.heap.size w W' :=
  ⟨k.1.stays hb (World.block_lt_of_cell? W ⟨g, 0, none⟩ k.1.c0), k.2.1.stays hb (World.block_lt_of_cell? W ⟨h, 0, none⟩ k.2.1.c0), k.2.2.1.stays hb (World.block_lt_of_cell? W ⟨r, 0, none⟩ k.2.2.1.c0), k.2.2.2.trans (hb.mono k.2.2.2.size)⟩
theorem flatN {w W : World} {g h r : Nat} {x y z p q t a b c : Int} (k : C3 W g x y z ∧ C3 W h p q t ∧ C3 W r a b c ∧ Below w.heap.size w W) :
    W.cell? ⟨g, 0, none⟩ = some (.int .i64 x) ∧ W.cell? ⟨g, 1, none⟩ = some (.int .i64 y) ∧ W.cell? ⟨g, 2, none⟩ = some (.int .i64 z) ∧ W.cell? ⟨h, 0, none⟩ = some (.int .i64 p) ∧ W.cell? ⟨h, 1, none⟩ = some (.int .i64 q) ∧ W.cell? ⟨h, 2, none⟩ = some (.int .i64 t) ∧
    W.cell? ⟨r, 0, none⟩ = some (.int .i64 a) ∧ W.cell? ⟨r, 1, none⟩ = some (.int .i64 b) ∧ W.cell? ⟨r, 2, none⟩ = some (.int .i64 c) ∧ W.frozen? ⟨r, 0, none⟩ = false ∧ W.frozen? ⟨r, 1, none⟩ = false ∧ W.frozen? ⟨r, 2, none⟩ = false ∧ Below w.heap.size w W :=
  ⟨k.1.c0, k.1.c1, k.1.c2, k.2.1.c0, k.2.1.c1, k.2.1.c2, k.2.2.1.c0, k.2.2.1.c1, k.2.2.1.c2, k.2.2.1.f0, k.2.2.1.f1, k.2.2.1.f2, k.2.2.2⟩

theorem n6 {w W : World} {g h r : Nat} {x y z p q t a b c : Int} (k : C3 W g x y z ∧ C3 W h p q t ∧ C3 W r a b c ∧ Below w.heap.size w W) :
    W.cell? ⟨g, 0, none⟩ = some (.int .i64 x) ∧ W.cell? ⟨g, 1, none⟩ = some (.int .i64 y) ∧ W.cell? ⟨g, 2, none⟩ = some (.int .i64 z) ∧ W.cell? ⟨h, 0, none⟩ = some (.int .i64 p) ∧ W.cell? ⟨h, 1, none⟩ = some (.int .i64 q) ∧ W.cell? ⟨h, 2, none⟩ = some (.int .i64 t) ∧ Below w.heap.size w W :=
  ⟨k.1.c0, k.1.c1, k.1.c2, k.2.1.c0, k.2.1.c1, k.2.1.c2, k.2.2.2⟩
theorem n6s {w W : World} {h : Nat} {x y z p q t a b c : Int} {u v s : Value} (k : C3 W w.heap.size x y z ∧ C3 W h p q t ∧ C3 W (w.heap.size + 1) a b c ∧ Below w.heap.size w W) (hh : h ≠ w.heap.size + 1) :
    (((W.setCell ⟨w.heap.size + 1, 0, none⟩ u).setCell ⟨w.heap.size + 1, 1, none⟩ v).setCell ⟨w.heap.size + 1, 2, none⟩ s).cell? ⟨w.heap.size, 0, none⟩ = some (.int .i64 x) ∧ (((W.setCell ⟨w.heap.size + 1, 0, none⟩ u).setCell ⟨w.heap.size + 1, 1, none⟩ v).setCell ⟨w.heap.size + 1, 2, none⟩ s).cell? ⟨w.heap.size, 1, none⟩ = some (.int .i64 y) ∧ (((W.setCell ⟨w.heap.size + 1, 0, none⟩ u).setCell ⟨w.heap.size + 1, 1, none⟩ v).setCell ⟨w.heap.size + 1, 2, none⟩ s).cell? ⟨w.heap.size, 2, none⟩ = some (.int .i64 z) ∧ (((W.setCell ⟨w.heap.size + 1, 0, none⟩ u).setCell ⟨w.heap.size + 1, 1, none⟩ v).setCell ⟨w.heap.size + 1, 2, none⟩ s).cell? ⟨h, 0, none⟩ = some (.int .i64 p) ∧ (((W.setCell ⟨w.heap.size + 1, 0, none⟩ u).setCell ⟨w.heap.size + 1, 1, none⟩ v).setCell ⟨w.heap.size + 1, 2, none⟩ s).cell? ⟨h, 1, none⟩ = some (.int .i64 q) ∧ (((W.setCell ⟨w.heap.size + 1, 0, none⟩ u).setCell ⟨w.heap.size + 1, 1, none⟩ v).setCell ⟨w.heap.size + 1, 2, none⟩ s).cell? ⟨h, 2, none⟩ = some (.int .i64 t) ∧
    Below w.heap.size w (((W.setCell ⟨w.heap.size + 1, 0, none⟩ u).setCell ⟨w.heap.size + 1, 1, none⟩ v).setCell ⟨w.heap.size + 1, 2, none⟩ s) := by
  have A := ((k.1.other (g' := w.heap.size + 1) (o := 0) (v := u) (by omega)).other (g' := w.heap.size + 1) (o := 1) (v := v) (by omega)).other (g' := w.heap.size + 1) (o := 2) (v := s) (by omega)
  have B := ((k.2.1.other (g' := w.heap.size + 1) (o := 0) (v := u) (by omega)).other (g' := w.heap.size + 1) (o := 1) (v := v) (by omega)).other (g' := w.heap.size + 1) (o := 2) (v := s) (by omega)
  exact ⟨A.c0, A.c1, A.c2, B.c0, B.c1, B.c2, ((k.2.2.2.setCell (by simp) _).setCell (by simp) _).setCell (by simp) _⟩

theorem keepX3 {w W W' : World} {g : Nat} {v0 v1 v2 : Value} (h : W.cell? ⟨g, 0, none⟩ = some v0 ∧ W.cell? ⟨g, 1, none⟩ = some v1 ∧ W.cell? ⟨g, 2, none⟩ = some v2 ∧ Below w.heap.size w W) (hb : Below W.heap.size W W') :
    W'.cell? ⟨g, 0, none⟩ = some v0 ∧ W'.cell? ⟨g, 1, none⟩ = some v1 ∧ W'.cell? ⟨g, 2, none⟩ = some v2 ∧ Below w.heap.size w W' := by
  obtain ⟨h0, h1, h2, hB⟩ := h
  have l0 := World.block_lt_of_cell? W ⟨g, 0, none⟩ h0
  obtain ⟨k, _⟩ := bcell hb
  exact ⟨(k _ _ l0).trans h0, (k _ _ l0).trans h1, (k _ _ l0).trans h2, hB.trans (hb.mono hB.size)⟩
theorem setX3 {w W : World} {g r o : Nat} {u v0 v1 v2 : Value} (h : W.cell? ⟨g, 0, none⟩ = some v0 ∧ W.cell? ⟨g, 1, none⟩ = some v1 ∧ W.cell? ⟨g, 2, none⟩ = some v2 ∧ Below w.heap.size w W) (n0 : g ≠ r) (hr : w.heap.size ≤ r) :
    (W.setCell ⟨r, o, none⟩ u).cell? ⟨g, 0, none⟩ = some v0 ∧ (W.setCell ⟨r, o, none⟩ u).cell? ⟨g, 1, none⟩ = some v1 ∧ (W.setCell ⟨r, o, none⟩ u).cell? ⟨g, 2, none⟩ = some v2 ∧ Below w.heap.size w (W.setCell ⟨r, o, none⟩ u) := by
  obtain ⟨h0, h1, h2, hb⟩ := h
  exact ⟨(World.cell?_setCell_other _ _ _ _ (by intro e; injection e with e1; exact n0 e1.symm)).trans h0, (World.cell?_setCell_other _ _ _ _ (by intro e; injection e with e1; exact n0 e1.symm)).trans h1, (World.cell?_setCell_other _ _ _ _ (by intro e; injection e with e1; exact n0 e1.symm)).trans h2, hb.setCell hr _⟩
set_option maxHeartbeats 2000000 in
theorem implNorm_any (x y z : Int) (w : World) :
    Calls Try.prog 49 #[.agg #[.int .i64 x, .int .i64 y, .int .i64 z]] w fun e w' => e = .returned (normV x y z) ∧ Below w.heap.size w w' := by
  unfold normV
  have I := Lib.hid (fun w => validV_any x y z w)
  have J := Lib.hid (fun w => hasLen_any x y z w)
  cases ho : okV x y z with
  | false =>
    rw [if_neg (by simp)]
    rw [ho] at I
    clear ho
    go_enter Try.func49, Try.ntmps49
    go_wp2_with fail
    refine (I.out _).mono ?_
    rintro e w1 ⟨rfl, hb⟩
    have hsw1 := hb.size
    try simp at hsw1
    obtain ⟨hcw1, hfw1⟩ := bcell hb
    have HBw1 : Hid (Below w.heap.size w w1) := by
      apply Lib.hid
      refine Below.trans ?_ (hb.mono ?_)
      · repeat (first | exact Below.refl _ _ | refine Below.setCell ?_ (by first | (simp; done) | omega | (simp; omega)) _ | refine Below.alloc ?_ (by first | (simp; done) | omega | (simp; omega)) _)
      · first | (simp; done) | omega | (simp; omega)
    have hzw1 : w.heap.size + 1 < w1.heap.size := by have := hb.size; (try simp at this); omega
    have hyw1 : w.heap.size < w1.heap.size := by have := hb.size; (try simp at this); omega
    clear hb
    go_wp2_with fail
    refine bodyPost_ret (v := .tuple #[.agg #[.int .i64 0, .int .i64 0, .int .i64 0], .int .i64 1]) (by first | (simp [results, Try.results49, go_sem]; done) | (simp [results, Try.results49, go_sem, *]; done)) rfl ⟨rfl, ?_⟩
    repeat (first | exact Below.refl _ _ | exact HBw1.out | refine Below.setCell ?_ (by first | (simp; done) | omega | (simp; omega)) _ | refine Below.alloc ?_ (by first | (simp; done) | omega | (simp; omega)) _ | refine bel_drew ?_)
  | true =>
    rw [if_pos rfl]
    rw [ho] at I
    by_cases hz : x = 0 ∧ y = 0 ∧ z = 0
    · rw [if_pos hz]
      rw [decide_eq_true hz] at J
      clear ho hz
      go_enter Try.func49, Try.ntmps49
      go_wp2_with fail
      refine (I.out _).mono ?_
      rintro e w1 ⟨rfl, hb⟩
      have hsw1 := hb.size
      try simp at hsw1
      obtain ⟨hcw1, hfw1⟩ := bcell hb
      have HBw1 : Hid (Below w.heap.size w w1) := by
        apply Lib.hid
        refine Below.trans ?_ (hb.mono ?_)
        · repeat (first | exact Below.refl _ _ | refine Below.setCell ?_ (by first | (simp; done) | omega | (simp; omega)) _ | refine Below.alloc ?_ (by first | (simp; done) | omega | (simp; omega)) _)
        · first | (simp; done) | omega | (simp; omega)
      have hzw1 : w.heap.size + 1 < w1.heap.size := by have := hb.size; (try simp at this); omega
      have hyw1 : w.heap.size < w1.heap.size := by have := hb.size; (try simp at this); omega
      clear hb
      go_wp2_with fail
      refine (J.out _).mono ?_
      rintro e w2 ⟨rfl, hb⟩
      have hsw2 := hb.size
      try simp at hsw2
      obtain ⟨hcw2, hfw2⟩ := bcell hb
      have HBw2 : Hid (Below w.heap.size w w2) := by
        apply Lib.hid
        refine Below.trans ?_ (hb.mono ?_)
        · repeat (first | exact Below.refl _ _ | exact HBw1.out | refine Below.setCell ?_ (by first | (simp; done) | omega | (simp; omega)) _ | refine Below.alloc ?_ (by first | (simp; done) | omega | (simp; omega)) _)
        · first | (simp; done) | omega | (simp; omega)
      have hzw2 : w.heap.size + 1 < w2.heap.size := by have := hb.size; (try simp at this); omega
      have hyw2 : w.heap.size < w2.heap.size := by have := hb.size; (try simp at this); omega
      clear hb
      first | (have gsw2w1 : w1.heap.size < w2.heap.size := by omega) | skip
      go_wp2_with fail
      refine bodyPost_ret (v := .tuple #[.agg #[.int .i64 0, .int .i64 0, .int .i64 0], .int .i64 6]) (by first | (simp [results, Try.results49, go_sem]; done) | (simp [results, Try.results49, go_sem, *]; done)) rfl ⟨rfl, ?_⟩
      repeat (first | exact Below.refl _ _ | exact HBw2.out | refine Below.setCell ?_ (by first | (simp; done) | omega | (simp; omega)) _ | refine Below.alloc ?_ (by first | (simp; done) | omega | (simp; omega)) _ | refine bel_drew ?_)
    · rw [if_neg hz]
      rw [decide_eq_false hz] at J
      have hv := inV_ok _ _ _ ho
      obtain ⟨⟨x0, x1⟩, ⟨y0, y1⟩, z0, z1⟩ := hv
      have lb := len3_bd x y z 2000000 (by omega) x0 x1 y0 y1 z0 z1
      have L := Lib.hid (fun w => length_any x y z ⟨⟨by omega, by omega⟩, ⟨by omega, by omega⟩, by omega, by omega⟩ w)
      have TM := Lib.hid (fun w => times_any x y z 1000000 (by omega) (by omega) (by omega) w)
      have Q := Lib.hid (fun w => quotients_any (x * 1000000) (y * 1000000) (z * 1000000) (len3 x y z) w (by omega) (by omega) (by omega) (by omega) (by omega) (by omega) (by omega) (by omega))
      have U := Lib.hid (fun w => vector_any (nvI x (len3 x y z)) (nvI y (len3 x y z)) (nvI z (len3 x y z)) w)
      clear ho hz lb
      unfold nvI at U ⊢
      generalize nearQ (x * 1000000) (len3 x y z) = p at *
      generalize nearQ (y * 1000000) (len3 x y z) = q at *
      generalize nearQ (z * 1000000) (len3 x y z) = t at *
      generalize len3 x y z = l at *
      obtain ⟨W0, hW0⟩ : ∃ W0, W0 = (w.alloc (.cells #[.int .i64 x, .int .i64 y, .int .i64 z] 47)).alloc (.cells #[.int .i64 0, .int .i64 0, .int .i64 0] 47) := ⟨_, rfl⟩
      have A0 : C3 W0 w.heap.size x y z := by rw [hW0]; exact (C3.new _ _ _ _ _).alloc (by simp) _
      have R0 : C3 W0 (w.heap.size + 1) 0 0 0 := by rw [hW0]; simpa using C3.new (w.alloc (.cells #[.int .i64 x, .int .i64 y, .int .i64 z] 47)) 47 0 0 0
      have HB0 : Hid (Below w.heap.size w W0) := Lib.hid (by rw [hW0]; exact ((Below.refl _ _).alloc (Nat.le_refl _) _).alloc (by simp) _)
      have HW := Lib.hid hW0
      clear hW0
      have HA0 := Lib.hid A0
      have HR0 := Lib.hid R0
      clear R0
      obtain ⟨a0, a1, a2, _, _, _⟩ := A0
      go_enter Try.func49, Try.ntmps49
      go_wp2_with fail
      rw [← HW.out]
      clear HW
      refine (I.out _).mono ?_
      rintro e w1 ⟨rfl, hb⟩
      have HA1 := Lib.hid (HA0.out.stays hb (World.block_lt_of_cell? W0 ⟨w.heap.size, 0, none⟩ HA0.out.c0))
      have HR1 := Lib.hid (HR0.out.stays hb (World.block_lt_of_cell? W0 ⟨w.heap.size + 1, 0, none⟩ HR0.out.c0))
      have HB1 := Lib.hid (HB0.out.trans (hb.mono HB0.out.size))
      clear hb HA0 HR0 HB0 a0 a1 a2
      obtain ⟨a0, a1, a2, _, _, _⟩ := HA1.out
      go_wp2_with fail
      refine (J.out _).mono ?_
      rintro e w2 ⟨rfl, hb⟩
      have HA2 := Lib.hid (HA1.out.stays hb (World.block_lt_of_cell? w1 ⟨w.heap.size, 0, none⟩ HA1.out.c0))
      have HR2 := Lib.hid (HR1.out.stays hb (World.block_lt_of_cell? w1 ⟨w.heap.size + 1, 0, none⟩ HR1.out.c0))
      have HB2 := Lib.hid (HB1.out.trans (hb.mono HB1.out.size))
      clear hb HA1 HR1 HB1 a0 a1 a2
      obtain ⟨a0, a1, a2, _, _, _⟩ := HA2.out
      go_wp2_with fail
      have HR := Lib.hid (fun (W : World) (h : Below w2.heap.size w2 W) => HR2.out.on h)
      have K2 : Hid (w2.cell? ⟨w.heap.size, 0, none⟩ = some (.int .i64 x) ∧ w2.cell? ⟨w.heap.size, 1, none⟩ = some (.int .i64 y) ∧ w2.cell? ⟨w.heap.size, 2, none⟩ = some (.int .i64 z) ∧ Below w.heap.size w w2) := Lib.hid ⟨a0, a1, a2, HB2.out⟩
      go_region_held3 (fun w' => w'.cell? ⟨w.heap.size, 0, none⟩ = some (.int .i64 x) ∧ w'.cell? ⟨w.heap.size, 1, none⟩ = some (.int .i64 y) ∧ w'.cell? ⟨w.heap.size, 2, none⟩ = some (.int .i64 z) ∧ Below w.heap.size w w') (first | (exact keepX3 K2.out (bel_drew (Below.refl _ _))) | (exact keepX3 K2.out y4) | (exact keepX3 K2.out y3) | (exact keepX3 K2.out y2) | (exact keepX3 K2.out y1) | (exact setX3 (setX3 (setX3 (keepX3 K2.out y4) (by omega) (by omega)) (by omega) (by omega)) (by omega) (by omega)) | go_keep) ((first
        | (go_at_call 75; refine (TM.out _).mono ?_; rintro e x1 ⟨rfl, hx1⟩; have y1 := undrewV hx1)
        | (go_at_call 77; refine (L.out _).mono ?_; rintro e x2 ⟨rfl, hx2⟩; have y2 := y1.trans (hx2.mono y1.size))
        | (go_at_call 76; refine (Q.out _).mono ?_; rintro e x3 ⟨rfl, hx3⟩; have y3 := y2.trans (hx3.mono y2.size))
        | (go_at_call 50; refine (U.out _).mono ?_; rintro e x4 ⟨rfl, hx4⟩; have y4 := y3.trans (hx4.mono y3.size); have rr := HR.out _ y4; obtain ⟨r0, r1, r2, r3, r4, r5⟩ := rr)))
      rename_i held
      have HB := Lib.hid held.2.2.2
      clear held
      go_wp2_with fail
      refine bodyPost_ret (v := .tuple #[.agg #[.int .i64 p, .int .i64 q, .int .i64 t], .int .i64 0]) (by first | (simp [results, Try.results49, go_sem]; done) | (simp [results, Try.results49, go_sem, *]; done)) rfl ⟨rfl, ?_⟩
      repeat (first | exact Below.refl _ _ | exact HB.out | refine Below.setCell ?_ (by first | (simp; done) | omega | (simp; omega)) _ | refine Below.alloc ?_ (by first | (simp; done) | omega | (simp; omega)) _ | refine bel_drew ?_)
end Go.Proofs.Ytoellkbmhpekdaa
