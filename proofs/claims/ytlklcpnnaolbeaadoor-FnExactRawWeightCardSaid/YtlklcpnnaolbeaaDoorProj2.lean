/-
  What a projector gives at a direction: the contracts of l10Spot, l10Raw, RawWeight (package spec).
-/
import Derived.Test.YtlklcpnnaolbeaaDoorProj1
import Derived.Test.YtlklcpnnaolbeaaDoorSep9
import Derived.Test.YtlklcpnnaolbeaaDoorKeep
import Derived.Test.YtlklcpnnaolbeaaDoorDir
import Derived.IntWalk
import Derived.Deep.RegionHeld3
import Derived.RegionTactic
namespace Go.Proofs.YtlklcpnnaolbeaaDoor
open Go.RowKit
set_option linter.unusedVariables false

/-- A direction of the dome. -/
def spotB (u v : Int) : Bool := inR 0 359999 [u] && inR 0 90000 [v]
theorem StarAt.drewP {w : World} {g o : Nat} {x : StarV} (h : StarAt w g o x) (n : Nat) : StarAt (w.drewN n) g o x := ⟨h.c0, h.c1, h.c2, h.c3, h.c4⟩
theorem spotB_bd {u v : Int} (h : spotB u v = true) : (0 ≤ u ∧ u ≤ 359999) ∧ 0 ≤ v ∧ v ≤ 90000 := by
  unfold spotB at h
  simp only [Bool.and_eq_true, inR_1] at h
  exact h
/-- The weight at a distance. -/
def rawD (f d : Int) : Int := if f < d then 0 else 1000 * (f - d) / f + 1
/-- The weight of a projector at a direction. -/
def rawN (x : StarV) (u v : Int) : Int := rawD x.c (sep9 x.a x.b u v)
theorem rawD_bd (f d : Int) (f0 : 5000 ≤ f) (d0 : 0 ≤ d) : 0 ≤ rawD f d ∧ rawD f d ≤ 1001 := by
  unfold rawD
  split
  · omega
  · have h1 : 0 ≤ 1000 * (f - d) / f := Int.ediv_nonneg (by omega) (by omega)
    have h2 : 1000 * (f - d) / f ≤ 1000 := Int.ediv_le_of_le_mul (by omega) (by omega)
    omega
theorem sep9_bd (a h p q : Int) : 0 ≤ sep9 a h p q ∧ sep9 a h p q < 360000 := sepX_bd _ _ _ _ _ _
theorem rawN_bd {x : StarV} (h : x.good = true) (u v : Int) : 0 ≤ rawN x u v ∧ rawN x u v ≤ 1001 := rawD_bd _ _ (starB_bd h).2.2.1.1 (sep9_bd _ _ _ _).1

set_option maxHeartbeats 400000 in
theorem l10Spot_any (u v : Int) (w : World) :
    Calls Tryd.prog 36 #[.int .i64 u, .int .i64 v] w fun e w' => e = .returned (.bool (spotB u v)) ∧ w = w' := by
  unfold spotB
  have I1 := Lib.hid (fun w => l06Turn_any u w)
  have I2 := Lib.hid (fun w => l00In_any v 0 90000 w)
  generalize inR 0 359999 [u] = p1 at *
  generalize inR 0 90000 [v] = p2 at *
  cases p1 with
  | false =>
    rw [Bool.false_and]
    go_enter Tryd.func36, Tryd.ntmps36
    go_wp2_with fail
    refine (I1.out _).mono ?_
    rintro e w' ⟨rfl, rfl⟩
    go_wp2_with fail
    go_ret
    refine ⟨rfl, ?_⟩
    rfl
  | true =>
    rw [Bool.true_and]
    go_enter Tryd.func36, Tryd.ntmps36
    go_wp2_with fail
    refine (I1.out _).mono ?_
    rintro e w' ⟨rfl, rfl⟩
    go_wp2_with fail
    refine (I2.out _).mono ?_
    rintro e w' ⟨rfl, rfl⟩
    go_wp2_with fail
    go_ret
    refine ⟨rfl, ?_⟩
    rfl

set_option maxRecDepth 100000 in
set_option maxHeartbeats 2000000 in
theorem l10Raw_at (g o : Nat) (x : StarV) (hx : x.good = true) (u v : Int) (u0 : 0 ≤ u) (u1 : u ≤ 359999) (v0 : -90000 ≤ v) (v1 : v ≤ 90000) (w : World) (h : StarAt w g o x) :
    Calls Tryd.prog 37 #[.pointer (some ⟨g, o, none⟩), .agg #[.int .i64 (dX u v), .int .i64 (dY u v), .int .i64 (sinI v)]] w fun e w' => e = .returned (.int .i64 (rawN x u v)) ∧ Below w.heap.size w w' := by
  have hgd := starB_bd hx
  unfold rawN
  obtain ⟨s, a, b, c, d⟩ := x
  obtain ⟨c0, c1, c2, c3, c4⟩ := h
  simp only at c0 c1 c2 c3 c4 hgd ⊢
  clear hx
  have sb := sep9_bd a b u v
  unfold sep9 at sb ⊢
  obtain ⟨t, ht⟩ := sepX_spec (dX a b) (dY a b) (sinI b) (dX u v) (dY u v) (sinI v)
  have S := Lib.hid (fun w => l04Direction_any a b (by omega) (by omega) (by omega) (by omega) w)
  change Hid (∀ w, Calls Tryd.prog 38 #[.int .i64 a, .int .i64 b] w fun e w' => e = .returned (.agg #[.int .i64 (dX a b), .int .i64 (dY a b), .int .i64 (sinI b)]) ∧ Below w.heap.size w w') at S
  have F := Lib.hid (fun w => l04Away_any (dX a b) (dY a b) (sinI b) (dX u v) (dY u v) (sinI v) (inV_2 (dir_in _ _)) (inV_2 (dir_in _ _)) w)
  rw [ht] at F
  clear ht
  generalize sepX (dX a b) (dY a b) (sinI b) (dX u v) (dY u v) (sinI v) = n at *
  generalize dX a b = x at *
  generalize dY a b = y at *
  generalize sinI b = z at *
  generalize dX u v = x' at *
  generalize dY u v = y' at *
  generalize sinI v = z' at *
  unfold rawD
  obtain ⟨W0, hW0⟩ : ∃ W0, W0 = (w.alloc (.cells #[.int .i64 x', .int .i64 y', .int .i64 z'] 31)) := ⟨_, rfl⟩
  have hg : g < w.heap.size := World.block_lt_of_cell? w ⟨g, o, none⟩ c0
  have K0 : Hid (W0.cell? ⟨g, o + 1, none⟩ = some (.int .i64 a) ∧ W0.cell? ⟨g, o + 2, none⟩ = some (.int .i64 b) ∧ W0.cell? ⟨g, o + 3, none⟩ = some (.int .i64 c) ∧ W0.cell? ⟨w.heap.size, 0, none⟩ = some (.int .i64 x') ∧ W0.cell? ⟨w.heap.size, 1, none⟩ = some (.int .i64 y') ∧ W0.cell? ⟨w.heap.size, 2, none⟩ = some (.int .i64 z') ∧ Below w.heap.size w W0) := Lib.hid (by rw [hW0]; exact ⟨by rw [World.cell?_alloc_lt _ _ _ (by exact hg)]; exact c1, by rw [World.cell?_alloc_lt _ _ _ (by exact hg)]; exact c2, by rw [World.cell?_alloc_lt _ _ _ (by exact hg)]; exact c3, by rw [World.cell?_alloc_at _ _ _ _ (by simp)]; rfl, by rw [World.cell?_alloc_at _ _ _ _ (by simp)]; rfl, by rw [World.cell?_alloc_at _ _ _ _ (by simp)]; rfl, (Below.refl _ _).alloc (Nat.le_refl _) _⟩)
  have HW := Lib.hid hW0
  have e1 : IntKind.i64.wrap (c - n) = c - n := IntWalk.i64_in _ (by omega)
  have e2 : IntKind.i64.wrap (1000 * (c - n)) = 1000 * (c - n) := IntWalk.i64_in _ (by omega)
  clear hW0 c0 c1 c2 c3 c4 hg
  by_cases hd : c < n
  · rw [if_pos hd]
    have SB := Lib.hid sb
    clear sb e1 e2
    go_enter Tryd.func37, Tryd.ntmps37
    obtain ⟨k0, k1, k2, k3, k4, k5, k6⟩ := K0.out
    go_wp2_with fail
    rw [← HW.out]
    clear HW
    go_region_held3 (fun W => W.cell? ⟨g, o + 1, none⟩ = some (.int .i64 a) ∧ W.cell? ⟨g, o + 2, none⟩ = some (.int .i64 b) ∧ W.cell? ⟨g, o + 3, none⟩ = some (.int .i64 c) ∧ W.cell? ⟨w.heap.size, 0, none⟩ = some (.int .i64 x') ∧ W.cell? ⟨w.heap.size, 1, none⟩ = some (.int .i64 y') ∧ W.cell? ⟨w.heap.size, 2, none⟩ = some (.int .i64 z') ∧ Below w.heap.size w W) (first | (exact keepW6 K0.out (drewG W0)) | (exact keepW6 K0.out y1) | (exact keepW6 K0.out y2) | go_keep) ((first
      | (go_at_call 38; (with_reducible refine (S.out _).mono ?_); rintro e x1 ⟨rfl, hx1⟩; have y1 := undrewG hx1)
      | (go_at_call 67; (with_reducible refine (F.out _).mono ?_); rintro e x2 ⟨rfl, hx2⟩; have y2 := y1.trans (hx2.mono y1.size))))
    all_goals
      rename_i held
      obtain ⟨_, _, m2, _, _, _, m6⟩ := held
      have HB := Lib.hid m6
      clear m6
      go_wp2_with fail
      go_ret
      exact ⟨rfl, HB.out⟩
  · rw [if_neg hd]
    have q0 : (1000 * (c - n)).tdiv c = 1000 * (c - n) / c := Int.tdiv_eq_ediv_of_nonneg (by omega)
    have qb : 0 ≤ 1000 * (c - n) / c := Int.ediv_nonneg (by omega) (by omega)
    have qc : 1000 * (c - n) / c ≤ 1000 := Int.ediv_le_of_le_mul (by omega) (by omega)
    have e3 : IntKind.i64.wrap (1000 * (c - n) / c) = 1000 * (c - n) / c := IntWalk.i64_in _ (by omega)
    have e4 : IntKind.i64.wrap (1000 * (c - n) / c + 1) = 1000 * (c - n) / c + 1 := IntWalk.i64_in _ (by omega)
    have cz : ¬ c = 0 := by omega
    have SB := Lib.hid sb
    clear sb qb qc
    go_enter Tryd.func37, Tryd.ntmps37
    obtain ⟨k0, k1, k2, k3, k4, k5, k6⟩ := K0.out
    go_wp2_with fail
    rw [← HW.out]
    clear HW
    go_region_held3 (fun W => W.cell? ⟨g, o + 1, none⟩ = some (.int .i64 a) ∧ W.cell? ⟨g, o + 2, none⟩ = some (.int .i64 b) ∧ W.cell? ⟨g, o + 3, none⟩ = some (.int .i64 c) ∧ W.cell? ⟨w.heap.size, 0, none⟩ = some (.int .i64 x') ∧ W.cell? ⟨w.heap.size, 1, none⟩ = some (.int .i64 y') ∧ W.cell? ⟨w.heap.size, 2, none⟩ = some (.int .i64 z') ∧ Below w.heap.size w W) (first | (exact keepW6 K0.out (drewG W0)) | (exact keepW6 K0.out y1) | (exact keepW6 K0.out y2) | go_keep) ((first
      | (go_at_call 38; (with_reducible refine (S.out _).mono ?_); rintro e x1 ⟨rfl, hx1⟩; have y1 := undrewG hx1)
      | (go_at_call 67; (with_reducible refine (F.out _).mono ?_); rintro e x2 ⟨rfl, hx2⟩; have y2 := y1.trans (hx2.mono y1.size))))
    all_goals
      rename_i held
      obtain ⟨_, _, m2, _, _, _, m6⟩ := held
      have HB := Lib.hid m6
      clear m6
      go_wp2_with fail
      go_quiet (fail)
      rename Nat => q1
      go_wp2_with fail
      go_ret
      exact ⟨by first | rfl | (simp [q0, e1, e2, e3, e4]), bel_drewNS HB.out _⟩

/-- What RawWeight returns. -/
def rawV (x : StarV) (u v : Int) : Value := if x.good = true then (if spotB u v = true then .tuple #[.int .i64 (rawN x u v), .int .i64 0] else .tuple #[.int .i64 0, .int .i64 2]) else .tuple #[.int .i64 0, .int .i64 1]
theorem rawV_form (x : StarV) (u v : Int) : ∃ a c : Int, rawV x u v = .tuple #[.int .i64 a, .int .i64 c] := by
  unfold rawV
  split
  · split <;> exact ⟨_, _, rfl⟩
  · exact ⟨_, _, rfl⟩

set_option maxRecDepth 100000 in
set_option maxHeartbeats 2000000 in
theorem specRaw_any (s : ByteArray) (a b c d u v : Int) (w : World) :
    Calls Tryd.prog 15 #[.agg #[.string s, .int .i64 a, .int .i64 b, .int .i64 c, .int .i64 d], .int .i64 u, .int .i64 v] w fun e w' => e = .returned (rawV ⟨s, a, b, c, d⟩ u v) ∧ Below w.heap.size w w' := by
  unfold rawV
  have CK := Lib.hid (fun (w : World) g h => l10One_at g 0 ⟨s, a, b, c, d⟩ w h)
  have SP := Lib.hid (fun w => l10Spot_any u v w)
  obtain ⟨W0, hW0⟩ : ∃ W0, W0 = (w.alloc (.cells #[.string s, .int .i64 a, .int .i64 b, .int .i64 c, .int .i64 d] 41)) := ⟨_, rfl⟩
  have SA : Hid (StarAt W0 w.heap.size 0 ⟨s, a, b, c, d⟩) := Lib.hid (by rw [hW0]; exact ⟨by simp, by simp, by simp, by simp, by simp⟩)
  have HB0 : Hid (Below w.heap.size w W0) := Lib.hid (by rw [hW0]; exact (Below.refl _ _).alloc (Nat.le_refl _) _)
  have HW := Lib.hid hW0
  clear hW0
  cases hk : StarV.good ⟨s, a, b, c, d⟩ with
  | false =>
    rw [if_neg (by simp)]
    rw [hk] at CK
    clear hk SP
    go_enter Tryd.func15, Tryd.ntmps15
    go_wp2_with fail
    rw [← HW.out]
    clear HW
    refine (CK.out _ _ SA.out).mono ?_
    rintro e w1 ⟨rfl, m1, rfl⟩
    have HB1 := Lib.hid (bel_drewNS HB0.out m1)
    go_wp2_with fail
    refine bodyPost_ret (v := .tuple #[.int .i64 0, .int .i64 1]) (by first | (simp [results, Tryd.results15, go_sem]; done) | (simp [results, Tryd.results15, go_sem]; done)) rfl ⟨rfl, ?_⟩
    repeat (first | exact Below.refl _ _ | exact HB1.out | refine Below.setCell ?_ (by first | (simp; done) | omega | (simp; omega)) _ | refine Below.alloc ?_ (by first | (simp; done) | omega | (simp; omega)) _ | refine bel_drew ?_)
  | true =>
    rw [if_pos rfl]
    cases hs : spotB u v with
    | false =>
      rw [if_neg (by simp)]
      rw [hk] at CK
      rw [hs] at SP
      clear hk hs
      go_enter Tryd.func15, Tryd.ntmps15
      go_wp2_with fail
      rw [← HW.out]
      clear HW
      refine (CK.out _ _ SA.out).mono ?_
      rintro e w1 ⟨rfl, m1, rfl⟩
      have HB1 := Lib.hid (bel_drewNS HB0.out m1)
      go_wp2_with fail
      refine (SP.out _).mono ?_
      rintro e w' ⟨rfl, rfl⟩
      go_wp2_with fail
      refine bodyPost_ret (v := .tuple #[.int .i64 0, .int .i64 2]) (by first | (simp [results, Tryd.results15, go_sem]; done) | (simp [results, Tryd.results15, go_sem]; done)) rfl ⟨rfl, ?_⟩
      repeat (first | exact Below.refl _ _ | exact HB1.out | refine Below.setCell ?_ (by first | (simp; done) | omega | (simp; omega)) _ | refine Below.alloc ?_ (by first | (simp; done) | omega | (simp; omega)) _ | refine bel_drew ?_)
    | true =>
      rw [if_pos rfl]
      obtain ⟨⟨u0, u1⟩, v0, v1⟩ := spotB_bd hs
      have R := Lib.hid (fun (w : World) g h => l10Raw_at g 0 ⟨s, a, b, c, d⟩ hk u v u0 u1 (by omega) v1 w h)
      have D := Lib.hid (fun w => l04Direction_any u v (by omega) (by omega) (by omega) (by omega) w)
      change Hid (∀ w, Calls Tryd.prog 38 #[.int .i64 u, .int .i64 v] w fun e w' => e = .returned (.agg #[.int .i64 (dX u v), .int .i64 (dY u v), .int .i64 (sinI v)]) ∧ Below w.heap.size w w') at D
      rw [hk] at CK
      rw [hs] at SP
      clear hk hs u0 u1 v0 v1
      generalize rawN ⟨s, a, b, c, d⟩ u v = n at *
      generalize dX u v = x at *
      generalize dY u v = y at *
      generalize sinI v = z at *
      go_enter Tryd.func15, Tryd.ntmps15
      go_wp2_with fail
      rw [← HW.out]
      clear HW
      refine (CK.out _ _ SA.out).mono ?_
      rintro e w1 ⟨rfl, m1, rfl⟩
      have HB1 := Lib.hid (bel_drewNS HB0.out m1)
      have SA1 := Lib.hid (StarAt.drewP SA.out (n := m1))
      go_wp2_with fail
      refine (SP.out _).mono ?_
      rintro e w' ⟨rfl, rfl⟩
      go_wp2_with fail
      refine (D.out _).mono ?_
      rintro e w2 ⟨rfl, hb⟩
      have SA2 := Lib.hid (SA1.out.below hb)
      have HB2 := Lib.hid (HB1.out.trans (hb.mono HB1.out.size))
      clear hb
      go_wp2_with fail
      refine (R.out _ _ SA2.out).mono ?_
      rintro e w3 ⟨rfl, hb⟩
      have HB3 := Lib.hid (HB2.out.trans (hb.mono HB2.out.size))
      clear hb
      go_wp2_with fail
      refine bodyPost_ret (v := .tuple #[.int .i64 n, .int .i64 0]) (by first | (simp [results, Tryd.results15, go_sem]; done) | (simp [results, Tryd.results15, go_sem]; done)) rfl ⟨rfl, ?_⟩
      repeat (first | exact Below.refl _ _ | exact HB3.out | refine Below.setCell ?_ (by first | (simp; done) | omega | (simp; omega)) _ | refine Below.alloc ?_ (by first | (simp; done) | omega | (simp; omega)) _ | refine bel_drew ?_)
end Go.Proofs.YtlklcpnnaolbeaaDoor
