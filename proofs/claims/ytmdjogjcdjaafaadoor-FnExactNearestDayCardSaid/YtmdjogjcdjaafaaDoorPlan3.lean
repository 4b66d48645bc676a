/-
  Where planets are and how they are seen: the contracts of l07Place, l07Way, l07Ask, l07Seen, PlaceInOrbit, SeenAngle, SeenDistance, Elongation, PhaseOf (package spec).
-/
import Derived.Test.YtmdjogjcdjaafaaDoorPlan1
import Derived.Test.YtmdjogjcdjaafaaDoorSinW
import Derived.Test.YtmdjogjcdjaafaaDoorVecMath
import Derived.Test.YtmdjogjcdjaafaaDoorSArc
import Derived.Test.YtmdjogjcdjaafaaDoorAngS
import Derived.Test.YtmdjogjcdjaafaaDoorBtw
import Derived.Test.YtmdjogjcdjaafaaDoorRootS
namespace Go.Proofs.YtmdjogjcdjaafaaDoor
open Go.RowKit
set_option linter.unusedVariables false

theorem nq3_bd (n m : Int) (h0 : 0 ≤ m) (h : -(m * 1000) ≤ n) (h' : n ≤ m * 1000) : -m ≤ nearQ n 1000 ∧ nearQ n 1000 ≤ m := by
  rcases (show n < 0 ∨ 0 ≤ n by omega) with c | c
  · rw [nearQ_np n 1000 c (by omega)]; omega
  · rw [nearQ_pp n 1000 c (by omega)]; omega
def plX (a b c d m : Int) : Int := nearQ (b * cosI (orbI a c d m)) 1000
def plY (a b c d m : Int) : Int := nearQ (b * sinI (orbI a c d m)) 1000
theorem plX_bd (a b c d m : Int) (b0 : 1 ≤ b) (b1 : b ≤ 50000) : -50000000 ≤ plX a b c d m ∧ plX a b c d m ≤ 50000000 := by
  have p := pr_bd b (cosI (orbI a c d m)) 50000 1000000 (by omega) b1 (cosI_bd _).1 (cosI_bd _).2
  exact nq3_bd _ 50000000 (by omega) (by omega) (by omega)
theorem plY_bd (a b c d m : Int) (b0 : 1 ≤ b) (b1 : b ≤ 50000) : -50000000 ≤ plY a b c d m ∧ plY a b c d m ≤ 50000000 := by
  have p := pr_bd b (sinI (orbI a c d m)) 50000 1000000 (by omega) b1 (sinI_bd _).1 (sinI_bd _).2
  exact nq3_bd _ 50000000 (by omega) (by omega) (by omega)
theorem orb_bd (a c d m : Int) : 0 ≤ orbI a c d m ∧ orbI a c d m < 360000 := nrm_bd _
theorem keepQ {W0 W W' : World} {b0 o0 : Nat} {v0 : Value} (h : W.cell? ⟨b0, o0, none⟩ = some v0 ∧ Below W0.heap.size W0 W) (hb : Below W.heap.size W W') :
    W'.cell? ⟨b0, o0, none⟩ = some v0 ∧ Below W0.heap.size W0 W' := by
  obtain ⟨h0, h1⟩ := h
  have l0 := World.block_lt_of_cell? W ⟨b0, o0, none⟩ h0
  obtain ⟨k, _⟩ := bcell hb
  exact ⟨(k _ _ l0).trans h0, h1.trans (hb.mono h1.size)⟩
theorem keepM {W0 W W' : World} {b0 o0 b1 o1 : Nat} {v0 v1 : Value} (h : W.cell? ⟨b0, o0, none⟩ = some v0 ∧ W.cell? ⟨b1, o1, none⟩ = some v1 ∧ Below W0.heap.size W0 W) (hb : Below W.heap.size W W') :
    W'.cell? ⟨b0, o0, none⟩ = some v0 ∧ W'.cell? ⟨b1, o1, none⟩ = some v1 ∧ Below W0.heap.size W0 W' := by
  obtain ⟨h0, h1, h4⟩ := h
  have l0 := World.block_lt_of_cell? W ⟨b0, o0, none⟩ h0
  have l1 := World.block_lt_of_cell? W ⟨b1, o1, none⟩ h1
  obtain ⟨k, _⟩ := bcell hb
  exact ⟨(k _ _ l0).trans h0, (k _ _ l1).trans h1, h4.trans (hb.mono h4.size)⟩
/-- A planet in a block of its own. -/
structure Pl (W : World) (g : Nat) (s : ByteArray) (a b c : Int) : Prop where
  c0 : W.cell? ⟨g, 0, none⟩ = some (.string s)
  c1 : W.cell? ⟨g, 1, none⟩ = some (.int .i64 a)
  c2 : W.cell? ⟨g, 2, none⟩ = some (.int .i64 b)
  c3 : W.cell? ⟨g, 3, none⟩ = some (.int .i64 c)
theorem Pl.lt {W : World} {g : Nat} {s : ByteArray} {a b c : Int} (h : Pl W g s a b c) : g < W.heap.size := World.block_lt_of_cell? W ⟨g, 0, none⟩ h.c0
theorem Pl.below {W W' : World} {g : Nat} {s : ByteArray} {a b c : Int} (h : Pl W g s a b c) (hb : Below W.heap.size W W') : Pl W' g s a b c := by
  obtain ⟨k, _⟩ := bcell hb
  exact ⟨(k _ _ h.lt).trans h.c0, (k _ _ h.lt).trans h.c1, (k _ _ h.lt).trans h.c2, (k _ _ h.lt).trans h.c3⟩
theorem Pl.alloc {W : World} {g : Nat} {s : ByteArray} {a b c : Int} (h : Pl W g s a b c) (o : Obj) : Pl (W.alloc o) g s a b c := h.below ((Below.refl _ _).alloc (Nat.le_refl _) o)
theorem Pl.new (W : World) (T : TypeId) (s : ByteArray) (a b c : Int) : Pl (W.alloc (.cells #[.string s, .int .i64 a, .int .i64 b, .int .i64 c] T)) W.heap.size s a b c := ⟨by simp, by simp, by simp, by simp⟩
/-- A moment in a block of its own. -/
structure Mo (W : World) (g : Nat) (d m : Int) : Prop where
  c0 : W.cell? ⟨g, 0, none⟩ = some (.int .i64 d)
  c1 : W.cell? ⟨g, 1, none⟩ = some (.int .i64 m)
theorem Mo.lt {W : World} {g : Nat} {d m : Int} (h : Mo W g d m) : g < W.heap.size := World.block_lt_of_cell? W ⟨g, 0, none⟩ h.c0
theorem Mo.below {W W' : World} {g : Nat} {d m : Int} (h : Mo W g d m) (hb : Below W.heap.size W W') : Mo W' g d m := by
  obtain ⟨k, _⟩ := bcell hb
  exact ⟨(k _ _ h.lt).trans h.c0, (k _ _ h.lt).trans h.c1⟩
theorem Mo.new (W : World) (T : TypeId) (d m : Int) : Mo (W.alloc (.cells #[.int .i64 d, .int .i64 m] T)) W.heap.size d m := ⟨by simp, by simp⟩

set_option maxHeartbeats 2000000 in
theorem l07Place_at (g : Nat) (s : ByteArray) (a b c d m : Int) (h : planetB s a b c = true) (k : okM d m = true) (w : World) (p : Pl w g s a b c) :
    Calls Tryd.prog 29 #[.pointer (some ⟨g, 0, none⟩), .agg #[.int .i64 d, .int .i64 m]] w fun e w' => e = .returned (.tuple #[.int .i64 (plX a b c d m), .int .i64 (plY a b c d m)]) ∧ Below w.heap.size w w' := by
  unfold plX plY
  obtain ⟨⟨a0, a1⟩, ⟨b0, b1⟩, c0, c1⟩ := planet_bd s a b c h
  obtain ⟨⟨d0, d1⟩, m0, m1⟩ := okM_bd d m k
  obtain ⟨o0, o1⟩ := orb_bd a c d m
  have A := Lib.hid (fun (w : World) h1 h3 => l07Angle_at g 0 s a b c d m a0 a1 c0 c1 d0 d1 m0 m1 w h1 h3)
  have C := Lib.hid (fun w => l02Cosine_any (orbI a c d m) (by omega) (by omega) w)
  have S := Lib.hid (fun w => l02Sine_any (orbI a c d m) (by omega) (by omega) w)
  have q1 := cosI_bd (orbI a c d m)
  have q2 := sinI_bd (orbI a c d m)
  clear h k o0 o1 d0 d1 m0 m1 a0 a1 c0 c1
  generalize orbI a c d m = o at *
  generalize cosI o = u at *
  generalize sinI o = v at *
  have p1 := pr_bd b u 50000 1000000 (by omega) b1 q1.1 q1.2
  have p2 := pr_bd b v 50000 1000000 (by omega) b1 q2.1 q2.2
  have D1 := Lib.hid (fun w => l01Div_any (b * u) 1000 w (by omega) (by omega) (by omega) (by omega) (by omega))
  have D2 := Lib.hid (fun w => l01Div_any (b * v) 1000 w (by omega) (by omega) (by omega) (by omega) (by omega))
  have e1 : IntKind.i64.wrap (b * u) = b * u := IntWalk.i64_in _ (by omega)
  have e2 : IntKind.i64.wrap (b * v) = b * v := IntWalk.i64_in _ (by omega)
  clear p1 p2 q1 q2
  generalize nearQ (b * u) 1000 = X at *
  generalize nearQ (b * v) 1000 = Y at *
  have PH := Lib.hid p
  clear p b0 b1
  go_enter Tryd.func29, Tryd.ntmps29
  go_wp2_with fail
  have P0 := Lib.hid (PH.out.alloc (.cells #[.int .i64 d, .int .i64 m] 31))
  refine (A.out _ P0.out.c1 P0.out.c3).mono ?_
  rintro e w1 ⟨rfl, hb⟩
  have P1 := Lib.hid (P0.out.below hb)
  have HB1 : Hid (Below w.heap.size w w1) := Lib.hid (((Below.refl _ _).alloc (Nat.le_refl _) _).trans (hb.mono (by simp)))
  have K1 : Hid (w1.cell? ⟨g, 2, none⟩ = some (.int .i64 b) ∧ Below w1.heap.size w1 w1) := Lib.hid ⟨P1.out.c2, Below.refl _ _⟩
  clear hb
  obtain ⟨k0, k1⟩ := K1.out
  go_wp2_with fail
  go_region_held3 (fun w' => w'.cell? ⟨g, 2, none⟩ = some (.int .i64 b) ∧ Below w1.heap.size w1 w') (first | (exact keepQ K1.out (bel_drew (Below.refl _ _))) | (exact keepQ K1.out y2) | (exact keepQ K1.out y1) | go_keep) ((first
    | (go_at_call 46; (with_reducible refine (C.out _).mono ?_); rintro e x1 ⟨rfl, hx1⟩; have y1 := undrewP hx1)
    | (go_at_call 61; (with_reducible refine (S.out _).mono ?_); rintro e x2 ⟨rfl, hx2⟩; have y2 := y1.trans (hx2.mono y1.size))
    | (go_at_call 45; (first | (with_reducible refine (D1.out _).mono ?_) | (with_reducible refine (D2.out _).mono ?_)); rintro e x3 ⟨rfl, rfl⟩)))
  rename_i held
  have HB := Lib.hid (HB1.out.trans (held.2.mono HB1.out.size))
  clear held
  go_wp2_with fail
  refine bodyPost_ret (v := .tuple #[.int .i64 X, .int .i64 Y]) (by first | (simp [results, Tryd.results29, go_sem]; done) | (simp [results, Tryd.results29, go_sem, *]; done)) rfl ⟨rfl, ?_⟩
  repeat (first | exact Below.refl _ _ | exact HB.out | refine Below.setCell ?_ (by first | (simp; done) | omega | (simp; omega)) _ | refine Below.alloc ?_ (by first | (simp; done) | omega | (simp; omega)) _ | refine bel_drew ?_)

def wX (a b c x y z d m : Int) : Int := plX a b c d m - plX x y z d m
def wY (a b c x y z d m : Int) : Int := plY a b c d m - plY x y z d m
theorem wX_bd (a b c x y z d m : Int) (b0 : 1 ≤ b) (b1 : b ≤ 50000) (y0 : 1 ≤ y) (y1 : y ≤ 50000) : -100000000 ≤ wX a b c x y z d m ∧ wX a b c x y z d m ≤ 100000000 := by
  have p := plX_bd a b c d m b0 b1
  have q := plX_bd x y z d m y0 y1
  unfold wX
  omega
theorem wY_bd (a b c x y z d m : Int) (b0 : 1 ≤ b) (b1 : b ≤ 50000) (y0 : 1 ≤ y) (y1 : y ≤ 50000) : -100000000 ≤ wY a b c x y z d m ∧ wY a b c x y z d m ≤ 100000000 := by
  have p := plY_bd a b c d m b0 b1
  have q := plY_bd x y z d m y0 y1
  unfold wY
  omega
/-- The code for two planets and a moment. -/
def askP (s : ByteArray) (a b c : Int) (t : ByteArray) (x y z d m : Int) : Int := if planetB s a b c = true ∧ planetB t x y z = true ∧ okM d m = true then (if wX a b c x y z d m = 0 ∧ wY a b c x y z d m = 0 then 6 else 0) else 1
theorem askP_0 (s : ByteArray) (a b c : Int) (t : ByteArray) (x y z d m : Int) (h : askP s a b c t x y z d m = 0) : planetB s a b c = true ∧ planetB t x y z = true ∧ okM d m = true ∧ ¬ (wX a b c x y z d m = 0 ∧ wY a b c x y z d m = 0) := by
  unfold askP at h
  split at h
  · rename_i k
    split at h
    · omega
    · rename_i n
      exact ⟨k.1, k.2.1, k.2.2, n⟩
  · omega
theorem wX_neg (a b c x y z d m : Int) : wX x y z a b c d m = -wX a b c x y z d m := by unfold wX; omega
theorem wY_neg (a b c x y z d m : Int) : wY x y z a b c d m = -wY a b c x y z d m := by unfold wY; omega
theorem askP_comm (s : ByteArray) (a b c : Int) (t : ByteArray) (x y z d m : Int) : askP t x y z s a b c d m = askP s a b c t x y z d m := by
  unfold askP
  rw [wX_neg a b c x y z, wY_neg a b c x y z]
  have e1 : (planetB t x y z = true ∧ planetB s a b c = true ∧ okM d m = true) ↔ (planetB s a b c = true ∧ planetB t x y z = true ∧ okM d m = true) := ⟨fun ⟨p, q, r⟩ => ⟨q, p, r⟩, fun ⟨p, q, r⟩ => ⟨q, p, r⟩⟩
  have e2 : (-wX a b c x y z d m = 0 ∧ -wY a b c x y z d m = 0) ↔ (wX a b c x y z d m = 0 ∧ wY a b c x y z d m = 0) := by omega
  simp only [e1, e2]

set_option maxHeartbeats 1000000 in
theorem l07Way_at (g g' : Nat) (s : ByteArray) (a b c : Int) (t : ByteArray) (x y z d m : Int) (h : planetB s a b c = true) (h' : planetB t x y z = true) (k : okM d m = true) (w : World) (p : Pl w g s a b c) (q : Pl w g' t x y z) :
    Calls Tryd.prog 36 #[.pointer (some ⟨g, 0, none⟩), .pointer (some ⟨g', 0, none⟩), .agg #[.int .i64 d, .int .i64 m]] w fun e w' => e = .returned (.tuple #[.int .i64 (wX a b c x y z d m), .int .i64 (wY a b c x y z d m)]) ∧ Below w.heap.size w w' := by
  obtain ⟨_, ⟨b0, b1⟩, _⟩ := planet_bd s a b c h
  obtain ⟨_, ⟨y0, y1⟩, _⟩ := planet_bd t x y z h'
  have A1 := Lib.hid (fun w p => l07Place_at g s a b c d m h k w p)
  have A2 := Lib.hid (fun w p => l07Place_at g' t x y z d m h' k w p)
  have q1 := plX_bd a b c d m b0 b1
  have q2 := plY_bd a b c d m b0 b1
  have q3 := plX_bd x y z d m y0 y1
  have q4 := plY_bd x y z d m y0 y1
  unfold wX wY
  have PH := Lib.hid p
  have QH := Lib.hid q
  clear p q
  clear h h' k b0 b1 y0 y1
  generalize plX a b c d m = X1 at *
  generalize plY a b c d m = Y1 at *
  generalize plX x y z d m = X2 at *
  generalize plY x y z d m = Y2 at *
  obtain ⟨W0, hW0⟩ : ∃ W0, W0 = w.alloc (.cells #[.int .i64 d, .int .i64 m] 31) := ⟨_, rfl⟩
  have HB0 : Hid (Below w.heap.size w W0) := Lib.hid (by rw [hW0]; exact (Below.refl _ _).alloc (Nat.le_refl _) _)
  have P0 := Lib.hid (PH.out.below HB0.out)
  have Q0 := Lib.hid (QH.out.below HB0.out)
  have M0 : Hid (Mo W0 w.heap.size d m) := Lib.hid (by rw [hW0]; exact Mo.new _ _ _ _)
  have HW := Lib.hid hW0
  clear hW0 PH QH
  go_enter Tryd.func36, Tryd.ntmps36
  obtain ⟨m0, m1⟩ := M0.out
  go_wp2_with fail
  rw [← HW.out]
  clear HW
  refine (A1.out _ P0.out).mono ?_
  rintro e w1 ⟨rfl, hb⟩
  have P1 := Lib.hid (P0.out.below hb)
  have Q1 := Lib.hid (Q0.out.below hb)
  have M1 := Lib.hid (M0.out.below hb)
  have HB1 := Lib.hid (HB0.out.trans (hb.mono HB0.out.size))
  clear hb m0 m1
  obtain ⟨m0, m1⟩ := M1.out
  go_wp2_with fail
  refine (A2.out _ Q1.out).mono ?_
  rintro e w2 ⟨rfl, hb⟩
  have P2 := Lib.hid (P1.out.below hb)
  have Q2 := Lib.hid (Q1.out.below hb)
  have M2 := Lib.hid (M1.out.below hb)
  have HB2 := Lib.hid (HB1.out.trans (hb.mono HB1.out.size))
  clear hb m0 m1
  obtain ⟨m0, m1⟩ := M2.out
  go_wp2_with fail
  refine bodyPost_ret (v := .tuple #[.int .i64 (X1 - X2), .int .i64 (Y1 - Y2)]) (by first | (simp [results, Tryd.results36, go_sem]; done) | (simp [results, Tryd.results36, go_sem, *]; done)) rfl ⟨rfl, ?_⟩
  repeat (first | exact Below.refl _ _ | exact HB2.out | refine Below.setCell ?_ (by first | (simp; done) | omega | (simp; omega)) _ | refine Below.alloc ?_ (by first | (simp; done) | omega | (simp; omega)) _ | refine bel_drew ?_)

set_option maxHeartbeats 1000000 in
theorem l07Seen_at (g g' : Nat) (s : ByteArray) (a b c : Int) (t : ByteArray) (x y z d m : Int) (h : planetB s a b c = true) (h' : planetB t x y z = true) (k : okM d m = true) (w : World) (p : Pl w g s a b c) (q : Pl w g' t x y z) :
    Calls Tryd.prog 34 #[.pointer (some ⟨g, 0, none⟩), .pointer (some ⟨g', 0, none⟩), .agg #[.int .i64 d, .int .i64 m]] w fun e w' => e = .returned (.int .i64 (dirI (wY a b c x y z d m) (wX a b c x y z d m))) ∧ Below w.heap.size w w' := by
  obtain ⟨_, ⟨b0, b1⟩, _⟩ := planet_bd s a b c h
  obtain ⟨_, ⟨y0, y1⟩, _⟩ := planet_bd t x y z h'
  have A1 := Lib.hid (fun w p q => l07Way_at g g' s a b c t x y z d m h h' k w p q)
  have q1 := wX_bd a b c x y z d m b0 b1 y0 y1
  have q2 := wY_bd a b c x y z d m b0 b1 y0 y1
  have PH := Lib.hid p
  have QH := Lib.hid q
  clear p q
  clear h h' k b0 b1 y0 y1
  have A2 := Lib.hid (fun w => l02Arc_any (wY a b c x y z d m) (wX a b c x y z d m) (by omega) (by omega) (by omega) (by omega) w)
  generalize wX a b c x y z d m = X at *
  generalize wY a b c x y z d m = Y at *
  generalize dirI Y X = R at *
  obtain ⟨W0, hW0⟩ : ∃ W0, W0 = w.alloc (.cells #[.int .i64 d, .int .i64 m] 31) := ⟨_, rfl⟩
  have HB0 : Hid (Below w.heap.size w W0) := Lib.hid (by rw [hW0]; exact (Below.refl _ _).alloc (Nat.le_refl _) _)
  have P0 := Lib.hid (PH.out.below HB0.out)
  have Q0 := Lib.hid (QH.out.below HB0.out)
  have M0 : Hid (Mo W0 w.heap.size d m) := Lib.hid (by rw [hW0]; exact Mo.new _ _ _ _)
  have HW := Lib.hid hW0
  clear hW0 PH QH
  go_enter Tryd.func34, Tryd.ntmps34
  obtain ⟨m0, m1⟩ := M0.out
  go_wp2_with fail
  rw [← HW.out]
  clear HW
  refine (A1.out _ P0.out Q0.out).mono ?_
  rintro e w1 ⟨rfl, hb⟩
  have P1 := Lib.hid (P0.out.below hb)
  have Q1 := Lib.hid (Q0.out.below hb)
  have M1 := Lib.hid (M0.out.below hb)
  have HB1 := Lib.hid (HB0.out.trans (hb.mono HB0.out.size))
  clear hb m0 m1
  obtain ⟨m0, m1⟩ := M1.out
  go_wp2_with fail
  refine (A2.out _).mono ?_
  rintro e w2 ⟨rfl, hb⟩
  have P2 := Lib.hid (P1.out.below hb)
  have Q2 := Lib.hid (Q1.out.below hb)
  have M2 := Lib.hid (M1.out.below hb)
  have HB2 := Lib.hid (HB1.out.trans (hb.mono HB1.out.size))
  clear hb m0 m1
  obtain ⟨m0, m1⟩ := M2.out
  go_wp2_with fail
  go_ret
  exact ⟨rfl, HB2.out⟩

set_option maxHeartbeats 2000000 in
theorem l07Ask_at (g g' : Nat) (s : ByteArray) (a b c : Int) (t : ByteArray) (x y z d m : Int) (w : World) (p : Pl w g s a b c) (q : Pl w g' t x y z) :
    Calls Tryd.prog 33 #[.pointer (some ⟨g, 0, none⟩), .pointer (some ⟨g', 0, none⟩), .agg #[.int .i64 d, .int .i64 m]] w fun e w' => e = .returned (.int .i64 (askP s a b c t x y z d m)) ∧ Below w.heap.size w w' := by
  unfold askP
  have I := Lib.hid (fun (w : World) g h0 h1 h2 h3 => l07One_at g 0 s a b c w h0 h1 h2 h3)
  have I' := Lib.hid (fun (w : World) g h0 h1 h2 h3 => l07One_at g 0 t x y z w h0 h1 h2 h3)
  have J := Lib.hid (fun w => l03Ok_any d m w)
  have A := Lib.hid (fun h h' k w p q => l07Way_at g g' s a b c t x y z d m h h' k w p q)
  have PH := Lib.hid p
  have QH := Lib.hid q
  clear p q
  cases hp : planetB s a b c with
  | false =>
    rw [if_neg (by simp)]
    rw [hp] at I
    clear hp A
    obtain ⟨W0, hW0⟩ : ∃ W0, W0 = w.alloc (.cells #[.int .i64 d, .int .i64 m] 31) := ⟨_, rfl⟩
    have HB0 : Hid (Below w.heap.size w W0) := Lib.hid (by rw [hW0]; exact (Below.refl _ _).alloc (Nat.le_refl _) _)
    have P0 := Lib.hid (PH.out.below HB0.out)
    have Q0 := Lib.hid (QH.out.below HB0.out)
    have M0 : Hid (Mo W0 w.heap.size d m) := Lib.hid (by rw [hW0]; exact Mo.new _ _ _ _)
    have HW := Lib.hid hW0
    clear hW0 PH QH
    go_enter Tryd.func33, Tryd.ntmps33
    obtain ⟨m0, m1⟩ := M0.out
    go_wp2_with fail
    rw [← HW.out]
    clear HW
    refine (I.out _ _ P0.out.c0 P0.out.c1 P0.out.c2 P0.out.c3).mono ?_
    rintro e w' ⟨rfl, rfl⟩
    go_wp2_with fail
    refine bodyPost_ret (v := .int .i64 1) (by first | (simp [results, Tryd.results33, go_sem]; done) | (simp [results, Tryd.results33, go_sem, *]; done)) rfl ⟨rfl, ?_⟩
    repeat (first | exact Below.refl _ _ | exact HB0.out | refine Below.setCell ?_ (by first | (simp; done) | omega | (simp; omega)) _ | refine Below.alloc ?_ (by first | (simp; done) | omega | (simp; omega)) _ | refine bel_drew ?_)
  | true =>
    rw [hp] at I
    cases hq : planetB t x y z with
    | false =>
      rw [if_neg (by simp)]
      rw [hq] at I'
      clear hp hq A
      obtain ⟨W0, hW0⟩ : ∃ W0, W0 = w.alloc (.cells #[.int .i64 d, .int .i64 m] 31) := ⟨_, rfl⟩
      have HB0 : Hid (Below w.heap.size w W0) := Lib.hid (by rw [hW0]; exact (Below.refl _ _).alloc (Nat.le_refl _) _)
      have P0 := Lib.hid (PH.out.below HB0.out)
      have Q0 := Lib.hid (QH.out.below HB0.out)
      have M0 : Hid (Mo W0 w.heap.size d m) := Lib.hid (by rw [hW0]; exact Mo.new _ _ _ _)
      have HW := Lib.hid hW0
      clear hW0 PH QH
      go_enter Tryd.func33, Tryd.ntmps33
      obtain ⟨m0, m1⟩ := M0.out
      go_wp2_with fail
      rw [← HW.out]
      clear HW
      refine (I.out _ _ P0.out.c0 P0.out.c1 P0.out.c2 P0.out.c3).mono ?_
      rintro e w' ⟨rfl, rfl⟩
      go_wp2_with fail
      refine (I'.out _ _ Q0.out.c0 Q0.out.c1 Q0.out.c2 Q0.out.c3).mono ?_
      rintro e w' ⟨rfl, rfl⟩
      go_wp2_with fail
      refine bodyPost_ret (v := .int .i64 1) (by first | (simp [results, Tryd.results33, go_sem]; done) | (simp [results, Tryd.results33, go_sem, *]; done)) rfl ⟨rfl, ?_⟩
      repeat (first | exact Below.refl _ _ | exact HB0.out | refine Below.setCell ?_ (by first | (simp; done) | omega | (simp; omega)) _ | refine Below.alloc ?_ (by first | (simp; done) | omega | (simp; omega)) _ | refine bel_drew ?_)
    | true =>
      rw [hq] at I'
      cases hm : okM d m with
      | false =>
        rw [if_neg (by simp)]
        rw [hm] at J
        clear hp hq hm A
        obtain ⟨W0, hW0⟩ : ∃ W0, W0 = w.alloc (.cells #[.int .i64 d, .int .i64 m] 31) := ⟨_, rfl⟩
        have HB0 : Hid (Below w.heap.size w W0) := Lib.hid (by rw [hW0]; exact (Below.refl _ _).alloc (Nat.le_refl _) _)
        have P0 := Lib.hid (PH.out.below HB0.out)
        have Q0 := Lib.hid (QH.out.below HB0.out)
        have M0 : Hid (Mo W0 w.heap.size d m) := Lib.hid (by rw [hW0]; exact Mo.new _ _ _ _)
        have HW := Lib.hid hW0
        clear hW0 PH QH
        go_enter Tryd.func33, Tryd.ntmps33
        obtain ⟨m0, m1⟩ := M0.out
        go_wp2_with fail
        rw [← HW.out]
        clear HW
        refine (I.out _ _ P0.out.c0 P0.out.c1 P0.out.c2 P0.out.c3).mono ?_
        rintro e w' ⟨rfl, rfl⟩
        go_wp2_with fail
        refine (I'.out _ _ Q0.out.c0 Q0.out.c1 Q0.out.c2 Q0.out.c3).mono ?_
        rintro e w' ⟨rfl, rfl⟩
        go_wp2_with fail
        refine (J.out _).mono ?_
        rintro e w1 ⟨rfl, hb⟩
        have P1 := Lib.hid (P0.out.below hb)
        have Q1 := Lib.hid (Q0.out.below hb)
        have M1 := Lib.hid (M0.out.below hb)
        have HB1 := Lib.hid (HB0.out.trans (hb.mono HB0.out.size))
        clear hb m0 m1
        obtain ⟨m0, m1⟩ := M1.out
        go_wp2_with fail
        refine bodyPost_ret (v := .int .i64 1) (by first | (simp [results, Tryd.results33, go_sem]; done) | (simp [results, Tryd.results33, go_sem, *]; done)) rfl ⟨rfl, ?_⟩
        repeat (first | exact Below.refl _ _ | exact HB1.out | refine Below.setCell ?_ (by first | (simp; done) | omega | (simp; omega)) _ | refine Below.alloc ?_ (by first | (simp; done) | omega | (simp; omega)) _ | refine bel_drew ?_)
      | true =>
        rw [if_pos ⟨rfl, rfl, rfl⟩]
        rw [hm] at J
        have A1 := Lib.hid (fun w p q => A.out hp hq hm w p q)
        clear hp hq hm A
        generalize wX a b c x y z d m = X at *
        generalize wY a b c x y z d m = Y at *
        by_cases hx : X = 0
        · subst hx
          by_cases hy : Y = 0
          · subst hy
            rw [if_pos ⟨rfl, rfl⟩]
            obtain ⟨W0, hW0⟩ : ∃ W0, W0 = w.alloc (.cells #[.int .i64 d, .int .i64 m] 31) := ⟨_, rfl⟩
            have HB0 : Hid (Below w.heap.size w W0) := Lib.hid (by rw [hW0]; exact (Below.refl _ _).alloc (Nat.le_refl _) _)
            have P0 := Lib.hid (PH.out.below HB0.out)
            have Q0 := Lib.hid (QH.out.below HB0.out)
            have M0 : Hid (Mo W0 w.heap.size d m) := Lib.hid (by rw [hW0]; exact Mo.new _ _ _ _)
            have HW := Lib.hid hW0
            clear hW0 PH QH
            go_enter Tryd.func33, Tryd.ntmps33
            obtain ⟨m0, m1⟩ := M0.out
            go_wp2_with fail
            rw [← HW.out]
            clear HW
            refine (I.out _ _ P0.out.c0 P0.out.c1 P0.out.c2 P0.out.c3).mono ?_
            rintro e w' ⟨rfl, rfl⟩
            go_wp2_with fail
            refine (I'.out _ _ Q0.out.c0 Q0.out.c1 Q0.out.c2 Q0.out.c3).mono ?_
            rintro e w' ⟨rfl, rfl⟩
            go_wp2_with fail
            refine (J.out _).mono ?_
            rintro e w1 ⟨rfl, hb⟩
            have P1 := Lib.hid (P0.out.below hb)
            have Q1 := Lib.hid (Q0.out.below hb)
            have M1 := Lib.hid (M0.out.below hb)
            have HB1 := Lib.hid (HB0.out.trans (hb.mono HB0.out.size))
            clear hb m0 m1
            obtain ⟨m0, m1⟩ := M1.out
            go_wp2_with fail
            refine (A1.out _ P1.out Q1.out).mono ?_
            rintro e w2 ⟨rfl, hb⟩
            have P2 := Lib.hid (P1.out.below hb)
            have Q2 := Lib.hid (Q1.out.below hb)
            have M2 := Lib.hid (M1.out.below hb)
            have HB2 := Lib.hid (HB1.out.trans (hb.mono HB1.out.size))
            clear hb m0 m1
            obtain ⟨m0, m1⟩ := M2.out
            go_wp2_with fail
            refine bodyPost_ret (v := .int .i64 6) (by first | (simp [results, Tryd.results33, go_sem]; done) | (simp [results, Tryd.results33, go_sem, *]; done)) rfl ⟨rfl, ?_⟩
            repeat (first | exact Below.refl _ _ | exact HB2.out | refine Below.setCell ?_ (by first | (simp; done) | omega | (simp; omega)) _ | refine Below.alloc ?_ (by first | (simp; done) | omega | (simp; omega)) _ | refine bel_drew ?_)
          · rw [if_neg (by omega)]
            have hy' : (Y == 0) = false := by simpa using hy
            obtain ⟨W0, hW0⟩ : ∃ W0, W0 = w.alloc (.cells #[.int .i64 d, .int .i64 m] 31) := ⟨_, rfl⟩
            have HB0 : Hid (Below w.heap.size w W0) := Lib.hid (by rw [hW0]; exact (Below.refl _ _).alloc (Nat.le_refl _) _)
            have P0 := Lib.hid (PH.out.below HB0.out)
            have Q0 := Lib.hid (QH.out.below HB0.out)
            have M0 : Hid (Mo W0 w.heap.size d m) := Lib.hid (by rw [hW0]; exact Mo.new _ _ _ _)
            have HW := Lib.hid hW0
            clear hW0 PH QH
            go_enter Tryd.func33, Tryd.ntmps33
            obtain ⟨m0, m1⟩ := M0.out
            go_wp2_with fail
            rw [← HW.out]
            clear HW
            refine (I.out _ _ P0.out.c0 P0.out.c1 P0.out.c2 P0.out.c3).mono ?_
            rintro e w' ⟨rfl, rfl⟩
            go_wp2_with fail
            refine (I'.out _ _ Q0.out.c0 Q0.out.c1 Q0.out.c2 Q0.out.c3).mono ?_
            rintro e w' ⟨rfl, rfl⟩
            go_wp2_with fail
            refine (J.out _).mono ?_
            rintro e w1 ⟨rfl, hb⟩
            have P1 := Lib.hid (P0.out.below hb)
            have Q1 := Lib.hid (Q0.out.below hb)
            have M1 := Lib.hid (M0.out.below hb)
            have HB1 := Lib.hid (HB0.out.trans (hb.mono HB0.out.size))
            clear hb m0 m1
            obtain ⟨m0, m1⟩ := M1.out
            go_wp2_with fail
            refine (A1.out _ P1.out Q1.out).mono ?_
            rintro e w2 ⟨rfl, hb⟩
            have P2 := Lib.hid (P1.out.below hb)
            have Q2 := Lib.hid (Q1.out.below hb)
            have M2 := Lib.hid (M1.out.below hb)
            have HB2 := Lib.hid (HB1.out.trans (hb.mono HB1.out.size))
            clear hb m0 m1
            obtain ⟨m0, m1⟩ := M2.out
            go_wp2_with fail
            refine bodyPost_ret (v := .int .i64 0) (by first | (simp [results, Tryd.results33, go_sem]; done) | (simp [results, Tryd.results33, go_sem, *]; done)) rfl ⟨rfl, ?_⟩
            repeat (first | exact Below.refl _ _ | exact HB2.out | refine Below.setCell ?_ (by first | (simp; done) | omega | (simp; omega)) _ | refine Below.alloc ?_ (by first | (simp; done) | omega | (simp; omega)) _ | refine bel_drew ?_)
        · rw [if_neg (by omega)]
          have hx' : (X == 0) = false := by simpa using hx
          obtain ⟨W0, hW0⟩ : ∃ W0, W0 = w.alloc (.cells #[.int .i64 d, .int .i64 m] 31) := ⟨_, rfl⟩
          have HB0 : Hid (Below w.heap.size w W0) := Lib.hid (by rw [hW0]; exact (Below.refl _ _).alloc (Nat.le_refl _) _)
          have P0 := Lib.hid (PH.out.below HB0.out)
          have Q0 := Lib.hid (QH.out.below HB0.out)
          have M0 : Hid (Mo W0 w.heap.size d m) := Lib.hid (by rw [hW0]; exact Mo.new _ _ _ _)
          have HW := Lib.hid hW0
          clear hW0 PH QH
          go_enter Tryd.func33, Tryd.ntmps33
          obtain ⟨m0, m1⟩ := M0.out
          go_wp2_with fail
          rw [← HW.out]
          clear HW
          refine (I.out _ _ P0.out.c0 P0.out.c1 P0.out.c2 P0.out.c3).mono ?_
          rintro e w' ⟨rfl, rfl⟩
          go_wp2_with fail
          refine (I'.out _ _ Q0.out.c0 Q0.out.c1 Q0.out.c2 Q0.out.c3).mono ?_
          rintro e w' ⟨rfl, rfl⟩
          go_wp2_with fail
          refine (J.out _).mono ?_
          rintro e w1 ⟨rfl, hb⟩
          have P1 := Lib.hid (P0.out.below hb)
          have Q1 := Lib.hid (Q0.out.below hb)
          have M1 := Lib.hid (M0.out.below hb)
          have HB1 := Lib.hid (HB0.out.trans (hb.mono HB0.out.size))
          clear hb m0 m1
          obtain ⟨m0, m1⟩ := M1.out
          go_wp2_with fail
          refine (A1.out _ P1.out Q1.out).mono ?_
          rintro e w2 ⟨rfl, hb⟩
          have P2 := Lib.hid (P1.out.below hb)
          have Q2 := Lib.hid (Q1.out.below hb)
          have M2 := Lib.hid (M1.out.below hb)
          have HB2 := Lib.hid (HB1.out.trans (hb.mono HB1.out.size))
          clear hb m0 m1
          obtain ⟨m0, m1⟩ := M2.out
          go_wp2_with fail
          refine bodyPost_ret (v := .int .i64 0) (by first | (simp [results, Tryd.results33, go_sem]; done) | (simp [results, Tryd.results33, go_sem, *]; done)) rfl ⟨rfl, ?_⟩
          repeat (first | exact Below.refl _ _ | exact HB2.out | refine Below.setCell ?_ (by first | (simp; done) | omega | (simp; omega)) _ | refine Below.alloc ?_ (by first | (simp; done) | omega | (simp; omega)) _ | refine bel_drew ?_)

end Go.Proofs.YtmdjogjcdjaafaaDoor
