/-
  Points of a dome: the contracts of checkUp, times, point, DomePoint (package impl), l09Point, DomePoint (package spec).
-/
import Derived.Test.YtcdmgkjaionjpaaDoorDome5
import Derived.StillTailTactics
namespace Go.Proofs.YtcdmgkjaionjpaaDoor
open Go.RowKit
set_option linter.unusedVariables false

def upL (ds : List (Int × Int)) : Bool := ds.all fun d => upB d.1 d.2
/-- The code for a dome and directions. -/
def check9 (s : ByteArray) (r b : Int) (ds : List (Int × Int)) : Int := if domeB s r b = true then (if upL ds = true then 0 else 2) else 1
theorem check9_one (s : ByteArray) (r b u v : Int) : check9 s r b [(u, v)] = ask9 s r b u v := by
  unfold check9 ask9 upL
  simp
def DirsAt (w : World) (g : Nat) (ds : List (Int × Int)) : Prop := ∀ j, (h : j < ds.length) → w.cell? ⟨g, j * 2, none⟩ = some (.int .i64 ds[j].1) ∧ w.cell? ⟨g, j * 2 + 1, none⟩ = some (.int .i64 ds[j].2)
theorem DirsAt.below {w w' : World} {g : Nat} {ds : List (Int × Int)} (h : DirsAt w g ds) (hb : Below w.heap.size w w') : DirsAt w' g ds := by
  intro j hj
  obtain ⟨h0, h1⟩ := h j hj
  have hl := World.block_lt_of_cell? w ⟨g, j * 2, none⟩ h0
  exact ⟨((bcell hb).1 _ _ hl).trans h0, ((bcell hb).1 _ _ hl).trans h1⟩
theorem upL_next (ds : List (Int × Int)) (j : Nat) (h : j < ds.length) (h1 : upL (ds.take j) = true) (h2 : upB ds[j].1 ds[j].2 = true) : upL (ds.take (j + 1)) = true := by
  unfold upL at h1 ⊢
  rw [List.take_add_one, List.getElem?_eq_getElem h, List.all_append, h1]
  simp [h2]
theorem upL_stop (ds : List (Int × Int)) (j : Nat) (h : j < ds.length) (h2 : upB ds[j].1 ds[j].2 = false) : upL ds = false := by
  unfold upL
  cases hx : ds.all fun d => upB d.1 d.2 with
  | false => rfl
  | true =>
    have := List.all_eq_true.1 hx ds[j] (List.getElem_mem h)
    rw [h2] at this
    cases this

set_option maxRecDepth 100000 in
set_option maxHeartbeats 2000000 in
theorem checkUp_any (s : ByteArray) (r b : Int) (hmax : s.size ≤ maxLen) (g cap : Nat) (ds : List (Int × Int)) (hn : ds.length ≤ 1000) (w : World) (hd : DirsAt w g ds) :
    Calls Tryd.prog 55 #[.agg #[.string s, .int .i64 r, .int .i64 b], .slice (some ⟨g, 0, none⟩) ds.length cap] w fun e w' => e = .returned (.int .i64 (check9 s r b ds)) ∧ Below w.heap.size w w' := by
  unfold check9
  have V := Lib.hid (fun w => validDome_any s r b hmax w)
  have HD := Lib.hid hd
  clear hmax hd
  cases hv : domeB s r b with
  | false =>
    rw [if_neg (by simp)]
    rw [hv] at V
    clear hv
    go_enter Tryd.func55, Tryd.ntmps55
    go_wp2_with fail
    refine (V.out _).mono ?_
    rintro e w1 ⟨rfl, hb⟩
    have hsw1 := hb.size
    try simp at hsw1
    obtain ⟨hcw1, hfw1⟩ := bcell hb
    have HBw1 : Hid (Below w.heap.size w w1) := by
      apply Lib.hid
      refine Below.trans ?_ (hb.mono ?_)
      · repeat (first | exact Below.refl _ _ | refine Below.setCell ?_ (by first | (simp; done) | omega | (simp; omega)) _ | refine Below.alloc ?_ (by first | (simp; done) | omega | (simp; omega)) _)
      · first | (simp; done) | omega | (simp; omega)
    have hzw1 : w.heap.size < w1.heap.size := by have := hb.size; (try simp at this); omega
    clear hb
    go_wp2_with fail
    go_ret
    refine ⟨rfl, ?_⟩
    repeat (first | exact Below.refl _ _ | exact HBw1.out | refine Below.setCell ?_ (by first | (simp; done) | omega | (simp; omega)) _ | refine Below.alloc ?_ (by first | (simp; done) | omega | (simp; omega)) _ | refine bel_drew ?_)
  | true =>
    rw [if_pos rfl]
    rw [hv] at V
    clear hv
    obtain ⟨C, hC⟩ : ∃ C : Int, C = if upL ds = true then 0 else 2 := ⟨_, rfl⟩
    rw [← hC]
    have HC := Lib.hid hC
    clear hC
    go_enter Tryd.func55, Tryd.ntmps55
    go_wp2_with fail
    refine (V.out _).mono ?_
    rintro e w1 ⟨rfl, hb⟩
    have HB1 := Lib.hid (((Below.refl _ w).alloc (Nat.le_refl _) _).trans (hb.mono (by simp)))
    clear hb V
    go_wp2_with fail
    go_loopg [12] (ds.length + 1) (fun kx s12 wr => ∃ j : Nat, s12 = .int .i64 (j : Int) ∧ j ≤ ds.length ∧ kx = ds.length + 1 - j ∧ Hid (upL (ds.take j) = true) ∧ Hid (Below w.heap.size w wr))
    case atStart => exact ⟨0, rfl, Nat.zero_le _, rfl, Lib.hid rfl, HB1⟩
    case round =>
      obtain ⟨j, rfl, hj, rfl, HO, HB⟩ := hrel
      by_cases hlt : j < ds.length
      · obtain ⟨c0, c1⟩ := (HD.out.below HB.out) j hlt
        have U := Lib.hid (fun w => isUp_any ds[j].1 ds[j].2 w)
        have NX := Lib.hid (upL_next ds j hlt HO.out)
        have ST := Lib.hid (upL_stop ds j hlt)
        have j0 : (0 : Int) ≤ (j : Int) := by omega
        have j1 : (j : Int) < (ds.length : Int) := by omega
        cases hu : upB ds[j].1 ds[j].2 with
        | false =>
          rw [hu] at U
          have hC2 : C = 2 := by rw [HC.out, ST.out hu]; rfl
          subst hC2
          clear hu NX ST
          generalize ds[j].1 = u at *
          generalize ds[j].2 = v at *
          go_wp2_with fail
          refine (U.out _).mono ?_
          rintro e w2 ⟨rfl, hb⟩
          have HB2 := Lib.hid ((HB.out.alloc HB.out.size _).trans (hb.mono (HB.out.alloc HB.out.size _).size))
          clear hb
          go_wp2_with fail
          go_ret
          exact ⟨rfl, HB2.out⟩
        | true =>
          rw [hu] at U
          have HN := Lib.hid (NX.out hu)
          clear hu NX ST
          generalize ds[j].1 = u at *
          generalize ds[j].2 = v at *
          go_wp2_with fail
          refine (U.out _).mono ?_
          rintro e w2 ⟨rfl, hb⟩
          have HB2 := Lib.hid ((HB.out.alloc HB.out.size _).trans (hb.mono (HB.out.alloc HB.out.size _).size))
          clear hb
          go_wp2_with fail
          go_roundg (ds.length + 1 - (j + 1))
          case measure => omega
          case rel => exact ⟨j + 1, by go_num, by omega, by omega, HN, HB2⟩
      · obtain rfl : j = ds.length := by omega
        have hC2 : C = 0 := by rw [HC.out, show upL ds = true by have := HO.out; rwa [List.take_length] at this]; rfl
        subst hC2
        go_wp2_with fail
        go_ret
        exact ⟨rfl, HB.out⟩

/-- The point of a dome in a direction. -/
def poX (r a h : Int) : Int := nearQ (r * dX (90000 - a) h) 1000000
def poY (r a h : Int) : Int := nearQ (r * dY (90000 - a) h) 1000000
def poZ (r a h : Int) : Int := nearQ (r * sinI h) 1000000
theorem po_bd (r x : Int) (r0 : 1000 ≤ r) (r1 : r ≤ 30000) (x0 : -1000000 ≤ x) (x1 : x ≤ 1000000) : -30000000000 ≤ r * x ∧ r * x ≤ 30000000000 := by
  have := pr_bd r x 30000 1000000 (by omega) (by omega) x0 x1
  omega
/-- What DomePoint returns. -/
def pointV (s : ByteArray) (r b u v : Int) : Value := if ask9 s r b u v = 0 then .tuple #[.agg #[.int .i64 (poX r u v), .int .i64 (poY r u v), .int .i64 (poZ r u v)], .int .i64 0] else .tuple #[.agg #[.int .i64 0, .int .i64 0, .int .i64 0], .int .i64 (ask9 s r b u v)]
theorem pointV_form (s : ByteArray) (r b u v : Int) : ∃ x y z c : Int, pointV s r b u v = .tuple #[.agg #[.int .i64 x, .int .i64 y, .int .i64 z], .int .i64 c] := by unfold pointV; split <;> exact ⟨_, _, _, _, rfl⟩

set_option maxHeartbeats 1000000 in
theorem times_any (x y z f : Int) (hx : -100000000000000 ≤ x * f ∧ x * f ≤ 100000000000000) (hy : -100000000000000 ≤ y * f ∧ y * f ≤ 100000000000000) (hz : -100000000000000 ≤ z * f ∧ z * f ≤ 100000000000000) (w : World) :
    Calls Tryd.prog 89 #[.agg #[.int .i64 x, .int .i64 y, .int .i64 z], .int .i64 f] w fun e w' => e = .returned (.agg #[.int .i64 (x * f), .int .i64 (y * f), .int .i64 (z * f)]) ∧ Below w.heap.size w w' := by
  have e1 : wrap64 (x * f) = x * f := IntWalk.wrap64_in _ (by omega)
  have e2 : wrap64 (y * f) = y * f := IntWalk.wrap64_in _ (by omega)
  have e3 : wrap64 (z * f) = z * f := IntWalk.wrap64_in _ (by omega)
  go_enter Tryd.func89, Tryd.ntmps89
  go_wp2_with fail
  refine bodyPost_ret (v := .agg #[.int .i64 (x * f), .int .i64 (y * f), .int .i64 (z * f)]) (by first | (simp [results, Tryd.results89, go_sem]; done) | (simp [results, Tryd.results89, go_sem, *]; done)) rfl ⟨rfl, ?_⟩
  repeat (first | exact Below.refl _ _ | refine Below.setCell ?_ (by first | (simp; done) | omega | (simp; omega)) _ | refine Below.alloc ?_ (by first | (simp; done) | omega | (simp; omega)) _ | refine bel_drew ?_)

set_option maxRecDepth 100000 in
set_option maxHeartbeats 2000000 in
theorem point_any (s : ByteArray) (r b a h : Int) (r0 : 1000 ≤ r) (r1 : r ≤ 30000) (a0 : 0 ≤ a) (a1 : a ≤ 359999) (h0 : -90000 ≤ h) (h1 : h ≤ 90000) (w : World) (hs : SinesOK w) :
    Calls Tryd.prog 56 #[.agg #[.string s, .int .i64 r, .int .i64 b], .agg #[.int .i64 a, .int .i64 h]] w fun e w' => e = .returned (.agg #[.int .i64 (poX r a h), .int .i64 (poY r a h), .int .i64 (poZ r a h)]) ∧ Below w.heap.size w w' := by
  have O := Lib.hid (fun w hs => overFloor_any a h a0 a1 h0 h1 w hs)
  have bx := po_bd r (dX (90000 - a) h) r0 r1 (dX_bd _ _).1 (dX_bd _ _).2
  have by' := po_bd r (dY (90000 - a) h) r0 r1 (dY_bd _ _).1 (dY_bd _ _).2
  have bz := po_bd r (sinI h) r0 r1 (sinI_bd _).1 (sinI_bd _).2
  unfold poX poY poZ
  rw [Int.mul_comm r (dX (90000 - a) h)] at bx ⊢
  rw [Int.mul_comm r (dY (90000 - a) h)] at by' ⊢
  rw [Int.mul_comm r (sinI h)] at bz ⊢
  have TI := Lib.hid (fun w => times_any (dX (90000 - a) h) (dY (90000 - a) h) (sinI h) r (by omega) (by omega) (by omega) w)
  have Q := Lib.hid (fun w => quotients_any (dX (90000 - a) h * r) (dY (90000 - a) h * r) (sinI h * r) 1000000 w (by omega) (by omega) (by omega) (by omega) (by omega) (by omega) (by omega) (by omega))
  have VC := Lib.hid (fun w => vector_any (nearQ (dX (90000 - a) h * r) 1000000) (nearQ (dY (90000 - a) h * r) 1000000) (nearQ (sinI h * r) 1000000) w)
  clear bx by' bz
  generalize nearQ (dX (90000 - a) h * r) 1000000 = X at *
  generalize nearQ (dY (90000 - a) h * r) 1000000 = Y at *
  generalize nearQ (sinI h * r) 1000000 = Z at *
  generalize dX (90000 - a) h * r = p at *
  generalize dY (90000 - a) h * r = q at *
  generalize sinI h * r = k at *
  generalize dX (90000 - a) h = x at *
  generalize dY (90000 - a) h = y at *
  generalize sinI h = z at *
  obtain ⟨W0, hW0⟩ : ∃ W0, W0 = (((w.alloc (.cells #[.string s, .int .i64 r, .int .i64 b] 37)).alloc (.cells #[.int .i64 a, .int .i64 h] 57)).alloc (.cells #[.int .i64 0, .int .i64 0, .int .i64 0] 41)) := ⟨_, rfl⟩
  have K0 : Hid (W0.cell? ⟨w.heap.size, 1, none⟩ = some (.int .i64 r) ∧ W0.cell? ⟨w.heap.size + 1, 0, none⟩ = some (.int .i64 a) ∧ W0.cell? ⟨w.heap.size + 1, 1, none⟩ = some (.int .i64 h) ∧ Below w.heap.size w W0) := Lib.hid (by rw [hW0]; exact ⟨by rw [World.cell?_alloc_lt _ _ _ (by first | (simp; done) | (simp; omega)), World.cell?_alloc_lt _ _ _ (by first | (simp; done) | (simp; omega))]; first | (simp; done) | (rw [World.cell?_alloc_at _ _ _ _ (by first | (simp; done) | (simp; omega))]; rfl), by rw [World.cell?_alloc_lt _ _ _ (by first | (simp; done) | (simp; omega))]; first | (simp; done) | (rw [World.cell?_alloc_at _ _ _ _ (by first | (simp; done) | (simp; omega))]; rfl), by rw [World.cell?_alloc_lt _ _ _ (by first | (simp; done) | (simp; omega))]; first | (simp; done) | (rw [World.cell?_alloc_at _ _ _ _ (by first | (simp; done) | (simp; omega))]; rfl), by repeat (first | exact Below.refl _ _ | refine Below.alloc ?_ (by first | (simp; done) | (simp; omega)) _)⟩)
  have SZ : Hid (W0.heap.size = w.heap.size + 1 + 1 + 1) := Lib.hid (by rw [hW0]; simp)
  have R0 : Hid (C3 W0 (w.heap.size + 1 + 1) 0 0 0) := Lib.hid (by rw [hW0]; simpa using C3.new ((w.alloc (.cells #[.string s, .int .i64 r, .int .i64 b] 37)).alloc (.cells #[.int .i64 a, .int .i64 h] 57)) 41 0 0 0)
  have HW := Lib.hid hW0
  clear hW0
  have FD := fldF
  have E0 := Lib.hid (hs.below K0.out.2.2.2)
  clear hs r0 r1 a0 a1 h0 h1
  go_enter Tryd.func56, Tryd.ntmps56
  obtain ⟨k0, k1, k2, k3⟩ := K0.out
  go_wp2_with fail
  rw [← HW.out]
  clear HW
  go_region_held3 (fun w' => w'.cell? ⟨w.heap.size, 1, none⟩ = some (.int .i64 r) ∧ w'.cell? ⟨w.heap.size + 1, 0, none⟩ = some (.int .i64 a) ∧ w'.cell? ⟨w.heap.size + 1, 1, none⟩ = some (.int .i64 h) ∧ Below w.heap.size w w') (first | (exact keepW3 K0.out (bel_drew (Below.refl _ _))) | (exact keepW3 K0.out y4) | (exact keepW3 K0.out y3) | (exact keepW3 K0.out y2) | (exact keepW3 K0.out y1) | (exact setW3 (setW3 (setW3 (keepW3 K0.out y4) (by omega) (by omega) (by omega) (by omega)) (by omega) (by omega) (by omega) (by omega)) (by omega) (by omega) (by omega) (by omega)) | go_keep) ((first
    | (go_at_call 85; (with_reducible refine (O.out _ (E0.out.below (bel_drew (Below.refl _ _)))).mono ?_); rintro e x1 ⟨rfl, hx1⟩; have y1 := undrewG hx1)
    | (go_at_call 89; (with_reducible refine (TI.out _).mono ?_); rintro e x2 ⟨rfl, hx2⟩; have y2 := y1.trans (hx2.mono y1.size))
    | (go_at_call 90; (with_reducible refine (Q.out _).mono ?_); rintro e x3 ⟨rfl, hx3⟩; have y3 := y2.trans (hx3.mono y2.size))
    | (go_at_call 91; (with_reducible refine (VC.out _).mono ?_); rintro e x4 ⟨rfl, hx4⟩; have y4 := y3.trans (hx4.mono y3.size); have rr := R0.out.on y4; obtain ⟨r0, r1, r2, r3, r4, r5⟩ := rr)))
  rename_i held
  have HB := Lib.hid held.2.2.2
  clear held
  go_wp2_with fail
  refine bodyPost_ret (v := .agg #[.int .i64 X, .int .i64 Y, .int .i64 Z]) (by first | (simp [results, Tryd.results56, go_sem]; done) | (simp [results, Tryd.results56, go_sem, *]; done)) rfl ⟨rfl, ?_⟩
  repeat (first | exact Below.refl _ _ | exact HB.out | refine Below.setCell ?_ (by first | (simp; done) | omega | (simp; omega)) _ | refine Below.alloc ?_ (by first | (simp; done) | omega | (simp; omega)) _ | refine bel_drew ?_)

set_option maxRecDepth 100000 in
set_option maxHeartbeats 2000000 in
theorem implPoint_any (s : ByteArray) (r b u v : Int) (hmax : s.size ≤ maxLen) (fu : fits u) (fv : fits v) (w : World) (hs : SinesOK w) :
    Calls Tryd.prog 25 #[.agg #[.string s, .int .i64 r, .int .i64 b], .int .i64 u, .int .i64 v] w fun e w' => e = .returned (pointV s r b u v) ∧ Below w.heap.size w w' := by
  unfold pointV
  have CK : Hid (∀ (g cap : Nat) (W : World), W.cell? ⟨g, 0, none⟩ = some (.int .i64 u) → W.cell? ⟨g, 1, none⟩ = some (.int .i64 v) → Calls Tryd.prog 55 #[.agg #[.string s, .int .i64 r, .int .i64 b], .slice (some ⟨g, 0, none⟩) 1 cap] W fun e w' => e = .returned (.int .i64 (ask9 s r b u v)) ∧ Below W.heap.size W w') := Lib.hid (fun g cap W c0 c1 => by
    have := checkUp_any s r b hmax g cap [(u, v)] (by simp) W (fun j hj => by
      match j, hj with
      | 0, _ => exact ⟨c0, c1⟩)
    rw [check9_one] at this
    exact this)
  have E := Lib.hid hs
  clear hs hmax fu fv
  obtain ⟨W0, hW0⟩ : ∃ W0, W0 = (((w.alloc (.cells #[.string s, .int .i64 r, .int .i64 b] 37)).alloc (.cells #[.int .i64 0, .int .i64 0, .int .i64 0] 41)).alloc (.cells #[.int .i64 u, .int .i64 v] 57)) := ⟨_, rfl⟩
  have K0 : Hid (W0.cell? ⟨w.heap.size, 0, none⟩ = some (.string s) ∧ W0.cell? ⟨w.heap.size, 1, none⟩ = some (.int .i64 r) ∧ W0.cell? ⟨w.heap.size, 2, none⟩ = some (.int .i64 b) ∧ W0.cell? ⟨w.heap.size + 1 + 1, 0, none⟩ = some (.int .i64 u) ∧ W0.cell? ⟨w.heap.size + 1 + 1, 1, none⟩ = some (.int .i64 v) ∧ Below w.heap.size w W0) := Lib.hid (by rw [hW0]; exact ⟨by rw [World.cell?_alloc_lt _ _ _ (by first | (simp; done) | (simp; omega)), World.cell?_alloc_lt _ _ _ (by first | (simp; done) | (simp; omega))]; first | (simp; done) | (rw [World.cell?_alloc_at _ _ _ _ (by first | (simp; done) | (simp; omega))]; rfl), by rw [World.cell?_alloc_lt _ _ _ (by first | (simp; done) | (simp; omega)), World.cell?_alloc_lt _ _ _ (by first | (simp; done) | (simp; omega))]; first | (simp; done) | (rw [World.cell?_alloc_at _ _ _ _ (by first | (simp; done) | (simp; omega))]; rfl), by rw [World.cell?_alloc_lt _ _ _ (by first | (simp; done) | (simp; omega)), World.cell?_alloc_lt _ _ _ (by first | (simp; done) | (simp; omega))]; first | (simp; done) | (rw [World.cell?_alloc_at _ _ _ _ (by first | (simp; done) | (simp; omega))]; rfl), by first | (simp; done) | (rw [World.cell?_alloc_at _ _ _ _ (by first | (simp; done) | (simp; omega))]; rfl), by first | (simp; done) | (rw [World.cell?_alloc_at _ _ _ _ (by first | (simp; done) | (simp; omega))]; rfl), by repeat (first | exact Below.refl _ _ | refine Below.alloc ?_ (by first | (simp; done) | (simp; omega)) _)⟩)
  have SZ : Hid (W0.heap.size = w.heap.size + 1 + 1 + 1) := Lib.hid (by rw [hW0]; simp)
  have R0 : Hid (C3 W0 (w.heap.size + 1) 0 0 0) := Lib.hid (by rw [hW0]; simpa using (C3.new (w.alloc (.cells #[.string s, .int .i64 r, .int .i64 b] 37)) 41 0 0 0).alloc (by simp) (.cells #[.int .i64 u, .int .i64 v] 57))
  have HW := Lib.hid hW0
  clear hW0
  by_cases hk : ask9 s r b u v = 0
  · rw [if_pos hk]
    obtain ⟨hd, hu⟩ := (ask9_0 _ _ _ _ _).1 hk
    rw [hk] at CK
    obtain ⟨⟨u0, u1⟩, v0, v1⟩ := upB_bd hu
    have hr := (domeB_bd hd).1
    have P := Lib.hid (fun w hs => point_any s r b u v hr.1 hr.2 u0 u1 (by omega) v1 w hs)
    clear hk hd hu hr
    generalize poX r u v = x at *
    generalize poY r u v = y at *
    generalize poZ r u v = z at *
    go_enter Tryd.func25, Tryd.ntmps25
    obtain ⟨k0, k1, k2, k3, k4, k5⟩ := K0.out
    go_wp2_with fail
    rw [← HW.out]
    clear HW
    refine (CK.out _ _ _ (by rw [World.cell?_alloc_at _ _ _ _ (by first | (simp [SZ.out]; done) | (rw [SZ.out]))]; rfl) (by rw [World.cell?_alloc_at _ _ _ _ (by first | (simp [SZ.out]; done) | (rw [SZ.out]))]; rfl)).mono ?_
    rintro e w1 ⟨rfl, hb⟩
    have hb0 := ((Below.refl _ W0).alloc (Nat.le_refl _) _).trans (hb.mono (by simp))
    have K1 := Lib.hid (keepW5 K0.out hb0)
    have R1 := Lib.hid (R0.out.on hb0)
    clear hb hb0 k0 k1 k2 k3 k4 k5
    obtain ⟨k0, k1, k2, k3, k4, k5⟩ := K1.out
    have HB1 := Lib.hid k5
    go_wp2_with fail
    refine (P.out _ (E.out.below HB1.out)).mono ?_
    rintro e w2 ⟨rfl, hb⟩
    have R2 := R1.out.on hb
    have HB2 := Lib.hid (HB1.out.trans (hb.mono HB1.out.size))
    clear hb k0 k1 k2 k3 k4 k5
    obtain ⟨r0, r1, r2, r3, r4, r5⟩ := R2
    go_wp2_with fail
    refine bodyPost_ret (v := .tuple #[.agg #[.int .i64 x, .int .i64 y, .int .i64 z], .int .i64 0]) (by first | (simp [results, Tryd.results25, go_sem]; done) | (simp [results, Tryd.results25, go_sem, *]; done)) rfl ⟨rfl, ?_⟩
    repeat (first | exact Below.refl _ _ | exact HB2.out | refine Below.setCell ?_ (by first | (simp; done) | omega | (simp; omega)) _ | refine Below.alloc ?_ (by first | (simp; done) | omega | (simp; omega)) _ | refine bel_drew ?_)
  · rw [if_neg hk]
    generalize ask9 s r b u v = c at *
    have hc : (c != 0) = true := by simpa using hk
    have hc2 : (c == 0) = false := by simpa using hk
    clear hk
    go_enter Tryd.func25, Tryd.ntmps25
    obtain ⟨k0, k1, k2, k3, k4, k5⟩ := K0.out
    go_wp2_with fail
    rw [← HW.out]
    clear HW
    refine (CK.out _ _ _ (by rw [World.cell?_alloc_at _ _ _ _ (by first | (simp [SZ.out]; done) | (rw [SZ.out]))]; rfl) (by rw [World.cell?_alloc_at _ _ _ _ (by first | (simp [SZ.out]; done) | (rw [SZ.out]))]; rfl)).mono ?_
    rintro e w1 ⟨rfl, hb⟩
    have hb0 := ((Below.refl _ W0).alloc (Nat.le_refl _) _).trans (hb.mono (by simp))
    have K1 := Lib.hid (keepW5 K0.out hb0)
    have R1 := Lib.hid (R0.out.on hb0)
    clear hb hb0 k0 k1 k2 k3 k4 k5
    obtain ⟨k0, k1, k2, k3, k4, k5⟩ := K1.out
    have HB1 := Lib.hid k5
    obtain ⟨r0, r1, r2, r3, r4, r5⟩ := R1.out
    go_wp2_with fail
    refine bodyPost_ret (v := .tuple #[.agg #[.int .i64 0, .int .i64 0, .int .i64 0], .int .i64 c]) (by first | (simp [results, Tryd.results25, go_sem]; done) | (simp [results, Tryd.results25, go_sem, *]; done)) rfl ⟨rfl, ?_⟩
    repeat (first | exact Below.refl _ _ | exact HB1.out | refine Below.setCell ?_ (by first | (simp; done) | omega | (simp; omega)) _ | refine Below.alloc ?_ (by first | (simp; done) | omega | (simp; omega)) _ | refine bel_drew ?_)

set_option maxRecDepth 100000 in
set_option maxHeartbeats 2000000 in
theorem l09Point_at (g : Nat) (r a h : Int) (r0 : 1000 ≤ r) (r1 : r ≤ 30000) (a0 : 0 ≤ a) (a1 : a ≤ 359999) (h0 : -90000 ≤ h) (h1 : h ≤ 90000) (w : World) (c1 : w.cell? ⟨g, 1, none⟩ = some (.int .i64 r)) :
    Calls Tryd.prog 54 #[.pointer (some ⟨g, 0, none⟩), .int .i64 a, .int .i64 h] w fun e w' => e = .returned (.agg #[.int .i64 (poX r a h), .int .i64 (poY r a h), .int .i64 (poZ r a h)]) ∧ Below w.heap.size w w' := by
  have nb := nrm_bd (90000 - a)
  have N1 := Lib.hid (fun w => l02Normal_any (90000 - a) w (by omega) (by omega))
  have D := Lib.hid (fun w => l04Direction_any (nrm (90000 - a)) h (by omega) (by omega) (by omega) (by omega) w)
  change Hid (∀ w, Calls Tryd.prog 82 #[.int .i64 (nrm (90000 - a)), .int .i64 h] w fun e w' => e = .returned (.agg #[.int .i64 (dX (nrm (90000 - a)) h), .int .i64 (dY (nrm (90000 - a)) h), .int .i64 (sinI h)]) ∧ Below w.heap.size w w') at D
  rw [dX_nrm, dY_nrm] at D
  have bx := po_bd r (dX (90000 - a) h) r0 r1 (dX_bd _ _).1 (dX_bd _ _).2
  have by' := po_bd r (dY (90000 - a) h) r0 r1 (dY_bd _ _).1 (dY_bd _ _).2
  have bz := po_bd r (sinI h) r0 r1 (sinI_bd _).1 (sinI_bd _).2
  unfold poX poY poZ
  have Q1 := Lib.hid (fun w => l01Div_any (r * dX (90000 - a) h) 1000000 w (by omega) (by omega) (by omega) (by omega) (by omega))
  have Q2 := Lib.hid (fun w => l01Div_any (r * dY (90000 - a) h) 1000000 w (by omega) (by omega) (by omega) (by omega) (by omega))
  have Q3 := Lib.hid (fun w => l01Div_any (r * sinI h) 1000000 w (by omega) (by omega) (by omega) (by omega) (by omega))
  have m1 : IntKind.i64.wrap (r * dX (90000 - a) h) = r * dX (90000 - a) h := IntWalk.i64_in _ (by omega)
  have m2 : IntKind.i64.wrap (r * dY (90000 - a) h) = r * dY (90000 - a) h := IntWalk.i64_in _ (by omega)
  have m3 : IntKind.i64.wrap (r * sinI h) = r * sinI h := IntWalk.i64_in _ (by omega)
  clear bx by' bz
  generalize nearQ (r * dX (90000 - a) h) 1000000 = X at *
  generalize nearQ (r * dY (90000 - a) h) 1000000 = Y at *
  generalize nearQ (r * sinI h) 1000000 = Z at *
  generalize dX (90000 - a) h = x at *
  generalize dY (90000 - a) h = y at *
  generalize sinI h = z at *
  generalize nrm (90000 - a) = n at *
  have R0 := Lib.hid (C3.new w 41 0 0 0)
  have K0 : Hid ((w.alloc (.cells #[.int .i64 0, .int .i64 0, .int .i64 0] 41)).cell? ⟨g, 1, none⟩ = some (.int .i64 r)) := Lib.hid (by rw [World.cell?_alloc_lt _ _ _ (World.block_lt_of_cell? w ⟨g, 1, none⟩ c1)]; exact c1)
  clear c1 r0 r1
  go_enter Tryd.func54, Tryd.ntmps54
  go_wp2_with fail
  refine (N1.out _).mono ?_
  rintro e w' ⟨rfl, rfl⟩
  go_wp2_with fail
  refine (D.out _).mono ?_
  rintro e w1 ⟨rfl, hb⟩
  have HB1 : Hid (Below w.heap.size w w1) := Lib.hid (((Below.refl _ _).alloc (Nat.le_refl _) _).trans (hb.mono (by simp)))
  have R1 := Lib.hid ((R0.out.on hb).alloc (R0.out.on hb).lt (.cells #[.int .i64 x, .int .i64 y, .int .i64 z] 41))
  have V1 := Lib.hid (C3.new w1 41 x y z)
  have k0 := ((bcell hb).1 _ _ (World.block_lt_of_cell? _ _ K0.out)).trans K0.out
  have k1 : (w1.alloc (.cells #[.int .i64 x, .int .i64 y, .int .i64 z] 41)).cell? ⟨g, 1, none⟩ = some (.int .i64 r) := by rw [World.cell?_alloc_lt _ _ _ (World.block_lt_of_cell? _ _ k0)]; exact k0
  have HB2 := Lib.hid (HB1.out.alloc HB1.out.size (.cells #[.int .i64 x, .int .i64 y, .int .i64 z] 41))
  have hgl := World.block_lt_of_cell? w1 ⟨w.heap.size, 0, none⟩ (R0.out.on hb).c0
  clear hb k0
  obtain ⟨W2, hW2⟩ : ∃ W2, W2 = w1.alloc (.cells #[.int .i64 x, .int .i64 y, .int .i64 z] 41) := ⟨_, rfl⟩
  rw [← hW2] at R1 V1 k1 HB2
  have HW := Lib.hid hW2
  clear hW2
  obtain ⟨v0, v1, v2, _, _, _⟩ := V1.out
  obtain ⟨q0, q1, q2, q3, q4, q5⟩ := R1.out
  go_wp2_with fail
  rw [← HW.out]
  refine wp_region_still_tail 25 (by kernel_rfl) (by kernel_rfl) ?_
  simp only [List.take_succ_cons, List.take_zero, List.drop_succ_cons, List.drop_zero]
  repeat still_step
  still_call (quiet_w (Q1.out _))
  repeat still_step
  still_call (quiet_w (Q2.out _))
  repeat still_step
  still_call (quiet_w (Q3.out _))
  repeat still_step
  refine wpStill_nil ?_
  clear k1 v0 v1 v2 Q1 Q2 Q3 m1 m2 m3
  go_wp2_with fail
  refine bodyPost_ret (v := .agg #[.int .i64 X, .int .i64 Y, .int .i64 Z]) (by first | (simp [results, Tryd.results54, go_sem]; done) | (simp [results, Tryd.results54, go_sem, *]; done)) rfl ⟨rfl, ?_⟩
  repeat (first | exact Below.refl _ _ | exact HB2.out | refine Below.setCell ?_ (by first | (simp; done) | omega | (simp; omega)) _ | refine Below.alloc ?_ (by first | (simp; done) | omega | (simp; omega)) _ | refine bel_drew ?_)

set_option maxHeartbeats 1000000 in
theorem specPoint_any (s : ByteArray) (r b u v : Int) (fu : fits u) (fv : fits v) (w : World) :
    Calls Tryd.prog 24 #[.agg #[.string s, .int .i64 r, .int .i64 b], .int .i64 u, .int .i64 v] w fun e w' => e = .returned (pointV s r b u v) ∧ Below w.heap.size w w' := by
  unfold pointV
  have CK := Lib.hid (fun (w : World) g c0 c1 c2 => l09Ask_at g 0 s r b u v w c0 c1 c2)
  by_cases h : ask9 s r b u v = 0
  · rw [if_pos h]
    obtain ⟨hd, hu⟩ := (ask9_0 _ _ _ _ _).1 h
    rw [h] at CK
    obtain ⟨⟨u0, u1⟩, v0, v1⟩ := upB_bd hu
    have hr := (domeB_bd hd).1
    have P := Lib.hid (fun (w : World) g c1 => l09Point_at g r u v hr.1 hr.2 u0 u1 (by omega) v1 w c1)
    clear h hd hu hr
    generalize poX r u v = x at *
    generalize poY r u v = y at *
    generalize poZ r u v = z at *
    go_enter Tryd.func24, Tryd.ntmps24
    go_wp2_with fail
    refine (CK.out _ _ (by simp) (by simp) (by simp)).mono ?_
    rintro e w' ⟨rfl, rfl⟩
    go_wp2_with fail
    refine (P.out _ _ (by simp)).mono ?_
    rintro e w1 ⟨rfl, hb⟩
    have R1 := (by simpa using C3.new (w.alloc (.cells #[.string s, .int .i64 r, .int .i64 b] 37)) 41 0 0 0 : C3 _ (w.heap.size + 1) 0 0 0).stays hb (by simp)
    have HB1 : Hid (Below w.heap.size w w1) := Lib.hid (Below.trans (by repeat (first | exact Below.refl _ _ | refine Below.alloc ?_ (by first | (simp; done) | omega | (simp; omega)) _)) (hb.mono (by simp; omega)))
    clear hb
    obtain ⟨r0, r1, r2, r3, r4, r5⟩ := R1
    go_wp2_with fail
    refine bodyPost_ret (v := .tuple #[.agg #[.int .i64 x, .int .i64 y, .int .i64 z], .int .i64 0]) (by first | (simp [results, Tryd.results24, go_sem]; done) | (simp [results, Tryd.results24, go_sem, *]; done)) rfl ⟨rfl, ?_⟩
    repeat (first | exact Below.refl _ _ | exact HB1.out | refine Below.setCell ?_ (by first | (simp; done) | omega | (simp; omega)) _ | refine Below.alloc ?_ (by first | (simp; done) | omega | (simp; omega)) _ | refine bel_drew ?_)
  · rw [if_neg h]
    generalize ask9 s r b u v = k at *
    have hk : (k == 0) = false := by simpa using h
    have hk2 : (k != 0) = true := by simpa using h
    clear h
    go_enter Tryd.func24, Tryd.ntmps24
    go_wp2_with fail
    refine (CK.out _ _ (by simp) (by simp) (by simp)).mono ?_
    rintro e w' ⟨rfl, rfl⟩
    go_wp2_with fail
    refine bodyPost_ret (v := .tuple #[.agg #[.int .i64 0, .int .i64 0, .int .i64 0], .int .i64 k]) (by first | (simp [results, Tryd.results24, go_sem]; done) | (simp [results, Tryd.results24, go_sem, *]; done)) rfl ⟨rfl, ?_⟩
    repeat (first | exact Below.refl _ _ | refine Below.setCell ?_ (by first | (simp; done) | omega | (simp; omega)) _ | refine Below.alloc ?_ (by first | (simp; done) | omega | (simp; omega)) _ | refine bel_drew ?_)
end Go.Proofs.YtcdmgkjaionjpaaDoor
