/-
  Distances of stars: the contracts of towards (both), distanceOf (package impl) and of l05Apart (package spec).
  Distances of stars: the contracts of towards of a star and of distanceOf (package impl).
  The distances of a list of stars from a direction (package impl).
  The altitudes of a list of stars over a site (packages impl and spec).
  The altitude of a star over a site (package spec).
  VisibleLines (package impl).
  VisibleLines (package spec).
  VisibleLines: what it answers is not long.
-/
import Derived.Test.YtjghopepgfgebaaGreatDoorStarI
import Derived.Test.YtjghopepgfgebaaGreatDoorDir
import Derived.Test.YtjghopepgfgebaaGreatDoorSSep
import Derived.Test.YtjghopepgfgebaaGreatDoorTow
import Derived.Handy
import Derived.Test.YtjghopepgfgebaaGreatDoorSep
import Derived.Test.YtjghopepgfgebaaGreatDoorHorB
import Derived.Deep.RegionHeld3
import Derived.Deep.Cut
import Derived.Test.YtjghopepgfgebaaGreatDoorFigB
import Derived.Deep.OwnRows
import Derived.Deep.AppendLies
import Derived.Deep.LoopGhost
import Derived.WalkMore
namespace Go.Proofs.YtjghopepgfgebaaGreatDoor
section
open Go.RowKit
set_option linter.unusedVariables false

def fstI : Value → Int
  | .tuple #[.int _ n, _] => n
  | _ => 0
def sepN (a b : Int × Int × Int) : Int := fstI (sepV a.1 a.2.1 a.2.2 b.1 b.2.1 b.2.2)
theorem sepN_eq (a b : Int × Int × Int) : ∃ d : Int, sepV a.1 a.2.1 a.2.2 b.1 b.2.1 b.2.2 = .tuple #[.int .i64 (sepN a b), .int .i64 d] := by
  obtain ⟨p, q, h⟩ := sepV_form a.1 a.2.1 a.2.2 b.1 b.2.1 b.2.2
  refine ⟨q, ?_⟩
  unfold sepN
  rw [h]
  rfl
theorem fin_Near1 : True := trivial
end

section
open Go.RowKit
set_option linter.unusedVariables false

theorem starTow_any (s : ByteArray) (a b c e : Int) (fa : fits a) (w : World) (hs : SinesOK w) :
    Calls Tryz.prog 204 #[.agg #[.string s, .int .i64 a, .int .i64 b, .int .i64 c, .int .i64 e]] w fun r w' => r = .returned (.agg #[.int .i64 ((dirT a b).1), .int .i64 ((dirT a b).2.1), .int .i64 ((dirT a b).2.2)]) ∧ Below w.heap.size w w' := by
  have D := Lib.hid (fun w => starDir_any s a b c e w)
  have T := Lib.hid (fun w hs => dirTow_any a b fa w hs)
  have E := Lib.hid hs
  clear hs fa
  generalize (dirT a b).1 = x at *
  generalize (dirT a b).2.1 = y at *
  generalize (dirT a b).2.2 = z at *
  go_enter Tryz.func204, Tryz.ntmps204
  go_wp2_with fail
  refine (D.out _).mono ?_
  rintro r w1 ⟨rfl, hb⟩
  have h1 : Below w.heap.size w w1 := (((Below.refl _ w).alloc (Nat.le_refl _) _).alloc (by simp) _).trans (hb.mono (by first | (simp; done) | (simp; omega)))
  have q0 : w1.cell? ⟨w.heap.size + 1, 0, none⟩ = some (.int .i64 0) := (hb.cell (p := ⟨w.heap.size + 1, 0, none⟩) (by simp)).trans (by simp)
  have q1 : w1.cell? ⟨w.heap.size + 1, 1, none⟩ = some (.int .i64 0) := (hb.cell (p := ⟨w.heap.size + 1, 1, none⟩) (by simp)).trans (by simp)
  have q2 : w1.cell? ⟨w.heap.size + 1, 2, none⟩ = some (.int .i64 0) := (hb.cell (p := ⟨w.heap.size + 1, 2, none⟩) (by simp)).trans (by simp)
  have p0 : w1.frozen? ⟨w.heap.size + 1, 0, none⟩ = false := (hb.frozen (p := ⟨w.heap.size + 1, 0, none⟩) (by simp)).trans (by simp)
  have p1 : w1.frozen? ⟨w.heap.size + 1, 1, none⟩ = false := (hb.frozen (p := ⟨w.heap.size + 1, 1, none⟩) (by simp)).trans (by simp)
  have p2 : w1.frozen? ⟨w.heap.size + 1, 2, none⟩ = false := (hb.frozen (p := ⟨w.heap.size + 1, 2, none⟩) (by simp)).trans (by simp)
  have hs1 : w.heap.size + 1 < w1.heap.size := by have := hb.size; simp at this; omega
  have H1 := Lib.hid h1
  clear hb h1 D
  go_wp2_with fail
  refine (T.out _ (E.out.below H1.out)).mono ?_
  rintro r w2 ⟨rfl, hb⟩
  have Q0 := (hb.cell (p := ⟨w.heap.size + 1, 0, none⟩) hs1).trans q0
  have Q1 := (hb.cell (p := ⟨w.heap.size + 1, 1, none⟩) hs1).trans q1
  have Q2 := (hb.cell (p := ⟨w.heap.size + 1, 2, none⟩) hs1).trans q2
  have P0 := (hb.frozen (p := ⟨w.heap.size + 1, 0, none⟩) hs1).trans p0
  have P1 := (hb.frozen (p := ⟨w.heap.size + 1, 1, none⟩) hs1).trans p1
  have P2 := (hb.frozen (p := ⟨w.heap.size + 1, 2, none⟩) hs1).trans p2
  have H2 := Lib.hid (H1.out.trans (hb.mono H1.out.size))
  clear hb T q0 q1 q2 p0 p1 p2
  obtain ⟨r0, r1, r2⟩ := set3N (x := .int .i64 x) (y := .int .i64 y) (z := .int .i64 z) Q0 Q1 Q2
  go_wp2_with fail
  exact bodyPost_ret (v := .agg #[.int .i64 x, .int .i64 y, .int .i64 z]) (by simp [results, Tryz.results204, go_sem, r0, r1, r2]) rfl ⟨rfl, ((H2.out.setCell (by simp) _).setCell (by simp) _).setCell (by simp) _⟩

/-- A sight as a value: a direction or a star. -/
def sightD (a b : Int) : Value := .iface 76 (.agg #[.int .i64 a, .int .i64 b])
def sightS (s : ByteArray) (a b c e : Int) : Value := .iface 49 (.agg #[.string s, .int .i64 a, .int .i64 b, .int .i64 c, .int .i64 e])

theorem distSD_any (s : ByteArray) (a b c e : Int) (fa : fits a) (p q : Int) (fp : fits p) (w : World) (hs : SinesOK w) :
    Calls Tryz.prog 68 #[sightS s a b c e, sightD p q] w fun r w' => r = .returned (.int .i64 (sepN (dirT a b) (dirT p q))) ∧ Below w.heap.size w w' := by
  obtain ⟨d, hd⟩ := sepN_eq (dirT a b) (dirT p q)
  have S := Lib.hid (fun w hs => starTow_any s a b c e fa w hs)
  have T := Lib.hid (fun w hs => dirTow_any p q fp w hs)
  have F := Lib.hid (fun w hs => implSep_any (dirT a b).1 (dirT a b).2.1 (dirT a b).2.2 (dirT p q).1 (dirT p q).2.1 (dirT p q).2.2 w hs)
  rw [hd] at F
  have E := Lib.hid hs
  clear hs hd fa fp
  generalize sepN (dirT a b) (dirT p q) = n at *
  generalize (dirT a b).1 = x at *
  generalize (dirT a b).2.1 = y at *
  generalize (dirT a b).2.2 = z at *
  generalize (dirT p q).1 = x' at *
  generalize (dirT p q).2.1 = y' at *
  generalize (dirT p q).2.2 = z' at *
  unfold sightS sightD
  go_enter Tryz.func68, Tryz.ntmps68
  go_wp2_with fail
  refine (S.out _ E.out).mono ?_
  rintro r w1 ⟨rfl, hb⟩
  have H1 := Lib.hid hb
  clear hb S
  go_wp2_with fail
  refine (T.out _ (E.out.below H1.out)).mono ?_
  rintro r w2 ⟨rfl, hb⟩
  have H2 := Lib.hid (H1.out.trans (hb.mono H1.out.size))
  clear hb T
  go_wp2_with fail
  refine (F.out _ (E.out.below H2.out)).mono ?_
  rintro r w3 ⟨rfl, hb⟩
  have H3 := Lib.hid (H2.out.trans (hb.mono H2.out.size))
  clear hb F
  go_wp2_with fail
  exact bodyPost_ret (v := .int .i64 n) (by simp [results, Tryz.results68, go_sem]) rfl ⟨rfl, H3.out⟩
theorem fin_Near2 : True := trivial
end

section
open Go.RowKit
set_option linter.unusedVariables false

def distF (zs : List StarV) (p q : Int) (j : Nat) : Int := sepN (dirT (zs.getD j star0).a (zs.getD j star0).b) (dirT p q)

theorem info_i64 : (Tryz.prog.info? 2).map (fun i => (i.zero, i.size, i.bytes)) = some (some (.int .i64 0), 1, 8) := by kernel_rfl
theorem ints_make (n : Nat) (hn : n ≤ 1048577) (w : World) :
    (Instr.makeSlice 27 (.int .i64 (n : Int)) (.int .i64 (n : Int))).run Tryz.prog w = .ok (.slice (some ⟨w.heap.size, 0, none⟩) n n) (w.alloc (.cells (madeCells #[.int .i64 0] n) 2)) := by
  obtain ⟨i, hi, hzz⟩ := Option.map_eq_some_iff.1 info_i64
  simp only [Prod.mk.injEq] at hzz
  obtain ⟨hz, hs, hb⟩ := hzz
  have hr := run_make (P := Tryz.prog) w 27 2 i _ Tryz.underlying27 hi hz .i64 .i64 (n : Int) (n : Int) (by omega) (Int.le_refl _) (by rw [hb]; omega) (by omega)
  simp only [Int.toNat_natCast, hs, Nat.mul_one] at hr
  exact hr

def IRow (w : World) (g n : Nat) (f : Nat → Int) : Prop := w.rowIs g 2 n (fun k => .int .i64 (f k))
def upTo (f : Nat → Int) (j k : Nat) : Int := if k < j then f k else 0
theorem upTo_set {w : World} {g n : Nat} {f : Nat → Int} {j : Nat} (h : IRow w g n (upTo f j)) {v : Int} (hv : v = f j) : IRow (w.setCell ⟨g, j, none⟩ (.int .i64 v)) g n (upTo f (j + 1)) := by
  refine World.rowIs.congr (World.rowIs.set h j (.int .i64 v)) (fun k _ => ?_)
  unfold upTo
  by_cases c : k = j
  · subst c
    rw [if_pos rfl, if_pos (by omega), hv]
  · rw [if_neg c]
    by_cases d : k < j
    · rw [if_pos d, if_pos (by omega)]
    · rw [if_neg d, if_neg (by omega)]

theorem fin_Near3 : True := trivial
end

section
open Go.RowKit
set_option linter.unusedVariables false

/-- The altitude of the star at a place. -/
def altN (b sid : Int) (x : StarV) : Int := latI (hoP b (x.a - sid) x.b) (hoQ b (x.a - sid) x.b) (hoR b (x.a - sid) x.b)
def altF (b sid : Int) (zs : List StarV) (j : Nat) : Int := altN b sid (zs.getD j star0)
/-- A star's direction is one. -/
def Dirs (zs : List StarV) : Prop := ∀ j, (h : j < zs.length) → 0 ≤ zs[j].a ∧ zs[j].a ≤ 360000 ∧ -90000 ≤ zs[j].b ∧ zs[j].b ≤ 90000

theorem keepAlt {W0 W W' : World} {B X : Nat} {v0 v1 v2 v3 u0 u1 u2 u3 u4 : Value} (h : W.cell? ⟨B, 0, none⟩ = some v0 ∧ W.cell? ⟨B, 1, none⟩ = some v1 ∧ W.cell? ⟨B, 2, none⟩ = some v2 ∧ W.cell? ⟨B, 3, none⟩ = some v3 ∧ W.cell? ⟨X, 0, none⟩ = some u0 ∧ W.cell? ⟨X, 1, none⟩ = some u1 ∧ W.cell? ⟨X, 2, none⟩ = some u2 ∧ W.cell? ⟨X, 3, none⟩ = some u3 ∧ W.cell? ⟨X, 4, none⟩ = some u4 ∧ Below W0.heap.size W0 W) (hb : Below W.heap.size W W') :
    W'.cell? ⟨B, 0, none⟩ = some v0 ∧ W'.cell? ⟨B, 1, none⟩ = some v1 ∧ W'.cell? ⟨B, 2, none⟩ = some v2 ∧ W'.cell? ⟨B, 3, none⟩ = some v3 ∧ W'.cell? ⟨X, 0, none⟩ = some u0 ∧ W'.cell? ⟨X, 1, none⟩ = some u1 ∧ W'.cell? ⟨X, 2, none⟩ = some u2 ∧ W'.cell? ⟨X, 3, none⟩ = some u3 ∧ W'.cell? ⟨X, 4, none⟩ = some u4 ∧ Below W0.heap.size W0 W' := by
  obtain ⟨h0, h1, h2, h3, k0, k1, k2, k3, k4, hB⟩ := h
  have l0 := World.block_lt_of_cell? W ⟨B, 0, none⟩ h0
  have l1 := World.block_lt_of_cell? W ⟨X, 0, none⟩ k0
  obtain ⟨c, _⟩ := bcell hb
  exact ⟨(c _ _ l0).trans h0, (c _ _ l0).trans h1, (c _ _ l0).trans h2, (c _ _ l0).trans h3, (c _ _ l1).trans k0, (c _ _ l1).trans k1, (c _ _ l1).trans k2, (c _ _ l1).trans k3, (c _ _ l1).trans k4, hB.trans (hb.mono hB.size)⟩

set_option maxRecDepth 100000 in
set_option maxHeartbeats 4000000 in
theorem altitudes_any (s : ByteArray) (a b sid : Int) (g cap : Nat) (zs : List StarV) (p0 : -90000 ≤ b) (p1 : b ≤ 90000) (s0 : 0 ≤ sid) (s1 : sid ≤ 360000) (w : World) (hs : SinesOK w) (hb : zs.length ≤ 1048577) (h1 : Row w g zs) (hd : Dirs zs) :
    Calls Tryz.prog 33 #[.agg #[.string s, .int .i64 a, .int .i64 b, .int .i64 sid], .slice (some ⟨g, 0, none⟩) zs.length cap] w fun e w' => e = .returned (.slice (some ⟨w.heap.size + 1, 0, none⟩) zs.length zs.length) ∧ IRow w' (w.heap.size + 1) zs.length (altF b sid zs) ∧ Below w.heap.size w w' := by
  have H1 := Lib.hid h1
  have DS := Lib.hid hd
  have E := Lib.hid hs
  have hmk := ints_make zs.length hb
  have MADE : Hid (IRow ((w.alloc (.cells #[.string s, .int .i64 a, .int .i64 b, .int .i64 sid] 57)).alloc (.cells (madeCells #[.int .i64 0] zs.length) 2)) (w.heap.size + 1) zs.length (upTo (altF b sid zs) 0)) := Lib.hid (by
    have h := World.rowIs.congr (World.rowIs_made (w.alloc (.cells #[.string s, .int .i64 a, .int .i64 b, .int .i64 sid] 57)) (.int .i64 0) zs.length 2) (g := fun k => .int .i64 (upTo (altF b sid zs) 0 k)) (fun _ _ => rfl)
    unfold IRow
    simpa using h)
  have SKY : Hid (((w.alloc (.cells #[.string s, .int .i64 a, .int .i64 b, .int .i64 sid] 57)).alloc (.cells (madeCells #[.int .i64 0] zs.length) 2)).cell? ⟨w.heap.size, 0, none⟩ = some (.string s) ∧ ((w.alloc (.cells #[.string s, .int .i64 a, .int .i64 b, .int .i64 sid] 57)).alloc (.cells (madeCells #[.int .i64 0] zs.length) 2)).cell? ⟨w.heap.size, 1, none⟩ = some (.int .i64 a) ∧ ((w.alloc (.cells #[.string s, .int .i64 a, .int .i64 b, .int .i64 sid] 57)).alloc (.cells (madeCells #[.int .i64 0] zs.length) 2)).cell? ⟨w.heap.size, 2, none⟩ = some (.int .i64 b) ∧ ((w.alloc (.cells #[.string s, .int .i64 a, .int .i64 b, .int .i64 sid] 57)).alloc (.cells (madeCells #[.int .i64 0] zs.length) 2)).cell? ⟨w.heap.size, 3, none⟩ = some (.int .i64 sid)) := Lib.hid (by
    refine ⟨?_, ?_, ?_, ?_⟩ <;> (rw [World.cell?_alloc_lt _ _ _ (by simp)]; simp))
  have HB0 : Hid (Below w.heap.size w ((w.alloc (.cells #[.string s, .int .i64 a, .int .i64 b, .int .i64 sid] 57)).alloc (.cells (madeCells #[.int .i64 0] zs.length) 2))) := Lib.hid (((Below.refl _ w).alloc (Nat.le_refl _) _).alloc (by simp) _)
  clear h1 hd hs
  go_enter Tryz.func33, Tryz.ntmps33
  go_wp2_with fail
  clear hmk
  go_loopg [15] (zs.length + 1) (fun kx s15 wr => ∃ j : Nat, s15 = .int .i64 (j : Int) ∧ j ≤ zs.length ∧ kx = zs.length + 1 - j ∧ Hid (IRow wr (w.heap.size + 1) zs.length (upTo (altF b sid zs) j)) ∧ Hid (wr.cell? ⟨w.heap.size, 0, none⟩ = some (.string s) ∧ wr.cell? ⟨w.heap.size, 1, none⟩ = some (.int .i64 a) ∧ wr.cell? ⟨w.heap.size, 2, none⟩ = some (.int .i64 b) ∧ wr.cell? ⟨w.heap.size, 3, none⟩ = some (.int .i64 sid)) ∧ Hid (Below w.heap.size w wr))
  case atStart => exact ⟨0, rfl, Nat.zero_le _, rfl, MADE, SKY, HB0⟩
  case round =>
    obtain ⟨j, rfl, hj, rfl, HI, HK, HB⟩ := hrel
    by_cases hlt : j < zs.length
    · obtain ⟨c0, c1, c2, c3, c4⟩ := (H1.out.below HB.out).at j hlt
      obtain ⟨r0, r1, d0, d1⟩ := DS.out j hlt
      have hn : Hid (altN b sid zs[j] = altF b sid zs j) := Lib.hid (by unfold altF; rw [getD_at zs j hlt])
      unfold altN at hn
      generalize zs[j] = x at *
      obtain ⟨xs, xa, xb, xc, xd⟩ := x
      simp only at c0 c1 c2 c3 c4 r0 r1 d0 d1 hn
      have HO := Lib.hid (fun w hs => horiz_any s a b sid xa xb p0 p1 s0 s1 r0 r1 d0 d1 w hs)
      have LA := Lib.hid (fun w hs => latitude_any (hoP b (xa - sid) xb) (hoQ b (xa - sid) xb) (hoR b (xa - sid) xb) (ho_ni _ _ _) w hs)
      have SD := Lib.hid (fun w => starDir_any xs xa xb xc xd w)
      generalize hoP b (xa - sid) xb = P at *
      generalize hoQ b (xa - sid) xb = Q at *
      generalize hoR b (xa - sid) xb = R at *
      have j0 : (0 : Int) ≤ (j : Int) := by omega
      have j1 : (j : Int) < (zs.length : Int) := by omega
      have rsz : w.heap.size + 1 < wr.heap.size := HI.out.lt
      obtain ⟨W0, hW0⟩ : ∃ W0, W0 = wr.alloc (.cells #[.string xs, .int .i64 xa, .int .i64 xb, .int .i64 xc, .int .i64 xd] 49) := ⟨_, rfl⟩
      have hb0 : Below wr.heap.size wr W0 := by rw [hW0]; exact (Below.refl _ _).alloc (Nat.le_refl _) _
      have K0 : Hid (W0.cell? ⟨w.heap.size, 0, none⟩ = some (.string s) ∧ W0.cell? ⟨w.heap.size, 1, none⟩ = some (.int .i64 a) ∧ W0.cell? ⟨w.heap.size, 2, none⟩ = some (.int .i64 b) ∧ W0.cell? ⟨w.heap.size, 3, none⟩ = some (.int .i64 sid) ∧ W0.cell? ⟨wr.heap.size, 0, none⟩ = some (.string xs) ∧ W0.cell? ⟨wr.heap.size, 1, none⟩ = some (.int .i64 xa) ∧ W0.cell? ⟨wr.heap.size, 2, none⟩ = some (.int .i64 xb) ∧ W0.cell? ⟨wr.heap.size, 3, none⟩ = some (.int .i64 xc) ∧ W0.cell? ⟨wr.heap.size, 4, none⟩ = some (.int .i64 xd) ∧ Below W0.heap.size W0 W0) := Lib.hid (by
        obtain ⟨k0, k1, k2, k3⟩ := HK.out
        obtain ⟨c, _⟩ := bcell hb0
        have l : w.heap.size < wr.heap.size := by omega
        refine ⟨(c _ _ l).trans k0, (c _ _ l).trans k1, (c _ _ l).trans k2, (c _ _ l).trans k3, ?_, ?_, ?_, ?_, ?_, Below.refl _ _⟩ <;> (rw [hW0]; simp))
      have HW := Lib.hid hW0
      have HB1 := Lib.hid (HB.out.trans (hb0.mono HB.out.size))
      have RW0 : Hid (IRow W0 (w.heap.size + 1) zs.length (upTo (altF b sid zs) j)) := Lib.hid (HI.out.of_block (hb0.block _ HI.out.lt))
      have wsz : wr.heap.size < W0.heap.size := by rw [hW0]; simp
      clear hW0 hb0
      go_wp2_with fail
      rw [← HW.out]
      clear HW c0 c1 c2 c3 c4 HI HK HB
      have E0 := Lib.hid (E.out.below HB1.out)
      obtain ⟨k0, k1, k2, k3, m0, m1, m2, m3, m4, _⟩ := K0.out
      go_cut [8, 9] from 20 to 32 (fun sp sc wx => ∃ r : Nat, sp = .pointer (some ⟨r, 0, none⟩) ∧ sc = .int .i64 0 ∧ Hid (C3 wx r P Q R) ∧ Hid (Below W0.heap.size W0 wx))
      case first =>
        go_region_held3 (fun w' => w'.cell? ⟨w.heap.size, 0, none⟩ = some (.string s) ∧ w'.cell? ⟨w.heap.size, 1, none⟩ = some (.int .i64 a) ∧ w'.cell? ⟨w.heap.size, 2, none⟩ = some (.int .i64 b) ∧ w'.cell? ⟨w.heap.size, 3, none⟩ = some (.int .i64 sid) ∧ w'.cell? ⟨wr.heap.size, 0, none⟩ = some (.string xs) ∧ w'.cell? ⟨wr.heap.size, 1, none⟩ = some (.int .i64 xa) ∧ w'.cell? ⟨wr.heap.size, 2, none⟩ = some (.int .i64 xb) ∧ w'.cell? ⟨wr.heap.size, 3, none⟩ = some (.int .i64 xc) ∧ w'.cell? ⟨wr.heap.size, 4, none⟩ = some (.int .i64 xd) ∧ Below W0.heap.size W0 w') (first | (exact keepAlt K0.out (bel_drew (Below.refl _ _))) | (exact keepAlt K0.out y2) | (exact keepAlt K0.out y1) | (exact keepAlt K0.out (y2.alloc y2.size _)) | (exact keepAlt K0.out (y1.alloc y1.size _)) | (exact keepAlt K0.out ((bel_drew (Below.refl _ _)).alloc (Nat.le_refl _) _)) | (exact keepAlt K0.out (((y2.setCell y2.size _).setCell y2.size _).setCell y2.size _)) | (exact keepAlt K0.out (((y2.setCell y1.size _).setCell y1.size _).setCell y1.size _)) | (exact keepAlt K0.out (((y2.setCell (Nat.le_refl _) _).setCell (Nat.le_refl _) _).setCell (Nat.le_refl _) _)) | go_keep) ((first
          | (go_at_call 52; (with_reducible refine (SD.out _).mono ?_); rintro e x1 ⟨rfl, hx1⟩; (first | have y1 := undrewD hx1 | have y1 := undrewA hx1 | have y1 := undrew hx1))
          | (go_at_call 56; (with_reducible refine (HO.out _ (SinesOK.below E0.out (by first | exact y1 | exact y1.alloc y1.size _))).mono ?_); rintro e x2 ⟨rfl, hx2⟩; (first | have y2 := onwardA y1 hx2 | have y2 := onward y1 hx2); (first | (have r := C3.late hx2; have rr := Lib.hid r; obtain ⟨q0, q1, q2, q3, q4, q5⟩ := r) | (have r := (C3.late hx1).on hx2; have rr := Lib.hid r; obtain ⟨q0, q1, q2, q3, q4, q5⟩ := r) | (have r := (C3.lateD hx1).on hx2; have rr := Lib.hid r; obtain ⟨q0, q1, q2, q3, q4, q5⟩ := r) | skip))))
        all_goals
          rename_i held
          have S1 := Lib.hid held.2.2.2.2.2.2.2.2.2
          clear held
          go_wp2_with fail
          go_meet
          case rel => first | exact ⟨_, rfl, rfl, Lib.hid (C3.new _ _ _ _ _), S1⟩ | exact ⟨_, rfl, rfl, Lib.hid (C3.stored rr.out _ _ _), S1⟩
      case rest =>
        obtain ⟨q, rfl, rfl, CQ, S2⟩ := hcut
        obtain ⟨q0, q1, q2, _, _, _⟩ := CQ.out
        have HB2 := Lib.hid (HB1.out.trans (S2.out.mono HB1.out.size))
        clear m0 m1 m2 m3 m4
        obtain ⟨k0, k1, k2, k3, _⟩ := keepAlt K0.out S2.out
        have HK2 := Lib.hid (And.intro k0 (And.intro k1 (And.intro k2 k3)))
        have RX := Lib.hid (RW0.out.of_block (S2.out.block _ RW0.out.lt))
        have XB := Lib.hid S2.out
        clear K0 RW0 S2 CQ
        go_wp2_with fail
        refine (LA.out _ (E.out.below HB2.out)).mono ?_
        rintro e w3 ⟨rfl, hb3⟩
        have HB3 := Lib.hid (HB2.out.trans (hb3.mono HB2.out.size))
        have R3 : IRow w3 (w.heap.size + 1) zs.length (upTo (altF b sid zs) j) := World.rowIs.of_block RX.out (hb3.block _ (World.rowIs.lt RX.out))
        have HK3 : Hid (w3.cell? ⟨w.heap.size, 0, none⟩ = some (.string s) ∧ w3.cell? ⟨w.heap.size, 1, none⟩ = some (.int .i64 a) ∧ w3.cell? ⟨w.heap.size, 2, none⟩ = some (.int .i64 b) ∧ w3.cell? ⟨w.heap.size, 3, none⟩ = some (.int .i64 sid)) := Lib.hid (by
          obtain ⟨c, _⟩ := bcell hb3
          have l := World.block_lt_of_cell? _ _ k0
          exact ⟨(c _ _ l).trans k0, (c _ _ l).trans k1, (c _ _ l).trans k2, (c _ _ l).trans k3⟩)
        have cj := R3.cell hlt
        have fj := R3.frozen j
        have HR := Lib.hid R3
        clear hb3 R3 k0 k1 k2 k3 q0 q1 q2
        go_wp2_with fail
        go_roundg (zs.length + 1 - (j + 1))
        case measure => omega
        case rel =>
          refine ⟨j + 1, by go_num, by omega, by omega, Lib.hid (upTo_set HR.out hn.out), ?_, Lib.hid (HB3.out.setCell (Nat.le_succ _) _)⟩
          obtain ⟨k0, k1, k2, k3⟩ := HK3.out
          have kk : Below (w.heap.size + 1) w3 (w3.setCell ⟨w.heap.size + 1, j, none⟩ (.int .i64 (latI P Q R))) := by
            refine Below.setCell (Below.refl _ w3) ?_ _
            exact Nat.le_refl _
          exact Lib.hid ⟨(kk.cell (p := ⟨w.heap.size, 0, none⟩) (Nat.lt_succ_self _)).trans k0, (kk.cell (p := ⟨w.heap.size, 1, none⟩) (Nat.lt_succ_self _)).trans k1, (kk.cell (p := ⟨w.heap.size, 2, none⟩) (Nat.lt_succ_self _)).trans k2, (kk.cell (p := ⟨w.heap.size, 3, none⟩) (Nat.lt_succ_self _)).trans k3⟩
    · obtain rfl : j = zs.length := by omega
      go_wp2_with fail
      go_ret
      exact ⟨rfl, World.rowIs.congr HI.out (fun k hk => by unfold upTo; rw [if_pos hk]), HB.out⟩
theorem fin_Alt : True := trivial
end

section
open Go.RowKit
set_option linter.unusedVariables false

theorem keepAl2 {W0 W W' : World} {B o o' : Nat} {v0 v1 : Value} (h : W.cell? ⟨B, o, none⟩ = some v0 ∧ W.cell? ⟨B, o', none⟩ = some v1 ∧ Below W0.heap.size W0 W) (hb : Below W.heap.size W W') :
    W'.cell? ⟨B, o, none⟩ = some v0 ∧ W'.cell? ⟨B, o', none⟩ = some v1 ∧ Below W0.heap.size W0 W' := by
  obtain ⟨h0, h1, hB⟩ := h
  have l0 := World.block_lt_of_cell? W ⟨B, o, none⟩ h0
  obtain ⟨c, _⟩ := bcell hb
  exact ⟨(c _ _ l0).trans h0, (c _ _ l0).trans h1, hB.trans (hb.mono hB.size)⟩

set_option maxRecDepth 100000 in
set_option maxHeartbeats 2000000 in
theorem l06Alt_any (g o : Nat) (x : StarV) (phi sid : Int) (p0 : -90000 ≤ phi) (p1 : phi ≤ 90000) (s0 : 0 ≤ sid) (s1 : sid ≤ 360000) (r0 : 0 ≤ x.a) (r1 : x.a ≤ 360000) (d0 : -90000 ≤ x.b) (d1 : x.b ≤ 90000) (w : World) (h1 : w.cell? ⟨g, o + 1, none⟩ = some (.int .i64 x.a)) (h2 : w.cell? ⟨g, o + 2, none⟩ = some (.int .i64 x.b)) :
    Calls Tryz.prog 24 #[.int .i64 phi, .int .i64 sid, .pointer (some ⟨g, o, none⟩)] w fun e w' => e = .returned (.int .i64 (altN phi sid x)) ∧ Below w.heap.size w w' := by
  have V := Lib.hid (fun w => l06Vector_any phi sid x.a x.b p0 p1 s0 s1 r0 r1 d0 d1 w)
  have L := Lib.hid (fun w => l04Angles_any (hoP phi (x.a - sid) x.b) (hoQ phi (x.a - sid) x.b) (hoR phi (x.a - sid) x.b) (ho_ni _ _ _) w)
  unfold altN
  have K : Hid (w.cell? ⟨g, o + 1, none⟩ = some (.int .i64 x.a) ∧ w.cell? ⟨g, o + 2, none⟩ = some (.int .i64 x.b) ∧ Below w.heap.size w w) := Lib.hid ⟨h1, h2, Below.refl _ w⟩
  generalize hoP phi (x.a - sid) x.b = P at *
  generalize hoQ phi (x.a - sid) x.b = Q at *
  generalize hoR phi (x.a - sid) x.b = R at *
  generalize x.a = xa at *
  generalize x.b = xb at *
  clear p0 p1 s0 s1 r0 r1 d0 d1
  go_enter Tryz.func24, Tryz.ntmps24
  go_wp2_with fail
  go_region_held3 (fun w' => w'.cell? ⟨g, o + 1, none⟩ = some (.int .i64 xa) ∧ w'.cell? ⟨g, o + 2, none⟩ = some (.int .i64 xb) ∧ Below w.heap.size w w') (first | (exact keepAl2 K.out (bel_drew (Below.refl _ _))) | (exact keepAl2 K.out y2) | (exact keepAl2 K.out y1) | go_keep) ((first
    | (go_at_call 48; (with_reducible refine (V.out _).mono ?_); rintro e x1 ⟨rfl, hx1⟩; have y1 := undrew hx1)
    | (go_at_call 47; (with_reducible refine (L.out _).mono ?_); rintro e x2 ⟨rfl, hx2⟩; have y2 := y1.trans (hx2.mono y1.size))))
  all_goals
    rename_i held
    have S1 := Lib.hid held.2.2
    clear held
    go_wp2_with fail
    go_ret
    exact ⟨rfl, S1.out⟩
theorem fin_Alt2 : True := trivial
end

section
open Go.RowKit
set_option linter.unusedVariables false

/-- Both ends of a line are up. -/
def seenB (f : Nat → Int) (ls : List (List Int)) (j : Nat) : Bool := decide (0 ≤ f ((ls.getD j []).getD 0 0).toNat) && decide (0 ≤ f ((ls.getD j []).getD 1 0).toNat)
def seenL (f : Nat → Int) (ls : List (List Int)) : Nat → List Int
  | 0 => []
  | n + 1 => if seenB f ls n = true then seenL f ls n ++ [(n : Int)] else seenL f ls n
theorem seenL_len (f : Nat → Int) (ls : List (List Int)) (n : Nat) : (seenL f ls n).length ≤ n := by
  induction n with
  | zero => exact Nat.le_refl _
  | succ n ih =>
    unfold seenL
    split
    · rw [List.length_append]
      simp only [List.length_cons, List.length_nil]
      omega
    · omega
/-- What VisibleLines answers. -/
def visLV (zs : List StarV) (s : ByteArray) (ls : List (List Int)) (t : ByteArray) (lo la sid : Int) : List Int × Int :=
  if figV zs s ls = true then (if siteB t lo la = true then (if inR 0 359999 [sid] = true then (seenL (altF la sid zs) ls ls.length, 0) else ([], 2)) else ([], 1)) else ([], 1)
def VisPost (r : List Int × Int) (w : World) (e : Ending) (w' : World) : Prop :=
  ∃ v, e = .returned (.tuple #[v, .int .i64 r.2]) ∧ w'.ownsRow w.heap.size 2 1 v r.1.length (r.1.map (Value.int .i64)) ∧ Below w.heap.size w w'
theorem figV_okV {zs : List StarV} {s : ByteArray} {ls : List (List Int)} (h : figV zs s ls = true) : okL zs = true ∧ ls.length ≤ 16 ∧ ∀ j, (hj : j < ls.length) → ∃ a c : Nat, ls[j] = [(a : Int), (c : Int)] ∧ a < zs.length ∧ c < zs.length ∧ a < c := by
  unfold figV figB linesB at h
  simp only [Bool.and_eq_true, decide_eq_true_eq] at h
  obtain ⟨h1, _, h2, h3⟩ := h
  refine ⟨h1, h3, fun j hj => ?_⟩
  have hl := okF_line _ ls _ j h2 hj
  rw [getL_at ls j hj] at hl
  obtain ⟨a, c, hac⟩ := lineB_two hl
  rw [hac] at hl ⊢
  have e : lineB (zs.length : Int) [a, c] = (inR 0 ((zs.length : Int) - 1) [a, c] && decide (a < c)) := rfl
  rw [e, inR_2] at hl
  simp only [Bool.and_eq_true, inR_1, decide_eq_true_eq] at hl
  exact ⟨a.toNat, c.toNat, by rw [Int.toNat_of_nonneg (by omega), Int.toNat_of_nonneg (by omega)], by omega, by omega, by omega⟩
theorem okL_goodV {zs : List StarV} (h : okL zs = true) (j : Nat) (hj : j < zs.length) : zs[j].good = true := by
  unfold okL at h
  simp only [Bool.and_eq_true] at h
  have h1 := h.1
  unfold okZ at h1
  rw [List.all_eq_true] at h1
  have h2 := h1 j (List.mem_range.2 hj)
  unfold stepB at h2
  rw [getD_at zs j hj] at h2
  simp only [Bool.and_eq_true] at h2
  exact h2.1
theorem good_dir {x : StarV} (h : x.good = true) : 0 ≤ x.a ∧ x.a ≤ 360000 ∧ -90000 ≤ x.b ∧ x.b ≤ 90000 := by
  unfold StarV.good starB dirB at h
  simp only [Bool.and_eq_true, inR_1, decide_eq_true_eq] at h
  omega
theorem ownsRow_belowV {B : Nat} {w w' : World} {e : TypeId} {v : Value} {n : Nat} {xs : List Value} (h : w.ownsRow B e 1 v n xs) (hb : Below w.heap.size w w') : w'.ownsRow B e 1 v n xs :=
  h.kept (⟨hb.os, hb.tape, hb.output, hb.size, fun k hk _ => hb.block k hk⟩ : w.grownBy w' none) (by cases hv : v.ownBlock <;> simp)
theorem own_belowV {B : Nat} {w0 w w1 : World} {e : TypeId} {v : Value} {n : Nat} {xs : List Value} {o : Obj} (hown : w.ownsRow B e 1 v n xs) (hb : Below B w0 w) (hB : B ≤ w.heap.size)
    (hg : (w.alloc o).grownBy w1 v.ownBlock) : Below B w0 w1 ∧ B ≤ w1.heap.size := by
  refine ⟨(hb.alloc hB o).grown hg (by simp; omega) (fun k hk => (hown.lt k hk).1), ?_⟩
  have := hg.size
  simp at this
  omega
theorem one_cellV (w : World) (T : TypeId) (c : Int) : ∀ (j : Nat) u, [Value.int .i64 c][j]? = some u → (w.alloc (.cells #[.int .i64 c] T)).cell? ((⟨w.heap.size, 0, none⟩ : Addr).add j) = some u := by
  intro j u hj
  match j, hj with
  | 0, hj => simp at hj; subst hj; simp [Addr.add]
theorem one_plainV (c : Int) : ∀ u ∈ [Value.int .i64 c], u.oneCell' = true := by
  intro u hu
  simp at hu
  subst hu
  rfl
/-- While the lines are gathered: the altitudes stay, and lie apart. -/
structure VisKeep (w wr : World) (v : Value) (g n : Nat) (f : Nat → Int) : Prop where
  bel : Below w.heap.size w wr
  apart : v.ownBlock ≠ some g
  old : g < wr.heap.size
  cells : ∀ k, k < n → wr.cell? ⟨g, k, none⟩ = some (.int .i64 (f k))
theorem VisKeep.next {w wr w2 : World} {v : Value} {g n gg m cap : Nat} {f : Nat → Int} {o : Obj} (h : VisKeep w wr v g n f) (hg : (wr.alloc o).grownBy w2 v.ownBlock) (hl : v.ownBlock = some gg ∨ gg = wr.heap.size + 1) (hb : Below w.heap.size w w2) :
    VisKeep w w2 (.slice (some ⟨gg, 0, none⟩) m cap) g n f := by
  have h1 := h.old
  have h2 := hg.size
  simp at h2
  refine ⟨hb, ?_, by omega, fun k hk => ?_⟩
  · intro e
    have e2 : gg = g := by simpa [Value.ownBlock] using e
    subst e2
    rcases hl with hl | hl
    · exact h.apart hl
    · omega
  · rw [hg.cell_far ⟨g, k, none⟩ (by simp; omega) (Ne.symm h.apart), ← h.cells k hk]
    exact ((Below.refl _ wr).alloc (Nat.le_refl _) o).cell (p := ⟨g, k, none⟩) h1

theorem fin_VisL : True := trivial
end

section
open Go.RowKit
set_option linter.unusedVariables false

theorem fin_VisS : True := trivial
end

section
open Go.RowKit
theorem visLV_len (zs : List StarV) (s : ByteArray) (ls : List (List Int)) (t : ByteArray) (lo la sid : Int) : (visLV zs s ls t lo la sid).1.length ≤ 1048576 := by
  unfold visLV
  split
  · rename_i h
    obtain ⟨_, h16, _⟩ := figV_okV h
    split
    · split
      · have := seenL_len (altF la sid zs) ls ls.length
        show (seenL (altF la sid zs) ls ls.length).length ≤ _
        omega
      · exact Nat.zero_le _
    · exact Nat.zero_le _
  · exact Nat.zero_le _
theorem fin_VisL2 : True := trivial
end
end Go.Proofs.YtjghopepgfgebaaGreatDoor
