/-
  The walk of the law of the basics.
-/
import Derived.Test.YtjghopepgfgebaaDoorBasics
namespace Go.Proofs.YtjghopepgfgebaaDoor
open Go.RowKit

set_option maxRecDepth 100000 in
set_option maxHeartbeats 4000000 in
theorem basics_walk (w : World) (v0 : Value) (a0 : List Int) (w0 : BytesIn w v0 a0) (v1 : Value) (a1 : List Int) (w1 : BytesIn w v1 a1) (henv : TabOK w ∧ ErrOK w ∧ LenOK w) :
    Calls Tryd.prog 7 #[v0, v1] w fun e w' => e = .returned (.bool true) ∧ Below w.heap.size w w' := by
  obtain ⟨ht, he, hlen⟩ := henv
  have T := Lib.hid ht
  have EE := Lib.hid he
  have LL := Lib.hid hlen
  clear ht he hlen
  have I0 := Lib.hid w0
  have I1 := Lib.hid w1
  obtain ⟨sa, sc, rfl⟩ := w0.len
  obtain ⟨sb, sd, rfl⟩ := w1.len
  clear w0 w1
  by_cases hbig : 1048576 < a0.length ∨ 1048576 < a1.length
  · go_enter Tryd.func7, Tryd.ntmps7
    go_wp2_with fail
    refine (r8Long_yes _ _ _ _ _ _ _ hbig).mono ?_
    rintro e w' ⟨rfl, rfl⟩
    go_wp2_with fail
    go_ret
    exact ⟨rfl, Below.refl _ _⟩
  · go_enter Tryd.func7, Tryd.ntmps7
    go_wp2_with fail
    refine (r8Long_no _ _ _ _ _ _ _ (by omega) (by omega)).mono ?_
    rintro e w' ⟨rfl, rfl⟩
    go_wp2_with fail
    refine (numbers_any I0.out (by omega)).mono ?_
    rintro e w2 ⟨a, b, rfl, la, ua, lb, ub, hb2⟩
    have B2 := Lib.hid hb2
    clear hb2
    go_wp2_with fail
    refine (implRoot_any a w2 (by omega)).mono ?_
    rintro e w' ⟨r, hr, rfl, rfl⟩
    obtain ⟨q, dv, dn, ⟨q1, q2⟩, ⟨q3, q4⟩, q5, q6⟩ := div_pack a b la ua lb ub
    have DV := Lib.hid dv
    have DN := Lib.hid dn
    clear dv dn
    by_cases hneg : a < 0
    · obtain rfl : r = 0 := by
        rcases hr with ⟨_, h⟩ | ⟨h, _⟩
        · exact h
        · omega
      clear hr
      go_wp2_with fail
      refine (DV.out _).mono ?_
      rintro e w3 ⟨rfl, hb3⟩
      have B3 := Lib.hid (B2.out.trans (hb3.mono B2.out.size))
      clear hb3 B2
      go_wp2_with fail
      refine (r8Abs_any _ _ (by omega) (by omega)).mono ?_
      rintro e w' ⟨⟨u, rfl, hu, u0⟩, rfl⟩
      have u1 : 2 * u ≤ b := by omega
      clear hu
      go_wp2_with fail
      refine (DN.out _).mono ?_
      rintro e w4 ⟨rfl, hb4⟩
      have B4 := Lib.hid (B3.out.trans (hb4.mono B3.out.size))
      clear hb4 B3
      go_wp2_with fail
      refine (r8Wide_any (I1.out.below B4.out) (by omega) 0 (by omega) 1000 (by omega) (by omega)).mono ?_
      rintro e w' ⟨⟨x, rfl, x0, x1⟩, rfl⟩
      go_wp2_with fail
      refine (r8Wide_any (I1.out.below B4.out) (by omega) 2 (by omega) 5000 (by omega) (by omega)).mono ?_
      rintro e w' ⟨⟨y', rfl, y0, y1⟩, rfl⟩
      go_wp2_with fail
      refine (r8Wide_any (I1.out.below B4.out) (by omega) 4 (by omega) 5000 (by omega) (by omega)).mono ?_
      rintro e w' ⟨⟨z', rfl, z0, z1⟩, rfl⟩
      go_wp2_with fail
      obtain ⟨v, bv, bn, bz, m1, m2⟩ := blend_pack (y' - 2500) (z' - 2500) x (by omega) (by omega) (by omega) (by omega) x0 (by omega)
      have BV := Lib.hid bv
      have BN := Lib.hid bn
      have BZ := Lib.hid bz
      clear bv bn bz
      have y2 : -2500 ≤ y' - 2500 := by omega
      have y3 : y' - 2500 ≤ 2500 := by omega
      have z2 : -2500 ≤ z' - 2500 := by omega
      have z3 : z' - 2500 ≤ 2500 := by omega
      generalize y' - 2500 = y at *
      generalize z' - 2500 = z at *
      have FB := Lib.hid (fitsB5 a b x y z (by omega) (by omega) (by omega) (by omega) (by omega))
      refine (BV.out _).mono ?_
      rintro e w6 ⟨rfl, hb6⟩
      have B6 := Lib.hid (B4.out.trans (hb6.mono B4.out.size))
      clear hb6 B4 BV
      by_cases hyz : y ≤ z
      · obtain ⟨v0, v1⟩ := m1 hyz
        clear m1 m2
        go_wp2_with fail
        refine (BN.out _).mono ?_
        rintro e w7 ⟨rfl, hb7⟩
        have B7 := Lib.hid (B6.out.trans (hb7.mono B6.out.size))
        clear hb7 B6
        go_wp2_with fail
        refine (BZ.out _).mono ?_
        rintro e w8 ⟨rfl, hb8⟩
        have B8 := Lib.hid (B7.out.trans (hb8.mono B7.out.size))
        clear hb8 B7
        go_wp2_with fail
        have hal : Below w.heap.size w (w8.alloc (Obj.cells #[.int .i64 a, .int .i64 b, .int .i64 x, .int .i64 y, .int .i64 z] 2)) := B8.out.alloc B8.out.size _
        refine (text_goes _ 5 [a, b, x, y, z] _ FB.out (by simp) (T.out.below hal) (by simp) (cells_5 _ _ _ _ _ _ _)).mono ?_
        rintro e w9 ⟨s, rfl, hs, hl, hb9⟩
        have B9 := Lib.hid (hal.trans (hb9.mono hal.size))
        have c9 : ∀ j, (hj : j < [a, b, x, y, z].length) → w9.cell? ⟨w8.heap.size, j, none⟩ = some (.int .i64 [a, b, x, y, z][j]) := fun j hj => (hb9.cell (p := ⟨w8.heap.size, j, none⟩) (by simp)).trans (cells_5 w8 _ a b x y z j hj)
        have g9 : w8.heap.size < w9.heap.size := by have := hb9.size; simp at this; omega
        have C9 := Lib.hid c9
        clear hal hb9 c9 B8
        generalize w8.heap.size = gl at *
        have hl' := Lib.hid hl
        clear hl
        go_wp2_with fail
        refine (text_back s _ w9 hs hl'.out (by simp) (T.out.below B9.out) (EE.out.below B9.out) (LL.out.below B9.out)).mono ?_
        rintro e w10 ⟨gb, cb, rfl, c10, g10, hb10⟩
        have C10 := Lib.hid c10
        have D10 := Lib.hid (show ∀ j, (hj : j < [a, b, x, y, z].length) → w10.cell? ⟨gl, j, none⟩ = some (.int .i64 [a, b, x, y, z][j]) from fun j hj => (hb10.cell (p := ⟨gl, j, none⟩) g9).trans (C9.out j hj))
        have B10 := Lib.hid (B9.out.trans (hb10.mono B9.out.size))
        have g10' : gl < w10.heap.size := by have := hb10.size; omega
        clear c10 hb10 C9 B9 hs hl'
        go_wp2_with fail
        refine (num_goes a w10 (by omega) (by omega) (T.out.below B10.out)).mono ?_
        rintro e w11 ⟨t, rfl, ht, t1, t2, hb11⟩
        have B11 := Lib.hid (B10.out.trans (hb11.mono B10.out.size))
        have T1 := Lib.hid t1
        have T2 := Lib.hid t2
        have X1 := Lib.hid (show ∀ j, (hj : j < [a, b, x, y, z].length) → w11.cell? ⟨gl, j, none⟩ = some (.int .i64 [a, b, x, y, z][j]) from fun j hj => (hb11.cell (p := ⟨gl, j, none⟩) g10').trans (D10.out j hj))
        have Y1 := Lib.hid (show ∀ j, (hj : j < [a, b, x, y, z].length) → w11.cell? ⟨gb, j, none⟩ = some (.int .i64 [a, b, x, y, z][j]) from fun j hj => (hb11.cell (p := ⟨gb, j, none⟩) g10).trans (C10.out j hj))
        have g11 : gl < w11.heap.size := by have := hb11.size; omega
        have g11' : gb < w11.heap.size := by have := hb11.size; omega
        clear hb11 t1 t2 B10 C10 D10
        go_wp2_with fail
        refine (num_comes t a w11 ht T1.out T2.out (T.out.below B11.out) (EE.out.below B11.out)).mono ?_
        rintro e w12 ⟨rfl, hb12⟩
        have B12 := Lib.hid (B11.out.trans (hb12.mono B11.out.size))
        have X2 := Lib.hid (show ∀ j, (hj : j < [a, b, x, y, z].length) → w12.cell? ⟨gl, j, none⟩ = some (.int .i64 [a, b, x, y, z][j]) from fun j hj => (hb12.cell (p := ⟨gl, j, none⟩) g11).trans (X1.out j hj))
        have Y2 := Lib.hid (show ∀ j, (hj : j < [a, b, x, y, z].length) → w12.cell? ⟨gb, j, none⟩ = some (.int .i64 [a, b, x, y, z][j]) from fun j hj => (hb12.cell (p := ⟨gb, j, none⟩) g11').trans (Y1.out j hj))
        clear hb12 X1 Y1 T1 T2 B11 ht
        go_wp2_with fail
        refine (r8Same_full gb gl cb 5 [a, b, x, y, z] w12 (by simp) Y2.out X2.out).mono ?_
        rintro e w13 ⟨rfl, qn, rfl⟩
        go_wp2_with fail
        go_ret
        exact ⟨rfl, bel_drewN B12.out qn⟩
      · obtain ⟨v0, v1⟩ := m2 (by omega)
        clear m1 m2
        go_wp2_with fail
        refine (BN.out _).mono ?_
        rintro e w7 ⟨rfl, hb7⟩
        have B7 := Lib.hid (B6.out.trans (hb7.mono B6.out.size))
        clear hb7 B6
        go_wp2_with fail
        refine (BZ.out _).mono ?_
        rintro e w8 ⟨rfl, hb8⟩
        have B8 := Lib.hid (B7.out.trans (hb8.mono B7.out.size))
        clear hb8 B7
        go_wp2_with fail
        have hal : Below w.heap.size w (w8.alloc (Obj.cells #[.int .i64 a, .int .i64 b, .int .i64 x, .int .i64 y, .int .i64 z] 2)) := B8.out.alloc B8.out.size _
        refine (text_goes _ 5 [a, b, x, y, z] _ FB.out (by simp) (T.out.below hal) (by simp) (cells_5 _ _ _ _ _ _ _)).mono ?_
        rintro e w9 ⟨s, rfl, hs, hl, hb9⟩
        have B9 := Lib.hid (hal.trans (hb9.mono hal.size))
        have c9 : ∀ j, (hj : j < [a, b, x, y, z].length) → w9.cell? ⟨w8.heap.size, j, none⟩ = some (.int .i64 [a, b, x, y, z][j]) := fun j hj => (hb9.cell (p := ⟨w8.heap.size, j, none⟩) (by simp)).trans (cells_5 w8 _ a b x y z j hj)
        have g9 : w8.heap.size < w9.heap.size := by have := hb9.size; simp at this; omega
        have C9 := Lib.hid c9
        clear hal hb9 c9 B8
        generalize w8.heap.size = gl at *
        have hl' := Lib.hid hl
        clear hl
        go_wp2_with fail
        refine (text_back s _ w9 hs hl'.out (by simp) (T.out.below B9.out) (EE.out.below B9.out) (LL.out.below B9.out)).mono ?_
        rintro e w10 ⟨gb, cb, rfl, c10, g10, hb10⟩
        have C10 := Lib.hid c10
        have D10 := Lib.hid (show ∀ j, (hj : j < [a, b, x, y, z].length) → w10.cell? ⟨gl, j, none⟩ = some (.int .i64 [a, b, x, y, z][j]) from fun j hj => (hb10.cell (p := ⟨gl, j, none⟩) g9).trans (C9.out j hj))
        have B10 := Lib.hid (B9.out.trans (hb10.mono B9.out.size))
        have g10' : gl < w10.heap.size := by have := hb10.size; omega
        clear c10 hb10 C9 B9 hs hl'
        go_wp2_with fail
        refine (num_goes a w10 (by omega) (by omega) (T.out.below B10.out)).mono ?_
        rintro e w11 ⟨t, rfl, ht, t1, t2, hb11⟩
        have B11 := Lib.hid (B10.out.trans (hb11.mono B10.out.size))
        have T1 := Lib.hid t1
        have T2 := Lib.hid t2
        have X1 := Lib.hid (show ∀ j, (hj : j < [a, b, x, y, z].length) → w11.cell? ⟨gl, j, none⟩ = some (.int .i64 [a, b, x, y, z][j]) from fun j hj => (hb11.cell (p := ⟨gl, j, none⟩) g10').trans (D10.out j hj))
        have Y1 := Lib.hid (show ∀ j, (hj : j < [a, b, x, y, z].length) → w11.cell? ⟨gb, j, none⟩ = some (.int .i64 [a, b, x, y, z][j]) from fun j hj => (hb11.cell (p := ⟨gb, j, none⟩) g10).trans (C10.out j hj))
        have g11 : gl < w11.heap.size := by have := hb11.size; omega
        have g11' : gb < w11.heap.size := by have := hb11.size; omega
        clear hb11 t1 t2 B10 C10 D10
        go_wp2_with fail
        refine (num_comes t a w11 ht T1.out T2.out (T.out.below B11.out) (EE.out.below B11.out)).mono ?_
        rintro e w12 ⟨rfl, hb12⟩
        have B12 := Lib.hid (B11.out.trans (hb12.mono B11.out.size))
        have X2 := Lib.hid (show ∀ j, (hj : j < [a, b, x, y, z].length) → w12.cell? ⟨gl, j, none⟩ = some (.int .i64 [a, b, x, y, z][j]) from fun j hj => (hb12.cell (p := ⟨gl, j, none⟩) g11).trans (X1.out j hj))
        have Y2 := Lib.hid (show ∀ j, (hj : j < [a, b, x, y, z].length) → w12.cell? ⟨gb, j, none⟩ = some (.int .i64 [a, b, x, y, z][j]) from fun j hj => (hb12.cell (p := ⟨gb, j, none⟩) g11').trans (Y1.out j hj))
        clear hb12 X1 Y1 T1 T2 B11 ht
        go_wp2_with fail
        refine (r8Same_full gb gl cb 5 [a, b, x, y, z] w12 (by simp) Y2.out X2.out).mono ?_
        rintro e w13 ⟨rfl, qn, rfl⟩
        go_wp2_with fail
        go_ret
        exact ⟨rfl, bel_drewN B12.out qn⟩
    · obtain ⟨⟨r0, r1⟩, ⟨r2, r3⟩, r4, r5⟩ := root_facts a r hr (by omega) ua
      have hneg' : decide (a < 0) = false := by simpa using hneg
      clear hr
      go_wp2_with fail
      clear r2 r3 r4 r5 hneg'
      refine (DV.out _).mono ?_
      rintro e w3 ⟨rfl, hb3⟩
      have B3 := Lib.hid (B2.out.trans (hb3.mono B2.out.size))
      clear hb3 B2
      go_wp2_with fail
      refine (r8Abs_any _ _ (by omega) (by omega)).mono ?_
      rintro e w' ⟨⟨u, rfl, hu, u0⟩, rfl⟩
      have u1 : 2 * u ≤ b := by omega
      clear hu
      go_wp2_with fail
      refine (DN.out _).mono ?_
      rintro e w4 ⟨rfl, hb4⟩
      have B4 := Lib.hid (B3.out.trans (hb4.mono B3.out.size))
      clear hb4 B3
      go_wp2_with fail
      refine (r8Wide_any (I1.out.below B4.out) (by omega) 0 (by omega) 1000 (by omega) (by omega)).mono ?_
      rintro e w' ⟨⟨x, rfl, x0, x1⟩, rfl⟩
      go_wp2_with fail
      refine (r8Wide_any (I1.out.below B4.out) (by omega) 2 (by omega) 5000 (by omega) (by omega)).mono ?_
      rintro e w' ⟨⟨y', rfl, y0, y1⟩, rfl⟩
      go_wp2_with fail
      refine (r8Wide_any (I1.out.below B4.out) (by omega) 4 (by omega) 5000 (by omega) (by omega)).mono ?_
      rintro e w' ⟨⟨z', rfl, z0, z1⟩, rfl⟩
      go_wp2_with fail
      obtain ⟨v, bv, bn, bz, m1, m2⟩ := blend_pack (y' - 2500) (z' - 2500) x (by omega) (by omega) (by omega) (by omega) x0 (by omega)
      have BV := Lib.hid bv
      have BN := Lib.hid bn
      have BZ := Lib.hid bz
      clear bv bn bz
      have y2 : -2500 ≤ y' - 2500 := by omega
      have y3 : y' - 2500 ≤ 2500 := by omega
      have z2 : -2500 ≤ z' - 2500 := by omega
      have z3 : z' - 2500 ≤ 2500 := by omega
      generalize y' - 2500 = y at *
      generalize z' - 2500 = z at *
      have FB := Lib.hid (fitsB5 a b x y z (by omega) (by omega) (by omega) (by omega) (by omega))
      refine (BV.out _).mono ?_
      rintro e w6 ⟨rfl, hb6⟩
      have B6 := Lib.hid (B4.out.trans (hb6.mono B4.out.size))
      clear hb6 B4 BV
      by_cases hyz : y ≤ z
      · obtain ⟨v0, v1⟩ := m1 hyz
        clear m1 m2
        go_wp2_with fail
        refine (BN.out _).mono ?_
        rintro e w7 ⟨rfl, hb7⟩
        have B7 := Lib.hid (B6.out.trans (hb7.mono B6.out.size))
        clear hb7 B6
        go_wp2_with fail
        refine (BZ.out _).mono ?_
        rintro e w8 ⟨rfl, hb8⟩
        have B8 := Lib.hid (B7.out.trans (hb8.mono B7.out.size))
        clear hb8 B7
        go_wp2_with fail
        have hal : Below w.heap.size w (w8.alloc (Obj.cells #[.int .i64 a, .int .i64 b, .int .i64 x, .int .i64 y, .int .i64 z] 2)) := B8.out.alloc B8.out.size _
        refine (text_goes _ 5 [a, b, x, y, z] _ FB.out (by simp) (T.out.below hal) (by simp) (cells_5 _ _ _ _ _ _ _)).mono ?_
        rintro e w9 ⟨s, rfl, hs, hl, hb9⟩
        have B9 := Lib.hid (hal.trans (hb9.mono hal.size))
        have c9 : ∀ j, (hj : j < [a, b, x, y, z].length) → w9.cell? ⟨w8.heap.size, j, none⟩ = some (.int .i64 [a, b, x, y, z][j]) := fun j hj => (hb9.cell (p := ⟨w8.heap.size, j, none⟩) (by simp)).trans (cells_5 w8 _ a b x y z j hj)
        have g9 : w8.heap.size < w9.heap.size := by have := hb9.size; simp at this; omega
        have C9 := Lib.hid c9
        clear hal hb9 c9 B8
        generalize w8.heap.size = gl at *
        have hl' := Lib.hid hl
        clear hl
        go_wp2_with fail
        refine (text_back s _ w9 hs hl'.out (by simp) (T.out.below B9.out) (EE.out.below B9.out) (LL.out.below B9.out)).mono ?_
        rintro e w10 ⟨gb, cb, rfl, c10, g10, hb10⟩
        have C10 := Lib.hid c10
        have D10 := Lib.hid (show ∀ j, (hj : j < [a, b, x, y, z].length) → w10.cell? ⟨gl, j, none⟩ = some (.int .i64 [a, b, x, y, z][j]) from fun j hj => (hb10.cell (p := ⟨gl, j, none⟩) g9).trans (C9.out j hj))
        have B10 := Lib.hid (B9.out.trans (hb10.mono B9.out.size))
        have g10' : gl < w10.heap.size := by have := hb10.size; omega
        clear c10 hb10 C9 B9 hs hl'
        go_wp2_with fail
        refine (num_goes a w10 (by omega) (by omega) (T.out.below B10.out)).mono ?_
        rintro e w11 ⟨t, rfl, ht, t1, t2, hb11⟩
        have B11 := Lib.hid (B10.out.trans (hb11.mono B10.out.size))
        have T1 := Lib.hid t1
        have T2 := Lib.hid t2
        have X1 := Lib.hid (show ∀ j, (hj : j < [a, b, x, y, z].length) → w11.cell? ⟨gl, j, none⟩ = some (.int .i64 [a, b, x, y, z][j]) from fun j hj => (hb11.cell (p := ⟨gl, j, none⟩) g10').trans (D10.out j hj))
        have Y1 := Lib.hid (show ∀ j, (hj : j < [a, b, x, y, z].length) → w11.cell? ⟨gb, j, none⟩ = some (.int .i64 [a, b, x, y, z][j]) from fun j hj => (hb11.cell (p := ⟨gb, j, none⟩) g10).trans (C10.out j hj))
        have g11 : gl < w11.heap.size := by have := hb11.size; omega
        have g11' : gb < w11.heap.size := by have := hb11.size; omega
        clear hb11 t1 t2 B10 C10 D10
        go_wp2_with fail
        refine (num_comes t a w11 ht T1.out T2.out (T.out.below B11.out) (EE.out.below B11.out)).mono ?_
        rintro e w12 ⟨rfl, hb12⟩
        have B12 := Lib.hid (B11.out.trans (hb12.mono B11.out.size))
        have X2 := Lib.hid (show ∀ j, (hj : j < [a, b, x, y, z].length) → w12.cell? ⟨gl, j, none⟩ = some (.int .i64 [a, b, x, y, z][j]) from fun j hj => (hb12.cell (p := ⟨gl, j, none⟩) g11).trans (X1.out j hj))
        have Y2 := Lib.hid (show ∀ j, (hj : j < [a, b, x, y, z].length) → w12.cell? ⟨gb, j, none⟩ = some (.int .i64 [a, b, x, y, z][j]) from fun j hj => (hb12.cell (p := ⟨gb, j, none⟩) g11').trans (Y1.out j hj))
        clear hb12 X1 Y1 T1 T2 B11 ht
        go_wp2_with fail
        refine (r8Same_full gb gl cb 5 [a, b, x, y, z] w12 (by simp) Y2.out X2.out).mono ?_
        rintro e w13 ⟨rfl, qn, rfl⟩
        go_wp2_with fail
        go_ret
        exact ⟨rfl, bel_drewN B12.out qn⟩
      · obtain ⟨v0, v1⟩ := m2 (by omega)
        clear m1 m2
        go_wp2_with fail
        refine (BN.out _).mono ?_
        rintro e w7 ⟨rfl, hb7⟩
        have B7 := Lib.hid (B6.out.trans (hb7.mono B6.out.size))
        clear hb7 B6
        go_wp2_with fail
        refine (BZ.out _).mono ?_
        rintro e w8 ⟨rfl, hb8⟩
        have B8 := Lib.hid (B7.out.trans (hb8.mono B7.out.size))
        clear hb8 B7
        go_wp2_with fail
        have hal : Below w.heap.size w (w8.alloc (Obj.cells #[.int .i64 a, .int .i64 b, .int .i64 x, .int .i64 y, .int .i64 z] 2)) := B8.out.alloc B8.out.size _
        refine (text_goes _ 5 [a, b, x, y, z] _ FB.out (by simp) (T.out.below hal) (by simp) (cells_5 _ _ _ _ _ _ _)).mono ?_
        rintro e w9 ⟨s, rfl, hs, hl, hb9⟩
        have B9 := Lib.hid (hal.trans (hb9.mono hal.size))
        have c9 : ∀ j, (hj : j < [a, b, x, y, z].length) → w9.cell? ⟨w8.heap.size, j, none⟩ = some (.int .i64 [a, b, x, y, z][j]) := fun j hj => (hb9.cell (p := ⟨w8.heap.size, j, none⟩) (by simp)).trans (cells_5 w8 _ a b x y z j hj)
        have g9 : w8.heap.size < w9.heap.size := by have := hb9.size; simp at this; omega
        have C9 := Lib.hid c9
        clear hal hb9 c9 B8
        generalize w8.heap.size = gl at *
        have hl' := Lib.hid hl
        clear hl
        go_wp2_with fail
        refine (text_back s _ w9 hs hl'.out (by simp) (T.out.below B9.out) (EE.out.below B9.out) (LL.out.below B9.out)).mono ?_
        rintro e w10 ⟨gb, cb, rfl, c10, g10, hb10⟩
        have C10 := Lib.hid c10
        have D10 := Lib.hid (show ∀ j, (hj : j < [a, b, x, y, z].length) → w10.cell? ⟨gl, j, none⟩ = some (.int .i64 [a, b, x, y, z][j]) from fun j hj => (hb10.cell (p := ⟨gl, j, none⟩) g9).trans (C9.out j hj))
        have B10 := Lib.hid (B9.out.trans (hb10.mono B9.out.size))
        have g10' : gl < w10.heap.size := by have := hb10.size; omega
        clear c10 hb10 C9 B9 hs hl'
        go_wp2_with fail
        refine (num_goes a w10 (by omega) (by omega) (T.out.below B10.out)).mono ?_
        rintro e w11 ⟨t, rfl, ht, t1, t2, hb11⟩
        have B11 := Lib.hid (B10.out.trans (hb11.mono B10.out.size))
        have T1 := Lib.hid t1
        have T2 := Lib.hid t2
        have X1 := Lib.hid (show ∀ j, (hj : j < [a, b, x, y, z].length) → w11.cell? ⟨gl, j, none⟩ = some (.int .i64 [a, b, x, y, z][j]) from fun j hj => (hb11.cell (p := ⟨gl, j, none⟩) g10').trans (D10.out j hj))
        have Y1 := Lib.hid (show ∀ j, (hj : j < [a, b, x, y, z].length) → w11.cell? ⟨gb, j, none⟩ = some (.int .i64 [a, b, x, y, z][j]) from fun j hj => (hb11.cell (p := ⟨gb, j, none⟩) g10).trans (C10.out j hj))
        have g11 : gl < w11.heap.size := by have := hb11.size; omega
        have g11' : gb < w11.heap.size := by have := hb11.size; omega
        clear hb11 t1 t2 B10 C10 D10
        go_wp2_with fail
        refine (num_comes t a w11 ht T1.out T2.out (T.out.below B11.out) (EE.out.below B11.out)).mono ?_
        rintro e w12 ⟨rfl, hb12⟩
        have B12 := Lib.hid (B11.out.trans (hb12.mono B11.out.size))
        have X2 := Lib.hid (show ∀ j, (hj : j < [a, b, x, y, z].length) → w12.cell? ⟨gl, j, none⟩ = some (.int .i64 [a, b, x, y, z][j]) from fun j hj => (hb12.cell (p := ⟨gl, j, none⟩) g11).trans (X1.out j hj))
        have Y2 := Lib.hid (show ∀ j, (hj : j < [a, b, x, y, z].length) → w12.cell? ⟨gb, j, none⟩ = some (.int .i64 [a, b, x, y, z][j]) from fun j hj => (hb12.cell (p := ⟨gb, j, none⟩) g11').trans (Y1.out j hj))
        clear hb12 X1 Y1 T1 T2 B11 ht
        go_wp2_with fail
        refine (r8Same_full gb gl cb 5 [a, b, x, y, z] w12 (by simp) Y2.out X2.out).mono ?_
        rintro e w13 ⟨rfl, qn, rfl⟩
        go_wp2_with fail
        go_ret
        exact ⟨rfl, bel_drewN B12.out qn⟩

end Go.Proofs.YtjghopepgfgebaaDoor
