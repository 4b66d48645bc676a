/-
  Separations: the contracts of Separation (package impl), l04Away, Separation (package spec).
-/
import Derived.Test.YtjghopepgfgebaaGreatDoorArct
import Derived.Test.YtjghopepgfgebaaGreatDoorSArc
import Derived.Test.YtjghopepgfgebaaGreatDoorVecS
import Derived.Test.YtjghopepgfgebaaGreatDoorAng
import Derived.Deep.RegionHeld3
namespace Go.Proofs.YtjghopepgfgebaaGreatDoor
open Go.RowKit
set_option linter.unusedVariables false

theorem dotI_bd (x y z x' y' z' : Int) (h : inV 2000000 x y z) (h' : inV 2000000 x' y' z') : -100000000 ≤ dotI x y z x' y' z' ∧ dotI x y z x' y' z' ≤ 100000000 := by
  obtain ⟨⟨a0, a1⟩, ⟨b0, b1⟩, c0, c1⟩ := prods_bd _ _ x y z x' y' z' h h'
  unfold dotI
  by_cases c : x * x' + y * y' + z * z' < 0
  · rw [nearQ_np _ _ c (by omega)]; omega
  · rw [nearQ_pp _ _ (by omega) (by omega)]; omega
def crL (x y z x' y' z' : Int) : Int := len3 (crI y z' z y') (crI z x' x z') (crI x y' y x')
theorem crL_bd (x y z x' y' z' : Int) (h : inV 2000000 x y z) (h' : inV 2000000 x' y' z') : 0 ≤ crL x y z x' y' z' ∧ crL x y z x' y' z' ≤ 100000000 := by
  obtain ⟨⟨a, b⟩, ⟨c, d⟩, e, f⟩ := cross_in x y z x' y' z' h h'
  have := len3_bd (crI y z' z y') (crI z x' x z') (crI x y' y x') 8000000 (by omega) a b c d e f
  unfold crL
  omega
/-- What Separation answers. -/
def sepV (x y z x' y' z' : Int) : Value := if okV x y z = true then (if okV x' y' z' = true then atanV (crL x y z x' y' z') (dotI x y z x' y' z') else .tuple #[.int .i64 0, .int .i64 1]) else .tuple #[.int .i64 0, .int .i64 1]
theorem sepV_form (x y z x' y' z' : Int) : ∃ a b : Int, sepV x y z x' y' z' = .tuple #[.int .i64 a, .int .i64 b] := by
  unfold sepV
  split
  · split
    · exact atanV_form _ _
    · exact ⟨_, _, rfl⟩
  · exact ⟨_, _, rfl⟩
theorem keepS {w W W' : World} {x y z x' y' z' : Int} (h : W.cell? ⟨w.heap.size, 0, none⟩ = some (.int .i64 x) ∧ W.cell? ⟨w.heap.size, 1, none⟩ = some (.int .i64 y) ∧ W.cell? ⟨w.heap.size, 2, none⟩ = some (.int .i64 z) ∧ W.cell? ⟨w.heap.size + 1, 0, none⟩ = some (.int .i64 x') ∧ W.cell? ⟨w.heap.size + 1, 1, none⟩ = some (.int .i64 y') ∧ W.cell? ⟨w.heap.size + 1, 2, none⟩ = some (.int .i64 z') ∧ Below w.heap.size w W) (hb : Below W.heap.size W W') :
    W'.cell? ⟨w.heap.size, 0, none⟩ = some (.int .i64 x) ∧ W'.cell? ⟨w.heap.size, 1, none⟩ = some (.int .i64 y) ∧ W'.cell? ⟨w.heap.size, 2, none⟩ = some (.int .i64 z) ∧ W'.cell? ⟨w.heap.size + 1, 0, none⟩ = some (.int .i64 x') ∧ W'.cell? ⟨w.heap.size + 1, 1, none⟩ = some (.int .i64 y') ∧ W'.cell? ⟨w.heap.size + 1, 2, none⟩ = some (.int .i64 z') ∧ Below w.heap.size w W' := by
  obtain ⟨h0, h1, h2, h3, h4, h5, h6⟩ := h
  have hg := World.block_lt_of_cell? W ⟨w.heap.size, 0, none⟩ h0
  have hg' := World.block_lt_of_cell? W ⟨w.heap.size + 1, 0, none⟩ h3
  obtain ⟨k1, _⟩ := bcell hb
  exact ⟨(k1 _ _ hg).trans h0, (k1 _ _ hg).trans h1, (k1 _ _ hg).trans h2, (k1 _ _ hg').trans h3, (k1 _ _ hg').trans h4, (k1 _ _ hg').trans h5, h6.trans (hb.mono h6.size)⟩

set_option maxHeartbeats 1000000 in
theorem implSep_any (x y z x' y' z' : Int) (w : World) (hs : SinesOK w) :
    Calls Tryz.prog 112 #[.agg #[.int .i64 x, .int .i64 y, .int .i64 z], .agg #[.int .i64 x', .int .i64 y', .int .i64 z']] w fun e w' => e = .returned (sepV x y z x' y' z') ∧ Below w.heap.size w w' := by
  have I := Lib.hid (fun w => validV_any x y z w)
  have J := Lib.hid (fun w => validV_any x' y' z' w)
  unfold sepV
  cases ho : okV x y z with
  | false =>
    rw [if_neg (by simp)]
    rw [ho] at I
    clear ho hs
    go_enter Tryz.func112, Tryz.ntmps112
    go_wp2_with fail
    refine (I.out _).mono ?_
    rintro e w1 ⟨rfl, hb⟩
    have hsw1 := hb.size
    try simp at hsw1
    obtain ⟨hcw1, hfw1⟩ := bcell hb
    have HBw1 : Hid (Below w.heap.size w w1) := by
      apply Lib.hid
      refine Below.trans ?_ (hb.mono ?_)
      · repeat (first | exact Below.refl _ _ | refine Below.setCell ?_ (by first | (simp; done) | omega | (simp; omega)) _ | refine Below.alloc ?_ (by first | (simp; done) | omega | (simp; omega)) _)
      · first | (simp; done) | omega | (simp; omega)
    have hzw1 : w.heap.size + 1 < w1.heap.size := by have := hb.size; (try simp at this); omega
    have hyw1 : w.heap.size < w1.heap.size := by have := hb.size; (try simp at this); omega
    clear hb
    go_wp2_with fail
    go_ret2
    refine ⟨rfl, ?_⟩
    repeat (first | exact Below.refl _ _ | exact HBw1.out | refine Below.setCell ?_ (by first | (simp; done) | omega | (simp; omega)) _ | refine Below.alloc ?_ (by first | (simp; done) | omega | (simp; omega)) _ | refine bel_drew ?_)
  | true =>
    rw [if_pos rfl]
    rw [ho] at I
    cases ho' : okV x' y' z' with
    | false =>
      rw [if_neg (by simp)]
      rw [ho'] at J
      clear ho ho' hs
      go_enter Tryz.func112, Tryz.ntmps112
      go_wp2_with fail
      refine (I.out _).mono ?_
      rintro e w1 ⟨rfl, hb⟩
      have hsw1 := hb.size
      try simp at hsw1
      obtain ⟨hcw1, hfw1⟩ := bcell hb
      have HBw1 : Hid (Below w.heap.size w w1) := by
        apply Lib.hid
        refine Below.trans ?_ (hb.mono ?_)
        · repeat (first | exact Below.refl _ _ | refine Below.setCell ?_ (by first | (simp; done) | omega | (simp; omega)) _ | refine Below.alloc ?_ (by first | (simp; done) | omega | (simp; omega)) _)
        · first | (simp; done) | omega | (simp; omega)
      have hzw1 : w.heap.size + 1 < w1.heap.size := by have := hb.size; (try simp at this); omega
      have hyw1 : w.heap.size < w1.heap.size := by have := hb.size; (try simp at this); omega
      clear hb
      go_wp2_with fail
      refine (J.out _).mono ?_
      rintro e w2 ⟨rfl, hb⟩
      have hsw2 := hb.size
      try simp at hsw2
      obtain ⟨hcw2, hfw2⟩ := bcell hb
      have HBw2 : Hid (Below w.heap.size w w2) := by
        apply Lib.hid
        refine Below.trans ?_ (hb.mono ?_)
        · repeat (first | exact Below.refl _ _ | exact HBw1.out | refine Below.setCell ?_ (by first | (simp; done) | omega | (simp; omega)) _ | refine Below.alloc ?_ (by first | (simp; done) | omega | (simp; omega)) _)
        · first | (simp; done) | omega | (simp; omega)
      have hzw2 : w.heap.size + 1 < w2.heap.size := by have := hb.size; (try simp at this); omega
      have hyw2 : w.heap.size < w2.heap.size := by have := hb.size; (try simp at this); omega
      clear hb
      first | (have gsw2w1 : w1.heap.size < w2.heap.size := by omega) | skip
      go_wp2_with fail
      go_ret2
      refine ⟨rfl, ?_⟩
      repeat (first | exact Below.refl _ _ | exact HBw2.out | refine Below.setCell ?_ (by first | (simp; done) | omega | (simp; omega)) _ | refine Below.alloc ?_ (by first | (simp; done) | omega | (simp; omega)) _ | refine bel_drew ?_)
    | true =>
      rw [if_pos rfl]
      rw [ho'] at J
      have hv := inV_ok _ _ _ ho
      have hv' := inV_ok _ _ _ ho'
      have E := Lib.hid hs
      have C := Lib.hid (fun w => cross_any x y z x' y' z' hv hv' w)
      have L := Lib.hid (fun w => length_any (crI y z' z y') (crI z x' x z') (crI x y' y x') (inV_up (cross_in x y z x' y' z' hv hv') (by omega)) w)
      have D := Lib.hid (fun w => dot_any x y z x' y' z' hv hv' w)
      have T := Lib.hid (fun w hs => implATan_any (crL x y z x' y' z') (dotI x y z x' y' z') w hs)
      obtain ⟨r, s, hz⟩ := atanV_form (crL x y z x' y' z') (dotI x y z x' y' z')
      rw [hz] at T ⊢
      clear ho ho' hs hv hv' hz
      unfold crL at T
      generalize len3 (crI y z' z y') (crI z x' x z') (crI x y' y x') = l at *
      generalize dotI x y z x' y' z' = d at *
      generalize crI y z' z y' = p at *
      generalize crI z x' x z' = q at *
      generalize crI x y' y x' = t at *
      obtain ⟨W0, hW0⟩ : ∃ W0, W0 = (w.alloc (.cells #[.int .i64 x, .int .i64 y, .int .i64 z] 71)).alloc (.cells #[.int .i64 x', .int .i64 y', .int .i64 z'] 71) := ⟨_, rfl⟩
      have S0 : Hid (W0.cell? ⟨w.heap.size, 0, none⟩ = some (.int .i64 x) ∧ W0.cell? ⟨w.heap.size, 1, none⟩ = some (.int .i64 y) ∧ W0.cell? ⟨w.heap.size, 2, none⟩ = some (.int .i64 z) ∧ W0.cell? ⟨w.heap.size + 1, 0, none⟩ = some (.int .i64 x') ∧ W0.cell? ⟨w.heap.size + 1, 1, none⟩ = some (.int .i64 y') ∧ W0.cell? ⟨w.heap.size + 1, 2, none⟩ = some (.int .i64 z') ∧ Below w.heap.size w W0) := Lib.hid (by
        have A0 : C3 W0 w.heap.size x y z := by rw [hW0]; exact (C3.new _ _ _ _ _).alloc (by simp) _
        have A1 : C3 W0 (w.heap.size + 1) x' y' z' := by rw [hW0]; simpa using C3.new (w.alloc (.cells #[.int .i64 x, .int .i64 y, .int .i64 z] 71)) 71 x' y' z'
        exact ⟨A0.c0, A0.c1, A0.c2, A1.c0, A1.c1, A1.c2, by rw [hW0]; exact ((Below.refl _ _).alloc (Nat.le_refl _) _).alloc (by simp) _⟩)
      have HW := Lib.hid hW0
      clear hW0
      obtain ⟨k0, k1, k2, k3, k4, k5, _⟩ := S0.out
      go_enter Tryz.func112, Tryz.ntmps112
      go_wp2_with fail
      rw [← HW.out]
      clear HW
      refine (I.out _).mono ?_
      rintro e w1 ⟨rfl, hb⟩
      have S1 := Lib.hid (keepS S0.out hb)
      clear hb S0 k0 k1 k2 k3 k4 k5
      obtain ⟨k0, k1, k2, k3, k4, k5, _⟩ := S1.out
      go_wp2_with fail
      refine (J.out _).mono ?_
      rintro e w2 ⟨rfl, hb⟩
      have S2 := Lib.hid (keepS S1.out hb)
      clear hb S1 k0 k1 k2 k3 k4 k5
      obtain ⟨k0, k1, k2, k3, k4, k5, k6⟩ := S2.out
      have ED := Lib.hid (E.out.below (bel_drew k6))
      clear k6
      go_wp2_with fail
      go_region_held3 (fun w' => w'.cell? ⟨w.heap.size, 0, none⟩ = some (.int .i64 x) ∧ w'.cell? ⟨w.heap.size, 1, none⟩ = some (.int .i64 y) ∧ w'.cell? ⟨w.heap.size, 2, none⟩ = some (.int .i64 z) ∧ w'.cell? ⟨w.heap.size + 1, 0, none⟩ = some (.int .i64 x') ∧ w'.cell? ⟨w.heap.size + 1, 1, none⟩ = some (.int .i64 y') ∧ w'.cell? ⟨w.heap.size + 1, 2, none⟩ = some (.int .i64 z') ∧ Below w.heap.size w w') (first | (exact keepS S2.out (bel_drew (Below.refl _ _))) | (exact keepS S2.out y4) | (exact keepS S2.out y3) | (exact keepS S2.out y2) | (exact keepS S2.out y1) | go_keep) ((first
        | (go_at_call 143; refine (C.out _).mono ?_; rintro e x1 ⟨rfl, hx1⟩; have y1 := undrewV hx1)
        | (go_at_call 144; refine (L.out _).mono ?_; rintro e x2 ⟨rfl, hx2⟩; have y2 := y1.trans (hx2.mono y1.size))
        | (go_at_call 145; refine (D.out _).mono ?_; rintro e x3 ⟨rfl, hx3⟩; have y3 := y2.trans (hx3.mono y2.size))
        | (go_at_call 142; refine (T.out _ (E.out.below (keepS S2.out y3).2.2.2.2.2.2)).mono ?_; rintro e x4 ⟨rfl, hx4⟩; have y4 := y3.trans (hx4.mono y3.size))))
      rename_i held
      have HB := Lib.hid held.2.2.2.2.2.2
      clear held
      go_wp2_with fail
      go_ret2
      exact ⟨rfl, HB.out⟩
end Go.Proofs.YtjghopepgfgebaaGreatDoor
