/-
  FnAngles: the walk through the law.
-/
import Derived.Test.YtbdikmfbdibcgaaDoorAngD
import Derived.Test.YtbdikmfbdibcgaaDoorRAng
namespace Go.Proofs.YtbdikmfbdibcgaaDoor
open Go.RowKit
set_option linter.unusedVariables false

theorem angT_back (n : Int) (h0 : 0 ≤ n) (h1 : n < 360000) : raV (angTV n).data.toList = .tuple #[.int .i64 n, .bool true] ∧ (angTV n).size ≤ 1048576 := by
  have e : angTV n = ⟨(angL n).toArray⟩ := if_pos ((inR_1 _ _ _).2 ⟨by omega, by omega⟩)
  obtain ⟨k1, k2⟩ := okA_of n (angL n) (by omega) (by omega) rfl
  obtain ⟨x, y, hb, _, hx, hy, _, _⟩ := ang_checks n (by omega) (by omega)
  rw [e]
  refine ⟨?_, ?_⟩
  · show raV (angL n) = _
    rw [raV_yes _ k1, k2]
  · show (angL n).length ≤ _
    have hl : (angL n).length ≤ (bodyN (angL n)).length + 1 := by
      unfold bodyN
      split <;> first | (simp; done) | (simp; omega)
    rw [hb] at hl
    simp only [List.length_append, List.length_cons, List.length_nil] at hl
    omega
set_option maxRecDepth 100000 in
set_option maxHeartbeats 8000000 in
theorem angles_walk (w : World) (v0 : Value) (a0 : List Int) (w0 : BytesIn w v0 a0) (v1 : Value) (a1 : List Int) (w1 : BytesIn w v1 a1) (henv : TabOK w ∧ ErrOK w ∧ LenOK w) :
    Calls Tryd.prog 4 #[v0, v1] w fun e w' => e = .returned (.bool true) ∧ Below w.heap.size w w' := by
  obtain ⟨ht, he, hlen⟩ := henv
  have T := Lib.hid ht
  have EE := Lib.hid he
  have LL := Lib.hid hlen
  clear ht he hlen
  have I0 := Lib.hid w0
  have I1 := Lib.hid w1
  obtain ⟨sa, sc, rfl⟩ := w0.len
  obtain ⟨sb, sd, rfl⟩ := w1.len
  clear w0 w1
  by_cases hb0 : 1048576 < a0.length
  · skip
    go_enter Tryd.func4, Tryd.ntmps4
    go_wp2_with fail
    refine (b10Long_yes _ _ _ _ hb0).mono ?_
    rintro e w' ⟨rfl, rfl⟩
    go_wp2_with fail
    go_ret
    exact ⟨rfl, Below.refl _ _⟩
  have hn0 : a0.length ≤ 1048576 := by omega
  clear hb0
  by_cases hb1 : 1048576 < a1.length
  · skip
    go_enter Tryd.func4, Tryd.ntmps4
    go_wp2_with fail
    refine (b10Long_no _ _ _ _ hn0).mono ?_
    rintro e w' ⟨rfl, rfl⟩
    go_wp2_with fail
    refine (b10Long_yes _ _ _ _ hb1).mono ?_
    rintro e w' ⟨rfl, rfl⟩
    go_wp2_with fail
    go_ret
    exact ⟨rfl, Below.refl _ _⟩
  have hn1 : a1.length ≤ 1048576 := by omega
  clear hb1
  go_enter Tryd.func4, Tryd.ntmps4
  go_wp2_with fail
  refine (b10Long_no _ _ _ _ hn0).mono ?_
  rintro e w' ⟨rfl, rfl⟩
  go_wp2_with fail
  refine (b10Long_no _ _ _ _ hn1).mono ?_
  rintro e w' ⟨rfl, rfl⟩
  go_wp2_with fail
  refine (drawAB_any I0.out hn0).mono ?_
  rintro e w1 ⟨a, b, rfl, ⟨ha0, ha1⟩, ⟨hb0, hb1⟩, hbe1⟩
  have HB1 := Lib.hid hbe1
  obtain ⟨d0, d1⟩ := btw_bd a b
  obtain ⟨s0, s1⟩ := sgn_bd a b
  obtain ⟨n0, n1⟩ := nrm_bd a
  have D := Lib.hid (fun w => implBtw_any a b w ha0 ha1 hb0 hb1)
  have D2 := Lib.hid (fun w => implBtw_any b a w hb0 hb1 ha0 ha1)
  have SG := Lib.hid (fun w => implSgn_any a b w ha0 ha1 hb0 hb1)
  have NA := Lib.hid (fun w => implNrm_any a w ha0 ha1)
  have NB := Lib.hid (fun w => implNrm_any b w hb0 hb1)
  have NS := Lib.hid (fun w => implNrm_any (nrm a + sgn a b) w (by omega) (by omega))
  have AB := Lib.hid (fun w => b10Abs_any (sgn a b) (btw a b) w (by omega) (by omega) (sgn_abs a b))
  have RT := Lib.hid (angT_back (nrm a) n0 n1)
  have AT := Lib.hid (fun w h => implAngT_any (nrm a) w h)
  rw [sgn_to a b] at NS
  rw [← btw_comm a b] at D2
  clear hbe1 ha0 ha1 hb0 hb1
  generalize btw a b = d at *
  generalize sgn a b = s at *
  generalize nrm a = n at *
  generalize nrm b = nb at *
  go_wp2_with fail
  refine (D.out _).mono ?_
  rintro e w' ⟨rfl, rfl⟩
  go_wp2_with fail
  refine (SG.out _).mono ?_
  rintro e w' ⟨rfl, rfl⟩
  go_wp2_with fail
  refine (NA.out _).mono ?_
  rintro e w' ⟨rfl, rfl⟩
  go_wp2_with fail
  refine (D2.out _).mono ?_
  rintro e w' ⟨rfl, rfl⟩
  go_wp2_with fail
  refine (AB.out _).mono ?_
  rintro e w' ⟨rfl, rfl⟩
  go_wp2_with fail
  refine (NS.out _).mono ?_
  rintro e w' ⟨rfl, rfl⟩
  go_wp2_with fail
  refine (NB.out _).mono ?_
  rintro e w' ⟨rfl, rfl⟩
  go_wp2_with fail
  clear D D2 SG NA NB NS AB
  generalize angTV n = tx at *
  refine (AT.out _ (T.out.below HB1.out)).mono ?_
  rintro e w2 ⟨rfl, hb2⟩
  have HB2 := Lib.hid (HB1.out.trans (hb2.mono HB1.out.size))
  clear hb2 AT
  go_wp2_with fail
  refine (implRA_any tx _ RT.out.2 (T.out.below HB2.out) (EE.out.below HB2.out) (LL.out.below HB2.out)).mono ?_
  rintro e w3 ⟨rfl, hb3⟩
  rw [RT.out.1]
  have HB3 := Lib.hid (HB2.out.trans (hb3.mono HB2.out.size))
  clear hb3
  go_wp2_with fail
  refine (drawTT_any (I1.out.below HB3.out) hn1).mono ?_
  rintro e w4 ⟨x, y, st, rfl, ⟨hx0, hx1⟩, ⟨hy0, hy1⟩, ⟨hs0, hs1⟩, hb4⟩
  have HB4 := Lib.hid (HB3.out.trans (hb4.mono HB3.out.size))
  clear hb4
  by_cases hst : st < 0
  · have TU := Lib.hid (fun w => implTurn_any x y st w hx0 hx1 hy0 hy1 hs1)
    rw [if_pos hst] at TU
    go_wp2_with fail
    refine (TU.out _).mono ?_
    rintro e w' ⟨rfl, rfl⟩
    go_wp2_with fail
    go_ret
    exact ⟨rfl, HB4.out⟩
  have TU := Lib.hid (fun w => implTurn_any x y st w hx0 hx1 hy0 hy1 hs1)
  rw [if_neg hst] at TU
  obtain ⟨z0, z1⟩ : 0 ≤ turnI x y st ∧ turnI x y st < 360000 := nrm_bd _
  have FA := Lib.hid (fun w => implBtw_any x y w hx0 hx1 hy0 hy1)
  have LE := Lib.hid (fun w => implBtw_any (turnI x y st) y w (by omega) (by omega) hy0 hy1)
  obtain ⟨t1, t2, t3⟩ := turn_facts x y st (by omega)
  obtain ⟨k0, k1⟩ := btw_bd x y
  obtain ⟨l0, l1⟩ := btw_bd (turnI x y st) y
  generalize btw (turnI x y st) y = left at *
  generalize turnI x y st = z at *
  generalize btw x y = far at *
  go_wp2_with fail
  refine (TU.out _).mono ?_
  rintro e w' ⟨rfl, rfl⟩
  go_wp2_with fail
  refine (FA.out _).mono ?_
  rintro e w' ⟨rfl, rfl⟩
  go_wp2_with fail
  refine (LE.out _).mono ?_
  rintro e w' ⟨rfl, rfl⟩
  clear TU FA LE
  by_cases hsf : st < far
  · have tl : left = far - st := by omega
    subst tl
    have d9 : far - st ≤ far := by omega
    clear t1 t2 t3
    go_wp2_with fail
    go_ret
    exact ⟨rfl, HB4.out⟩
  · have tl : left = 0 := by omega
    subst tl
    clear t1 t2 t3
    go_wp2_with fail
    go_ret
    exact ⟨rfl, HB4.out⟩
end Go.Proofs.YtbdikmfbdibcgaaDoor
