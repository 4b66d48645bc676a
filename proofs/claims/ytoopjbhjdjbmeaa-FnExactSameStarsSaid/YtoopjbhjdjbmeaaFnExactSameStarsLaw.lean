/-
  The law FnExactSameStars: for every input the call returns true, and each argument reads afterwards as it read before. No condition.
-/
import Derived.Test.YtoopjbhjdjbmeaaRows
import Derived.Test.YtoopjbhjdjbmeaaPost0
import Derived.Test.YtoopjbhjdjbmeaaSame
import Derived.WalkKit
import Derived.ProofKit
import Derived.OpenShut
import Derived.ChangeMaps5
import Derived.ChangeSlices
import Derived.Carry
import Derived.Lib.SmallJoins
namespace Go.Proofs.Ytoopjbhjdjbmeaa.fnExactSameStars
open Go.ChangeShapes Go.WideShapes Go.ChangeAt Go.RowKit Go.ChangeMaps
set_option linter.unusedVariables false

theorem own : ownKnob Try.prog.godebug = none := by kernel_rfl

def Env (_w : World) : Prop := True

set_option maxHeartbeats 1000000 in
theorem walk (w : World) (v0 : Value) (a0 : List StarV) (w0 : StarsIn w v0 a0) (n0 : a0.length ≤ 9223372036854775807) (v1 : Value) (a1 : List StarV) (w1 : StarsIn w v1 a1) (n1 : a1.length ≤ 9223372036854775807) (henv : Env w) :
    Calls Try.prog 5 #[v0, v1] w fun e w' => e = .returned (.bool true) ∧ Below w.heap.size w w' := by
  have Z0 := Lib.hid (fun w h => szS_any 1048576 (by omega) (by omega) (w := w) (v := v0) (zs := a0) h n0)
  have Z1 := Lib.hid (fun l h0 h1 w h => szS_any l h0 h1 (w := w) (v := v1) (zs := a1) h n1)
  have I0 := Lib.hid w0
  have J0 := Lib.hid w1
  clear w0 w1 n0 n1
  go_enter Try.func5, Try.ntmps5
  go_wp2_with fail
  refine (Z0.out _ I0.out).mono ?_
  rintro e w1 ⟨z, rfl, hz0, hz1, hz2, hb1⟩
  have HB1 := Lib.hid hb1
  by_cases hz : z < 0
  · clear hz2 hb1
    go_wp2_with fail
    go_ret
    exact ⟨rfl, HB1.out⟩
  · have hl := hz2 (by omega)
    have I1 := Lib.hid (I0.out.below hb1)
    have J1 := Lib.hid (J0.out.below hb1)
    clear hb1 hz2
    go_wp2_with fail
    refine (Z1.out z (by omega) (by omega) _ J1.out).mono ?_
    rintro e w2 ⟨y, rfl, hy0, hy1, hy2, hb2⟩
    have HB2 := Lib.hid (HB1.out.trans (hb2.mono HB1.out.size))
    by_cases hy : y < 0
    · clear hy2 hb2
      go_wp2_with fail
      go_ret
      exact ⟨rfl, HB2.out⟩
    · have hl' := hy2 (by omega)
      have I2 := Lib.hid (I1.out.below hb2)
      have J2 := Lib.hid (J1.out.below hb2)
      clear hb2 hy2
      have T0 := Lib.hid (fun w h => toS_any (w := w) (v := v0) (zs := a0) h hl)
      have T1 := Lib.hid (fun w h => toS_any (w := w) (v := v1) (zs := a1) h hl')
      have F1 := Lib.hid (fun g g' cap cap' w h h' => specSame_any g g' cap cap' a0 a1 w (by omega) h h')
      have F2 := Lib.hid (fun g g' cap cap' w h h' => implSame_any g g' cap cap' a0 a1 w (by omega) h h')
      have E0 := Lib.hid (fun g g' cap cap' w h h' => eqS_full g g' cap cap' a0 w (by omega) h h')
      have E1 := Lib.hid (fun g g' cap cap' w h h' => eqS_full g g' cap cap' a1 w (by omega) h h')
      generalize sameL a0 a1 = r at *
      go_wp2_with fail
      refine (T0.out _ I2.out).mono ?_
      rintro e w3 ⟨rfl, hR3, hb3⟩
      have I3 := Lib.hid (I2.out.below hb3)
      have J3 := Lib.hid (J2.out.below hb3)
      have HB3 := Lib.hid (HB2.out.trans (hb3.mono HB2.out.size))
      have P3 := Lib.hid hR3
      clear hb3 hR3
      go_wp2_with fail
      refine (T1.out _ J3.out).mono ?_
      rintro e w4 ⟨rfl, hR4, hb4⟩
      have I4 := Lib.hid (I3.out.below hb4)
      have J4 := Lib.hid (J3.out.below hb4)
      have P4 := Lib.hid (P3.out.below hb4)
      have HB4 := Lib.hid (HB3.out.trans (hb4.mono HB3.out.size))
      have Q4 := Lib.hid hR4
      clear hb4 hR4
      go_wp2_with fail
      refine (F1.out _ _ _ _ _ P4.out Q4.out).mono ?_
      rintro e w5 ⟨rfl, hb5⟩
      have I5 := Lib.hid (I4.out.below hb5)
      have J5 := Lib.hid (J4.out.below hb5)
      have P5 := Lib.hid (P4.out.below hb5)
      have Q5 := Lib.hid (Q4.out.below hb5)
      have HB5 := Lib.hid (HB4.out.trans (hb5.mono HB4.out.size))
      clear hb5
      go_wp2_with fail
      refine (T0.out _ I5.out).mono ?_
      rintro e w6 ⟨rfl, hR6, hb6⟩
      have I6 := Lib.hid (I5.out.below hb6)
      have J6 := Lib.hid (J5.out.below hb6)
      have HB6 := Lib.hid (HB5.out.trans (hb6.mono HB5.out.size))
      have P6 := Lib.hid hR6
      clear hb6 hR6
      go_wp2_with fail
      refine (T1.out _ J6.out).mono ?_
      rintro e w7 ⟨rfl, hR7, hb7⟩
      have I7 := Lib.hid (I6.out.below hb7)
      have J7 := Lib.hid (J6.out.below hb7)
      have P7 := Lib.hid (P6.out.below hb7)
      have HB7 := Lib.hid (HB6.out.trans (hb7.mono HB6.out.size))
      have Q7 := Lib.hid hR7
      clear hb7 hR7
      go_wp2_with fail
      refine (F2.out _ _ _ _ _ P7.out Q7.out).mono ?_
      rintro e w8 ⟨rfl, hb8⟩
      have I8 := Lib.hid (I7.out.below hb8)
      have J8 := Lib.hid (J7.out.below hb8)
      have P8 := Lib.hid (P7.out.below hb8)
      have Q8 := Lib.hid (Q7.out.below hb8)
      have HB8 := Lib.hid (HB7.out.trans (hb8.mono HB7.out.size))
      clear hb8
      go_wp2_with fail
      refine (T0.out _ I8.out).mono ?_
      rintro e w9 ⟨rfl, hR9, hb9⟩
      have I9 := Lib.hid (I8.out.below hb9)
      have J9 := Lib.hid (J8.out.below hb9)
      have P9 := Lib.hid (P8.out.below hb9)
      have Q9 := Lib.hid (Q8.out.below hb9)
      have HB9 := Lib.hid (HB8.out.trans (hb9.mono HB8.out.size))
      have X9 := Lib.hid hR9
      clear hb9 hR9
      go_wp2_with fail
      refine (E0.out _ _ _ _ _ P9.out X9.out).mono ?_
      rintro e w10 ⟨rfl, hb10⟩
      have I10 := Lib.hid (I9.out.below hb10)
      have J10 := Lib.hid (J9.out.below hb10)
      have P10 := Lib.hid (P9.out.below hb10)
      have Q10 := Lib.hid (Q9.out.below hb10)
      have X10 := Lib.hid (X9.out.below hb10)
      have HB10 := Lib.hid (HB9.out.trans (hb10.mono HB9.out.size))
      clear hb10
      go_wp2_with fail
      refine (T1.out _ J10.out).mono ?_
      rintro e w11 ⟨rfl, hR11, hb11⟩
      have I11 := Lib.hid (I10.out.below hb11)
      have J11 := Lib.hid (J10.out.below hb11)
      have P11 := Lib.hid (P10.out.below hb11)
      have Q11 := Lib.hid (Q10.out.below hb11)
      have X11 := Lib.hid (X10.out.below hb11)
      have HB11 := Lib.hid (HB10.out.trans (hb11.mono HB10.out.size))
      have Y11 := Lib.hid hR11
      clear hb11 hR11
      go_wp2_with fail
      refine (E1.out _ _ _ _ _ Q11.out Y11.out).mono ?_
      rintro e w12 ⟨rfl, hb12⟩
      have I12 := Lib.hid (I11.out.below hb12)
      have J12 := Lib.hid (J11.out.below hb12)
      have P12 := Lib.hid (P11.out.below hb12)
      have Q12 := Lib.hid (Q11.out.below hb12)
      have X12 := Lib.hid (X11.out.below hb12)
      have Y12 := Lib.hid (Y11.out.below hb12)
      have HB12 := Lib.hid (HB11.out.trans (hb12.mono HB11.out.size))
      clear hb12
      go_wp2_with fail
      go_ret
      exact ⟨rfl, HB12.out⟩

set_option maxRecDepth 100000 in
theorem contract (H : Type) (enc : TypeId × Value → H) (W : World) (base : Nat) (args : Array Value) (ds gs : List (DataW H)) (before : List MemPlace)
    (hval : ∀ (j : Nat) t v, Try.f5.params[j]? = some t → args[j]? = some v → Value.okWide Try.prog W .any base t v)
    (hW : DataW.Whole enc Try.prog Try.f5.params.toList Rows.fnExactSameStarsSpec.vars false W args.toList ds gs before) (henv : Env W) :
    Calls Try.prog 5 args W fun e W' => ∃ v, e = .returned v ∧ Rows.fnExactSameStarsSpec.post enc Try.prog Try.f5 false true false false W args v W' := by
  have hW' := hW
  obtain ⟨p, q, hA0, hV, rfl, hfz, hnd⟩ := hW
  have hA : DataW.TrodAll enc Try.prog W 0 (fun _ => true) true Try.f5.params.toList args.toList ds p := hA0
  rw [Try.params5] at hA hval
  obtain ⟨v0, vs0, d0, ds0, p0, q0, hargs0, rfl, rfl, h0, r0⟩ := trodAll_cons hA
  obtain ⟨v1, vs1, d1, ds1, p1, q1, hargs1, rfl, rfl, h1, r1⟩ := trodAll_cons r0
  obtain ⟨rfl, rfl, rfl⟩ := trodAll_nil r1
  obtain rfl : args = #[v0, v1] := by cases args; simp_all
  obtain ⟨rfl, rfl⟩ := trodVars_none hV
  have h0k := h0
  obtain ⟨sa0, sn0, sc0, rfl⟩ := okWide_slice Try.underlying29 (hval 0 29 v0 rfl rfl)
  obtain ⟨a0, w0, n0⟩ := stars_open h0
  have h1k := h1
  obtain ⟨sa1, sn1, sc1, rfl⟩ := okWide_slice Try.underlying29 (hval 1 29 v1 rfl rfl)
  obtain ⟨a1, w1, n1⟩ := stars_open h1
  clear hA0
  have hltp : ∀ x ∈ p0 ++ (p1 ++ []) ++ [], x.block < W.heap.size := fun x hx => hW'.lt x hx
  refine (walk W _ a0 w0 n0 _ a1 w1 n1 henv).mono fun e W' ⟨he, hg⟩ => ?_
  subst he
  exact ⟨_, rfl, post_of_below (pa := p0 ++ (p1 ++ [])) (pv := []) hW' (fun _ _ _ => (trodAll_cons_mk (shut_bool Try.underlying4 _) trodAll_mk0)) (fun sp hsp => (trodAll_cons_mk (WideElems.Trod_stays (by kernel_rfl) (by kernel_rfl) (of_decide_eq_true (by kernel_rfl)) h0k (fun x hx => hg.same (hltp x (by simp [hx]))) (fun x hx => hsp x (by simp [hx]))) (trodAll_cons_mk (WideElems.Trod_stays (by kernel_rfl) (by kernel_rfl) (of_decide_eq_true (by kernel_rfl)) h1k (fun x hx => hg.same (hltp x (by simp [hx]))) (fun x hx => hsp x (by simp [hx]))) trodAll_mk0))) (fun _ _ => rfl) rfl
    hg (ok_one (by kernel_rfl) rfl (okWide_bool_mk Try.underlying4 _))⟩

set_option maxRecDepth 100000 in
theorem lifted (os : Os) (started : os.Started) (H : Type) (enc : TypeId × Value → H) :
    ReturnsInHanded {} Try.checked os 5 .any (Rows.fnExactSameStarsSpec.pre6 enc Try.prog Try.f5 Rows.fnExactSameStarsRow.domain false) (Rows.fnExactSameStarsSpec.post enc Try.prog Try.f5 false true false false) := by
  refine returnsInHanded_of_change (C := Try.checked) own started (by kernel_rfl) Try.func5
    (ChangeSpec.witness6 (enc := enc) (C := Try.checked) false ⟨#[], #[.slice none 0 0, .slice none 0 0], []⟩ 8 (by kernel_rfl) (by kernel_rfl) (by kernel_rfl) (by kernel_rfl)) ?_
  intro W base args ds gs before hval hW _ _
  exact contract H enc W base args ds gs before hval hW trivial

theorem over : Rows.fnExactSameStarsRow.holds Try.pinned (OpenSpec.ofChange Rows.fnExactSameStarsSpec) :=
  OpenClaim.holds_of_wide 5 Try.f5 rfl rfl rfl rfl rfl rfl rfl ⟨rfl, rfl, rfl, rfl, rfl⟩ rfl rfl rfl rfl rfl (by kernel_rfl) Try.func5 (by kernel_rfl)
    (of_decide_eq_true (by kernel_rfl)) (by unfold Func.isWrapper; first | (rw [if_pos (by decide +kernel)]; kernel_rfl) | (rw [if_neg (by decide +kernel)]; exact ⟨rfl, rfl⟩))
    (fun os started H enc _ => lifted os started H enc)

theorem proved : Rows.FnExactSameStarsSaid :=
  over
#print axioms proved
end Go.Proofs.Ytoopjbhjdjbmeaa.fnExactSameStars
