/-
  The law FnExactValidStars: for every input the call returns true, and each argument reads afterwards as it read before. No condition.
-/
import Derived.Test.YtoellkbmhpekdaaRows
import Derived.Test.YtoellkbmhpekdaaPost0
import Derived.Test.YtoellkbmhpekdaaStarI
import Derived.Test.YtoellkbmhpekdaaPost0
import Derived.WalkKit
import Derived.ProofKit
import Derived.OpenShut
import Derived.ChangeMaps5
import Derived.ChangeSlices
import Derived.Carry
import Derived.Lib.SmallJoins
namespace Go.Proofs.Ytoellkbmhpekdaa.fnExactValidStars
open Go.ChangeShapes Go.WideShapes Go.ChangeAt Go.RowKit Go.ChangeMaps
set_option linter.unusedVariables false

theorem own : ownKnob Try.prog.godebug = none := by kernel_rfl

def Env (_w : World) : Prop := True

set_option maxRecDepth 100000 in
set_option maxHeartbeats 8000000 in
theorem walk (w : World) (v0 : Value) (a0 : List StarV) (w0 : StarsIn w v0 a0) (n0 : a0.length ≤ 9223372036854775807) (henv : Env w) :
    Calls Try.prog 4 #[v0] w fun e w' => e = .returned (.bool true) ∧ Below w.heap.size w w' := by
  have Z := Lib.hid (fun w h => szS_any 1048576 (by omega) (by omega) (w := w) (v := v0) (zs := a0) h n0)
  have I0 := Lib.hid w0
  have OK : Hid (∀ j, (h : j < a0.length) → a0[j].ok) := Lib.hid (by
    intro j hj
    rcases w0 with ⟨a, cap, _, rfl⟩ | ⟨b, off, cap, _, _, hc⟩
    · cases hj
    · exact (hc j hj).2)
  clear w0 n0
  go_enter Try.func4, Try.ntmps4
  go_wp2_with fail
  refine (Z.out _ I0.out).mono ?_
  rintro e w1 ⟨z, rfl, hz0, hz1, hz2, hb1⟩
  have HB1 := Lib.hid hb1
  by_cases hz : z < 0
  · clear hz2 hb1
    go_wp2_with fail
    go_ret
    exact ⟨rfl, HB1.out⟩
  · have hl := hz2 (by omega)
    have I1 := Lib.hid (I0.out.below hb1)
    clear hb1 hz2
    have T := Lib.hid (fun w h => toS_any (w := w) (v := v0) (zs := a0) h hl)
    have F1 := Lib.hid (fun g cap w h => specValidStars_any g cap a0 w (by omega) h)
    have F2 := Lib.hid (fun g cap w h => validStars_any g cap a0 w (by omega) h OK.out)
    have EQ := Lib.hid (fun g g' cap cap' w h h' => eqS_full g g' cap cap' a0 w (by omega) h h')
    generalize okL a0 = r at *
    go_wp2_with fail
    refine (T.out _ I1.out).mono ?_
    rintro e w2 ⟨rfl, hR2, hb2⟩
    have I2 := Lib.hid (I1.out.below hb2)
    have HB2 := Lib.hid (HB1.out.trans (hb2.mono HB1.out.size))
    have R2 := Lib.hid hR2
    clear hb2 hR2
    go_wp2_with fail
    refine (F1.out _ _ _ R2.out).mono ?_
    rintro e w3 ⟨rfl, hb3⟩
    have I3 := Lib.hid (I2.out.below hb3)
    have HB3 := Lib.hid (HB2.out.trans (hb3.mono HB2.out.size))
    clear hb3
    go_wp2_with fail
    refine (T.out _ I3.out).mono ?_
    rintro e w4 ⟨rfl, hR4, hb4⟩
    have I4 := Lib.hid (I3.out.below hb4)
    have HB4 := Lib.hid (HB3.out.trans (hb4.mono HB3.out.size))
    have R4 := Lib.hid hR4
    clear hb4 hR4
    go_wp2_with fail
    refine (F2.out _ _ _ R4.out).mono ?_
    rintro e w5 ⟨rfl, hb5⟩
    have I5 := Lib.hid (I4.out.below hb5)
    have R5 := Lib.hid (R4.out.below hb5)
    have HB5 := Lib.hid (HB4.out.trans (hb5.mono HB4.out.size))
    clear hb5
    go_wp2_with fail
    refine (T.out _ I5.out).mono ?_
    rintro e w6 ⟨rfl, hR6, hb6⟩
    have R5' := Lib.hid (R5.out.below hb6)
    have HB6 := Lib.hid (HB5.out.trans (hb6.mono HB5.out.size))
    have R6 := Lib.hid hR6
    clear hb6 hR6
    go_wp2_with fail
    refine (EQ.out _ _ _ _ _ R5'.out R6.out).mono ?_
    rintro e w7 ⟨rfl, hb7⟩
    have HB7 := Lib.hid (HB6.out.trans (hb7.mono HB6.out.size))
    clear hb7
    go_wp2_with fail
    go_ret
    exact ⟨rfl, HB7.out⟩

set_option maxRecDepth 100000 in
set_option maxHeartbeats 2000000 in
theorem contract (H : Type) (enc : TypeId × Value → H) (W : World) (base : Nat) (args : Array Value) (ds gs : List (DataW H)) (before : List MemPlace)
    (hval : ∀ (j : Nat) t v, Try.f4.params[j]? = some t → args[j]? = some v → Value.okWide Try.prog W .any base t v)
    (hW : DataW.Whole enc Try.prog Try.f4.params.toList Rows.fnExactValidStarsSpec.vars false W args.toList ds gs before) (henv : Env W) :
    Calls Try.prog 4 args W fun e W' => ∃ v, e = .returned v ∧ Rows.fnExactValidStarsSpec.post enc Try.prog Try.f4 false true false false W args v W' := by
  have hW' := hW
  obtain ⟨p, q, hA0, hV, rfl, hfz, hnd⟩ := hW
  have hA : DataW.TrodAll enc Try.prog W 0 (fun _ => true) true Try.f4.params.toList args.toList ds p := hA0
  rw [Try.params4] at hA hval
  obtain ⟨v0, vs0, d0, ds0, p0, q0, hargs0, rfl, rfl, h0, r0⟩ := trodAll_cons hA
  obtain ⟨rfl, rfl, rfl⟩ := trodAll_nil r0
  obtain rfl : args = #[v0] := by cases args; simp_all
  obtain ⟨rfl, rfl⟩ := trodVars_none hV
  have h0k := h0
  obtain ⟨sa0, sn0, sc0, rfl⟩ := okWide_slice Try.underlying29 (hval 0 29 v0 rfl rfl)
  obtain ⟨a0, w0, n0⟩ := stars_open h0
  clear hA0
  have hltp : ∀ x ∈ p0 ++ [] ++ [], x.block < W.heap.size := fun x hx => hW'.lt x hx
  refine (walk W _ a0 w0 n0 henv).mono fun e W' ⟨he, hg⟩ => ?_
  subst he
  exact ⟨_, rfl, post_of_below (pa := p0 ++ []) (pv := []) hW' (fun _ _ _ => (trodAll_cons_mk (shut_bool Try.underlying4 _) trodAll_mk0)) (fun sp hsp => (trodAll_cons_mk (WideElems.Trod_stays (by kernel_rfl) (by kernel_rfl) (of_decide_eq_true (by kernel_rfl)) h0k (fun x hx => hg.same (hltp x (by simp [hx]))) (fun x hx => hsp x (by simp [hx]))) trodAll_mk0)) (fun _ _ => rfl) rfl
    hg (ok_one (by kernel_rfl) rfl (okWide_bool_mk Try.underlying4 _))⟩

set_option maxRecDepth 100000 in
theorem lifted (os : Os) (started : os.Started) (H : Type) (enc : TypeId × Value → H) :
    ReturnsInHanded {} Try.checked os 4 .any (Rows.fnExactValidStarsSpec.pre6 enc Try.prog Try.f4 Rows.fnExactValidStarsRow.domain false) (Rows.fnExactValidStarsSpec.post enc Try.prog Try.f4 false true false false) := by
  refine returnsInHanded_of_change (C := Try.checked) own started (by kernel_rfl) Try.func4
    (ChangeSpec.witness6 (enc := enc) (C := Try.checked) false ⟨#[], #[.slice none 0 0], []⟩ 8 (by kernel_rfl) (by kernel_rfl) (by kernel_rfl) (by kernel_rfl)) ?_
  intro W base args ds gs before hval hW _ _
  exact contract H enc W base args ds gs before hval hW trivial

theorem over : Rows.fnExactValidStarsRow.holds Try.pinned (OpenSpec.ofChange Rows.fnExactValidStarsSpec) :=
  OpenClaim.holds_of_wide 4 Try.f4 rfl rfl rfl rfl rfl rfl rfl ⟨rfl, rfl, rfl, rfl, rfl⟩ rfl rfl rfl rfl rfl (by kernel_rfl) Try.func4 (by kernel_rfl)
    (of_decide_eq_true (by kernel_rfl)) (by unfold Func.isWrapper; first | (rw [if_pos (by decide +kernel)]; kernel_rfl) | (rw [if_neg (by decide +kernel)]; exact ⟨rfl, rfl⟩))
    (fun os started H enc _ => lifted os started H enc)

theorem proved : Rows.FnExactValidStarsSaid :=
  over
#print axioms proved
end Go.Proofs.Ytoellkbmhpekdaa.fnExactValidStars
