/-
  The law FnExactDropStar: for every input the call returns true, and each argument reads afterwards as it read before. No condition.
-/
import Derived.Test.YtfjhlapcopjfiaaRows
import Derived.Test.YtfjhlapcopjfiaaPost0
import Derived.Test.YtfjhlapcopjfiaaDropI
import Derived.WalkKit
import Derived.ProofKit
import Derived.OpenShut
import Derived.ChangeMaps5
import Derived.ChangeSlices
import Derived.Carry
import Derived.Lib.SmallJoins
namespace Go.Proofs.Ytfjhlapcopjfiaa.fnExactDropStar
open Go.ChangeShapes Go.WideShapes Go.ChangeAt Go.RowKit Go.ChangeMaps
set_option linter.unusedVariables false

theorem own : ownKnob Try.prog.godebug = none := by kernel_rfl

def Env (_w : World) : Prop := True

set_option maxRecDepth 100000 in
set_option maxHeartbeats 8000000 in
theorem walk (w : World) (v0 : Value) (a0 : List StarV) (w0 : StarsIn w v0 a0) (n0 : a0.length ≤ 9223372036854775807) (a1 : ByteArray) (w1 : a1.size ≤ maxLen) (henv : Env w) :
    Calls Try.prog 5 #[v0, .string a1] w fun e w' => e = .returned (.bool true) ∧ Below w.heap.size w w' := by
  have Z := Lib.hid (fun w h => szS_any 1048576 (by omega) (by omega) (w := w) (v := v0) (zs := a0) h n0)
  have I0 := Lib.hid w0
  have OK : Hid (∀ j, (h : j < a0.length) → a0[j].ok) := Lib.hid (by
    intro j hj
    rcases w0 with ⟨a, cap, _, rfl⟩ | ⟨b, off, cap, _, _, hc⟩
    · cases hj
    · exact (hc j hj).2)
  clear w0 n0
  by_cases hbig : 1048576 < a1.size
  · have h1 : decide ((1048576 : Int) < (a1.size : Int)) = true := by simp; omega
    go_enter Try.func5, Try.ntmps5
    go_wp2_with fail
    go_ret
    exact ⟨rfl, Below.refl _ _⟩
  have h1 : decide ((1048576 : Int) < (a1.size : Int)) = false := by simp; omega
  go_enter Try.func5, Try.ntmps5
  go_wp2_with fail
  refine (Z.out _ I0.out).mono ?_
  rintro e w1 ⟨z, rfl, hz0, hz1, hz2, hb1⟩
  have HB1 := Lib.hid hb1
  by_cases hz : z < 0
  · clear hz2 hb1
    go_wp2_with fail
    go_ret
    exact ⟨rfl, HB1.out⟩
  · have hl := hz2 (by omega)
    clear hb1 hz2
    have T := Lib.hid (fun w h => toS_any (w := w) (v := v0) (zs := a0) h hl)
    have F1 := Lib.hid (fun g w h => specDrop_any g a0.length a0 a1 w (by omega) h)
    have F2 := Lib.hid (fun g w h => implDrop_any g a0 a1 w (by omega) h OK.out)
    have EQ := Lib.hid (fun g g' cap cap' w h h' => eqS_full g g' cap cap' a0 w (by omega) h h')
    have MK := Lib.hid (fun g cap w h => markSt_full g cap a0 w (by omega) h)
    have hrl : (dropV a0 a1).1.length ≤ 1048576 := by
      have := dropV_len a0 a1
      omega
    obtain ⟨L, c, hR⟩ : ∃ L c, dropV a0 a1 = (L, c) := ⟨_, _, rfl⟩
    rw [hR] at F1 F2 hrl
    unfold SPost at F1 F2
    clear hR
    simp only at hrl F1 F2
    go_wp2_with fail
    refine (T.out _ (I0.out.below HB1.out)).mono ?_
    rintro e w2 ⟨rfl, hR2, hb2⟩
    have HB2 := Lib.hid (HB1.out.trans (hb2.mono HB1.out.size))
    have R2 := Lib.hid hR2
    clear hb2 hR2
    go_wp2_with fail
    refine (F1.out _ _ R2.out).mono ?_
    rintro e w3 ⟨v, rfl, ho3, hb3⟩
    have HB3 := Lib.hid (HB2.out.trans (hb3.mono HB2.out.size))
    have O3 := Lib.hid ho3
    clear hb3 ho3
    go_wp2_with fail
    refine (T.out _ (I0.out.below HB3.out)).mono ?_
    rintro e w4 ⟨rfl, hR4, hb4⟩
    have HB4 := Lib.hid (HB3.out.trans (hb4.mono HB3.out.size))
    have HC4 := Lib.hid hb4
    have R4 := Lib.hid hR4
    have hg4 : w3.heap.size < w4.heap.size := hR4.lt
    clear hb4 hR4
    go_wp2_with fail
    refine (F2.out _ _ R4.out).mono ?_
    rintro e w5 ⟨u, rfl, ho5, hb5⟩
    have HB5 := Lib.hid (HB4.out.trans (hb5.mono HB4.out.size))
    have HC5 := Lib.hid (HC4.out.trans (hb5.mono HC4.out.size))
    have R5 := Lib.hid (R4.out.below hb5)
    have O5 := Lib.hid ho5
    have hs5 := hb5.size
    clear hb5 ho5
    go_wp2_with fail
    refine (eqSO_any hrl O5.out (O3.out.keep HC5.out)).mono ?_
    rintro e w6 ⟨rfl, hb6⟩
    have HB6 := Lib.hid (HB5.out.trans (hb6.mono HB5.out.size))
    have HC6 := Lib.hid (HC5.out.trans (hb6.mono HC5.out.size))
    have R6 := Lib.hid (R5.out.below hb6)
    have O6 := Lib.hid (O5.out.keep hb6)
    have hs6 := hb6.size
    clear hb6
    go_wp2_with fail
    refine (T.out _ (I0.out.below HB6.out)).mono ?_
    rintro e w7 ⟨rfl, hR7, hb7⟩
    have HB7 := Lib.hid (HB6.out.trans (hb7.mono HB6.out.size))
    have HC7 := Lib.hid (HC6.out.trans (hb7.mono HC6.out.size))
    have R7 := Lib.hid (R6.out.below hb7)
    have R7' := Lib.hid hR7
    have O7 := Lib.hid (O6.out.keep hb7)
    have hs7 := hb7.size
    clear hb7 hR7
    go_wp2_with fail
    refine (EQ.out _ _ _ _ _ R7.out R7'.out).mono ?_
    rintro e w8 ⟨rfl, hb8⟩
    have HB8 := Lib.hid (HB7.out.trans (hb8.mono HB7.out.size))
    have HC8 := Lib.hid (HC7.out.trans (hb8.mono HC7.out.size))
    have R8 := Lib.hid (R7.out.below hb8)
    have O8 := Lib.hid (O7.out.keep hb8)
    have hs8 := hb8.size
    clear hb8
    go_wp2_with fail
    refine (MK.out _ _ _ R8.out).mono ?_
    rintro e w9 ⟨rfl, hg9⟩
    have HC9 := Lib.hid (HC8.out.trans (gb_below hg9 (Nat.le_refl _) (by omega)))
    have HB9 := Lib.hid (HB8.out.trans (gb_below hg9 HB3.out.size (by have := HB3.out.size; omega)))
    have O9 := Lib.hid (O8.out.gb hg9 hg4)
    have hs9 := hg9.size
    clear hg9
    go_wp2_with fail
    refine (eqSO_any hrl O9.out (O3.out.keep HC9.out)).mono ?_
    rintro e w10 ⟨rfl, hb10⟩
    have HB10 := Lib.hid (HB9.out.trans (hb10.mono HB9.out.size))
    have HC10 := Lib.hid (HC9.out.trans (hb10.mono HC9.out.size))
    have O10 := Lib.hid (O9.out.keep hb10)
    have hs10 := hb10.size
    clear hb10
    go_wp2_with fail
    refine (markSO_any 1 (by omega) (by omega) (by omega) (by omega) O10.out).mono ?_
    rintro e w11 ⟨rfl, ho11, hb11⟩
    have HB11 := Lib.hid (HB10.out.trans (hb11.mono HB4.out.size))
    have HC11 := Lib.hid (HC10.out.trans (hb11.mono (by omega)))
    have O11 := Lib.hid ho11
    have hs11 := hb11.size
    clear hb11 ho11
    go_wp2_with fail
    refine (heldSO_any 1 (by omega) (by omega) (by omega) O11.out).mono ?_
    rintro e w12 ⟨rfl, hb12⟩
    have HB12 := Lib.hid (HB11.out.trans (hb12.mono HB11.out.size))
    have HC12 := Lib.hid (HC11.out.trans (hb12.mono HC11.out.size))
    have O12 := Lib.hid (O11.out.keep hb12)
    clear hb12
    go_wp2_with fail
    refine (T.out _ (I0.out.below HB12.out)).mono ?_
    rintro e w13 ⟨rfl, hR13, hb13⟩
    have HB13 := Lib.hid (HB12.out.trans (hb13.mono HB12.out.size))
    have HC13 := Lib.hid (HC12.out.trans (hb13.mono HC12.out.size))
    have R13 := Lib.hid hR13
    have O13 := Lib.hid (O12.out.keep hb13)
    clear hb13 hR13
    go_wp2_with fail
    refine (F2.out _ _ R13.out).mono ?_
    rintro e w14 ⟨u2, rfl, ho14, hb14⟩
    have HB14 := Lib.hid (HB13.out.trans (hb14.mono HB13.out.size))
    have HC14 := Lib.hid (HC13.out.trans (hb14.mono HC13.out.size))
    have O14 := Lib.hid (O13.out.keep hb14)
    have P14 := Lib.hid ho14
    clear hb14 ho14
    go_wp2_with fail
    refine (eqSO_any hrl P14.out (O3.out.keep HC14.out)).mono ?_
    rintro e w15 ⟨rfl, hb15⟩
    have HB15 := Lib.hid (HB14.out.trans (hb15.mono HB14.out.size))
    have O15 := Lib.hid (O14.out.keep hb15)
    clear hb15
    go_wp2_with fail
    refine (heldSO_any 1 (by omega) (by omega) (by omega) O15.out).mono ?_
    rintro e w16 ⟨rfl, hb16⟩
    have HB16 := Lib.hid (HB15.out.trans (hb16.mono HB15.out.size))
    clear hb16
    go_wp2_with fail
    go_ret
    exact ⟨rfl, HB16.out⟩

set_option maxRecDepth 100000 in
set_option maxHeartbeats 2000000 in
theorem contract (H : Type) (enc : TypeId × Value → H) (W : World) (base : Nat) (args : Array Value) (ds gs : List (DataW H)) (before : List MemPlace)
    (hval : ∀ (j : Nat) t v, Try.f5.params[j]? = some t → args[j]? = some v → Value.okWide Try.prog W .any base t v)
    (hW : DataW.Whole enc Try.prog Try.f5.params.toList Rows.fnExactDropStarSpec.vars false W args.toList ds gs before) (henv : Env W) :
    Calls Try.prog 5 args W fun e W' => ∃ v, e = .returned v ∧ Rows.fnExactDropStarSpec.post enc Try.prog Try.f5 false true false false W args v W' := by
  have hW' := hW
  obtain ⟨p, q, hA0, hV, rfl, hfz, hnd⟩ := hW
  have hA : DataW.TrodAll enc Try.prog W 0 (fun _ => true) true Try.f5.params.toList args.toList ds p := hA0
  rw [Try.params5] at hA hval
  obtain ⟨v0, vs0, d0, ds0, p0, q0, hargs0, rfl, rfl, h0, r0⟩ := trodAll_cons hA
  obtain ⟨v1, vs1, d1, ds1, p1, q1, hargs1, rfl, rfl, h1, r1⟩ := trodAll_cons r0
  obtain ⟨rfl, rfl, rfl⟩ := trodAll_nil r1
  obtain rfl : args = #[v0, v1] := by cases args; simp_all
  obtain ⟨rfl, rfl⟩ := trodVars_none hV
  have h0k := h0
  obtain ⟨sa0, sn0, sc0, rfl⟩ := okWide_slice Try.underlying29 (hval 0 29 v0 rfl rfl)
  obtain ⟨a0, w0, n0⟩ := stars_open h0
  obtain ⟨a1, rfl, rfl, rfl, w1⟩ := open_string Try.underlying9 (hval 1 9 v1 rfl rfl) h1
  clear hA0
  have hltp : ∀ x ∈ p0 ++ ([] ++ []) ++ [], x.block < W.heap.size := fun x hx => hW'.lt x hx
  refine (walk W _ a0 w0 n0 a1 w1 henv).mono fun e W' ⟨he, hg⟩ => ?_
  subst he
  exact ⟨_, rfl, post_of_below (pa := p0 ++ ([] ++ [])) (pv := []) hW' (fun _ _ _ => (trodAll_cons_mk (shut_bool Try.underlying4 _) trodAll_mk0)) (fun sp hsp => (trodAll_cons_mk (WideElems.Trod_stays (by kernel_rfl) (by kernel_rfl) (of_decide_eq_true (by kernel_rfl)) h0k (fun x hx => hg.same (hltp x (by simp [hx]))) (fun x hx => hsp x (by simp [hx]))) (trodAll_cons_mk (shut_string Try.underlying9 w1) trodAll_mk0))) (fun _ _ => rfl) rfl
    hg (ok_one (by kernel_rfl) rfl (okWide_bool_mk Try.underlying4 _))⟩

set_option maxRecDepth 100000 in
theorem lifted (os : Os) (started : os.Started) (H : Type) (enc : TypeId × Value → H) :
    ReturnsInHanded {} Try.checked os 5 .any (Rows.fnExactDropStarSpec.pre6 enc Try.prog Try.f5 Rows.fnExactDropStarRow.domain false) (Rows.fnExactDropStarSpec.post enc Try.prog Try.f5 false true false false) := by
  refine returnsInHanded_of_change (C := Try.checked) own started (by kernel_rfl) Try.func5
    (ChangeSpec.witness6 (enc := enc) (C := Try.checked) false ⟨#[], #[.slice none 0 0, .string ByteArray.empty], []⟩ 8 (by kernel_rfl) (by kernel_rfl) (by kernel_rfl) (by kernel_rfl)) ?_
  intro W base args ds gs before hval hW _ _
  exact contract H enc W base args ds gs before hval hW trivial

theorem over : Rows.fnExactDropStarRow.holds Try.pinned (OpenSpec.ofChange Rows.fnExactDropStarSpec) :=
  OpenClaim.holds_of_wide 5 Try.f5 rfl rfl rfl rfl rfl rfl rfl ⟨rfl, rfl, rfl, rfl, rfl⟩ rfl rfl rfl rfl rfl (by kernel_rfl) Try.func5 (by kernel_rfl)
    (of_decide_eq_true (by kernel_rfl)) (by unfold Func.isWrapper; first | (rw [if_pos (by decide +kernel)]; kernel_rfl) | (rw [if_neg (by decide +kernel)]; exact ⟨rfl, rfl⟩))
    (fun os started H enc _ => lifted os started H enc)

theorem proved : Rows.FnExactDropStarSaid :=
  over
#print axioms proved
end Go.Proofs.Ytfjhlapcopjfiaa.fnExactDropStar
