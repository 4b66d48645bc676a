/-
  The law FnExactPowerCurve: for every input the call returns true, and each argument reads afterwards as it read before. No condition.
-/
import Derived.Test.YtamdnfmodmlohaaRows
import Derived.Test.YtamdnfmodmlohaaPost0
import Derived.Test.YtamdnfmodmlohaaPow
import Derived.WalkKit
import Derived.ProofKit
import Derived.OpenShut
import Derived.ChangeMaps5
import Derived.Lib.SmallJoins
namespace Go.Proofs.Ytamdnfmodmlohaa.fnExactPowerCurve
open Go.ChangeShapes Go.WideShapes Go.ChangeAt Go.RowKit Go.ChangeMaps
set_option linter.unusedVariables false

theorem own : ownKnob Try.prog.godebug = none := by kernel_rfl

def Env (_w : World) : Prop := True

set_option maxHeartbeats 1000000 in
theorem walk (w : World) (a0 : Int) (w0 : (Lit.int .i64 a0).wf = true) (henv : Env w) :
    Calls Try.prog 7 #[.int .i64 a0] w fun e w' => e = .returned (.bool true) ∧ Below w.heap.size w w' := by
  go_enter Try.func7, Try.ntmps7
  go_wp2_with fail
  have HB0 : Hid (Below w.heap.size w w) := Lib.hid (Below.refl _ _)
  have F1 := Lib.hid (fun W  => Kn.specPower_any a0 W)
  have F2 := Lib.hid (fun W  => Kn.implPower_any a0 W)
  have hrl : (Kn.powR a0).1.length ≤ 1048576 := Kn.powR_len a0
  unfold Kn.KPost at F1 F2
  generalize Kn.powR a0 = R at *
  obtain ⟨L, k⟩ := R
  simp only at F1 F2 hrl
  refine (F1.out _ ).mono ?_
  rintro e w1 ⟨uw0, rfl, ho0, hb⟩
  have HO0 := Lib.hid ho0
  clear ho0
  have hsw1 := hb.size
  have HB1 := Lib.hid (HB0.out.trans (hb.mono HB0.out.size))
  clear hb
  have Ow0_1 := HO0
  clear HO0
  obtain ⟨Aw0, Cw0, ew0⟩ := Ow0_1.out.len
  subst ew0
  go_wp2_with fail
  refine (F2.out _ ).mono ?_
  rintro e w2 ⟨ug0, rfl, ho0, hb⟩
  have HO0 := Lib.hid ho0
  clear ho0
  have hsw2 := hb.size
  have HB2 := Lib.hid (HB1.out.trans (hb.mono HB1.out.size))
  have Ow0_2 := Lib.hid (Ow0_1.out.below hb)
  clear hb Ow0_1
  have Og0_2 := HO0
  clear HO0
  obtain ⟨Ag0, Cg0, eg0⟩ := Og0_2.out.len
  subst eg0
  go_wp2_with fail
  refine (Kn.eqO_any hrl Og0_2.out Ow0_2.out).mono ?_
  rintro e w3 ⟨rfl, hb⟩
  have hsw3 := hb.size
  have HB3 := Lib.hid (HB2.out.trans (hb.mono HB2.out.size))
  have Ow0_3 := Lib.hid (Ow0_2.out.below hb)
  have Og0_3 := Lib.hid (Og0_2.out.below hb)
  clear hb Ow0_2 Og0_2
  go_wp2_with fail
  refine (Kn.markO_int _ (1) (by simp) (by omega) (by omega) (by omega) Og0_3.out).mono ?_
  rintro e w5 ⟨rfl, ho, hm⟩
  have hsw5 := hm.size
  have HB4 := Lib.hid (HB3.out.trans (hm.below (by omega) (by omega)))
  have Ow0_4 := Lib.hid (Ow0_3.out.mod hm (by omega))
  have Og0_4 := Lib.hid ho
  clear hm ho Ow0_3 Og0_3
  go_wp2_with fail
  refine (Kn.heldO_int _ (1) (by simp) (by omega) (by omega) (by omega) Og0_4.out).mono ?_
  rintro e w' ⟨rfl, rfl⟩
  go_wp2_with fail
  refine (F2.out _ ).mono ?_
  rintro e w7 ⟨uh0, rfl, ho0, hb⟩
  have HO0 := Lib.hid ho0
  clear ho0
  have hsw7 := hb.size
  have HB5 := Lib.hid (HB4.out.trans (hb.mono HB4.out.size))
  have Ow0_5 := Lib.hid (Ow0_4.out.below hb)
  have Og0_5 := Lib.hid (Og0_4.out.below hb)
  clear hb Ow0_4 Og0_4
  have Oh0_5 := HO0
  clear HO0
  obtain ⟨Ah0, Ch0, eh0⟩ := Oh0_5.out.len
  subst eh0
  go_wp2_with fail
  refine (Kn.eqO_any hrl Oh0_5.out Ow0_5.out).mono ?_
  rintro e w8 ⟨rfl, hb⟩
  have hsw8 := hb.size
  have HB6 := Lib.hid (HB5.out.trans (hb.mono HB5.out.size))
  have Ow0_6 := Lib.hid (Ow0_5.out.below hb)
  have Og0_6 := Lib.hid (Og0_5.out.below hb)
  have Oh0_6 := Lib.hid (Oh0_5.out.below hb)
  clear hb Ow0_5 Og0_5 Oh0_5
  go_wp2_with fail
  refine (Kn.heldO_int _ (1) (by simp) (by omega) (by omega) (by omega) Og0_6.out).mono ?_
  rintro e w' ⟨rfl, rfl⟩
  go_wp2_with fail
  go_ret
  exact ⟨rfl, HB6.out⟩

set_option maxRecDepth 100000 in
theorem contract (H : Type) (enc : TypeId × Value → H) (W : World) (base : Nat) (args : Array Value) (ds gs : List (DataW H)) (before : List MemPlace)
    (hval : ∀ (j : Nat) t v, Try.f7.params[j]? = some t → args[j]? = some v → Value.okWide Try.prog W .any base t v)
    (hW : DataW.Whole enc Try.prog Try.f7.params.toList Rows.fnExactPowerCurveSpec.vars false W args.toList ds gs before) (henv : Env W) :
    Calls Try.prog 7 args W fun e W' => ∃ v, e = .returned v ∧ Rows.fnExactPowerCurveSpec.post enc Try.prog Try.f7 false true false false W args v W' := by
  have hW' := hW
  obtain ⟨p, q, hA0, hV, rfl, hfz, hnd⟩ := hW
  have hA : DataW.TrodAll enc Try.prog W 0 (fun _ => true) true Try.f7.params.toList args.toList ds p := hA0
  rw [Try.params7] at hA hval
  obtain ⟨v0, vs0, d0, ds0, p0, q0, hargs0, rfl, rfl, h0, r0⟩ := trodAll_cons hA
  obtain ⟨rfl, rfl, rfl⟩ := trodAll_nil r0
  obtain rfl : args = #[v0] := by cases args; simp_all
  obtain ⟨rfl, rfl⟩ := trodVars_none hV
  obtain ⟨a0, rfl, rfl, rfl, w0⟩ := open_int Try.underlying2 (hval 0 2 v0 rfl rfl) h0
  clear hA0
  simp only [List.append_nil] at hW'
  refine (walk W a0 w0 henv).mono fun e W' ⟨he, hg⟩ => ?_
  subst he
  exact ⟨_, rfl, post_of_below (pa := []) (pv := []) hW' (fun _ _ _ => (trodAll_cons_mk (shut_bool Try.underlying4 _) trodAll_mk0)) (fun sp _ => (trodAll_cons_mk (shut_int Try.underlying2 w0) trodAll_mk0)) (fun _ _ => rfl) rfl
    hg (ok_one (by kernel_rfl) rfl (okWide_bool_mk Try.underlying4 _))⟩

set_option maxRecDepth 100000 in
theorem lifted (os : Os) (started : os.Started) (H : Type) (enc : TypeId × Value → H) :
    ReturnsInHanded {} Try.checked os 7 .any (Rows.fnExactPowerCurveSpec.pre6 enc Try.prog Try.f7 Rows.fnExactPowerCurveRow.domain false) (Rows.fnExactPowerCurveSpec.post enc Try.prog Try.f7 false true false false) := by
  refine returnsInHanded_of_change (C := Try.checked) own started (by kernel_rfl) Try.func7
    (ChangeSpec.witness6 (enc := enc) (C := Try.checked) false ⟨#[], #[.int .i64 0], []⟩ 8 (by kernel_rfl) (by kernel_rfl) (by kernel_rfl) (by kernel_rfl)) ?_
  intro W base args ds gs before hval hW _ _
  exact contract H enc W base args ds gs before hval hW trivial

theorem over : Rows.fnExactPowerCurveRow.holds Try.pinned (OpenSpec.ofChange Rows.fnExactPowerCurveSpec) :=
  OpenClaim.holds_of_wide 7 Try.f7 rfl rfl rfl rfl rfl rfl rfl ⟨rfl, rfl, rfl, rfl, rfl⟩ rfl rfl rfl rfl rfl (by kernel_rfl) Try.func7 (by kernel_rfl)
    (of_decide_eq_true (by kernel_rfl)) (by unfold Func.isWrapper; first | (rw [if_pos (by decide +kernel)]; kernel_rfl) | (rw [if_neg (by decide +kernel)]; exact ⟨rfl, rfl⟩))
    (fun os started H enc _ => lifted os started H enc)

theorem proved : Rows.FnExactPowerCurveSaid :=
  over
#print axioms proved
end Go.Proofs.Ytamdnfmodmlohaa.fnExactPowerCurve
