/-
  The law FnExactMaskMean: for every input the call returns true, and each argument reads afterwards as it read before. No condition.
-/
import Derived.Test.YtleaoemckdkndaaRows
import Derived.Test.YtleaoemckdkndaaPost0
import Derived.Test.YtleaoemckdkndaaMkM
import Derived.Test.YtleaoemckdkndaaMkO
import Derived.Test.YtleaoemckdkndaaMkL
import Derived.WalkKit
import Derived.ProofKit
import Derived.OpenShut
import Derived.ChangeMaps5
import Derived.ChangeSlices
import Derived.Carry
import Derived.Lib.SmallJoins
namespace Go.Proofs.Ytleaoemckdkndaa.fnExactMaskMean
open Go.ChangeShapes Go.WideShapes Go.ChangeAt Go.RowKit Go.ChangeMaps
set_option linter.unusedVariables false

theorem own : ownKnob Try.prog.godebug = none := by kernel_rfl

def Env (_w : World) : Prop := True

set_option maxRecDepth 100000 in
set_option maxHeartbeats 8000000 in
theorem walk (w : World) (v0 : Value) (a0 : List Mk.V) (w0 : Mk.In w v0 a0) (n0 : a0.length ≤ 9223372036854775807) (a1 : Int) (w1 : (Lit.int .i64 a1).wf = true) (henv : Env w) :
    Calls Try.prog 13 #[v0, .int .i64 a1] w fun e w' => e = .returned (.bool true) ∧ Below w.heap.size w w' := by
  have Z0 := Lib.hid (fun l h0 h1 w h => Mk.szS_any (v := v0) (zs := a0) l h0 h1 (w := w) h n0)
  have X0 := Lib.hid w0
  have OK0 := Lib.hid w0.oks
  clear w0
  go_enter Try.func13, Try.ntmps13
  go_wp2_with fail
  have HB0 : Hid (Below w.heap.size w w) := Lib.hid (Below.refl _ _)
  refine (Z0.out 1048576 (by omega) (by omega) _ (X0.out.below HB0.out)).mono ?_
  rintro e w1 ⟨z0, rfl, hz00, hz10, hz2, hb⟩
  have hsw1 := hb.size
  have HB1 := Lib.hid (HB0.out.trans (hb.mono HB0.out.size))
  clear hb
  by_cases hz0 : z0 < 0
  · clear hz2
    go_wp2_with fail
    go_ret
    exact ⟨rfl, HB1.out⟩
  have hl0 := hz2 (by omega)
  clear hz2
  go_wp2_with fail
  have T0 := Lib.hid (fun w h => Mk.toS_any (v := v0) (zs := a0) (w := w) h hl0)
  have F1 := Lib.hid (fun W g0 h0 => Mk.specMean_any g0 a0.length a0 a1 W (by omega) h0)
  have F2 := Lib.hid (fun W g0 h0 => Mk.implMean_any g0 a0.length a0 a1 W (by omega) h0)
  unfold Mk.NPost at F1 F2
  generalize Mk.meanV a0 a1 = R at *
  obtain ⟨R1, R2⟩ := R
  simp only at F1 F2
  refine (T0.out _ (X0.out.below HB1.out)).mono ?_
  rintro e w2 ⟨ga0, rfl, ho, hb⟩
  have HO := Lib.hid ho
  clear ho
  have hsw2 := hb.size
  have HB2 := Lib.hid (HB1.out.trans (hb.mono HB1.out.size))
  clear hb
  have Oa0_2 := HO
  clear HO
  go_wp2_with fail
  refine (F1.out _ _ Oa0_2.out.row).mono ?_
  rintro e w3 ⟨rfl, hb⟩
  have hsw3 := hb.size
  have HB3 := Lib.hid (HB2.out.trans (hb.mono HB2.out.size))
  have Oa0_3 := Lib.hid (Oa0_2.out.below hb)
  clear hb Oa0_2
  go_wp2_with fail
  clear Oa0_3
  refine (T0.out _ (X0.out.below HB3.out)).mono ?_
  rintro e w4 ⟨gx0, rfl, ho, hb⟩
  have HO := Lib.hid ho
  clear ho
  have hsw4 := hb.size
  have HB4 := Lib.hid (HB3.out.trans (hb.mono HB3.out.size))
  clear hb
  have Ox0_4 := HO
  clear HO
  go_wp2_with fail
  refine (F2.out _ _ Ox0_4.out.row).mono ?_
  rintro e w5 ⟨rfl, hb⟩
  have hsw5 := hb.size
  have HB5 := Lib.hid (HB4.out.trans (hb.mono HB4.out.size))
  have Ox0_5 := Lib.hid (Ox0_4.out.below hb)
  clear hb Ox0_4
  go_wp2_with fail
  refine (T0.out _ (X0.out.below HB5.out)).mono ?_
  rintro e w8 ⟨gy0, rfl, ho, hb⟩
  have HO := Lib.hid ho
  clear ho
  have hsw8 := hb.size
  have HB6 := Lib.hid (HB5.out.trans (hb.mono HB5.out.size))
  have Ox0_6 := Lib.hid (Ox0_5.out.below hb)
  clear hb Ox0_5
  have Oy0_6 := HO
  clear HO
  go_wp2_with fail
  refine (Mk.eqO_any hl0 Ox0_6.out Oy0_6.out).mono ?_
  rintro e w9 ⟨rfl, hb⟩
  have hsw9 := hb.size
  have HB7 := Lib.hid (HB6.out.trans (hb.mono HB6.out.size))
  have Ox0_7 := Lib.hid (Ox0_6.out.below hb)
  have Oy0_7 := Lib.hid (Oy0_6.out.below hb)
  clear hb Ox0_6 Oy0_6
  clear Oy0_7
  go_wp2_with fail
  go_ret
  exact ⟨rfl, HB7.out⟩

set_option maxRecDepth 100000 in
set_option maxHeartbeats 2000000 in
theorem contract (H : Type) (enc : TypeId × Value → H) (W : World) (base : Nat) (args : Array Value) (ds gs : List (DataW H)) (before : List MemPlace)
    (hval : ∀ (j : Nat) t v, Try.f13.params[j]? = some t → args[j]? = some v → Value.okWide Try.prog W .any base t v)
    (hW : DataW.Whole enc Try.prog Try.f13.params.toList Rows.fnExactMaskMeanSpec.vars false W args.toList ds gs before) (henv : Env W) :
    Calls Try.prog 13 args W fun e W' => ∃ v, e = .returned v ∧ Rows.fnExactMaskMeanSpec.post enc Try.prog Try.f13 false true false false W args v W' := by
  have hW' := hW
  obtain ⟨p, q, hA0, hV, rfl, hfz, hnd⟩ := hW
  have hA : DataW.TrodAll enc Try.prog W 0 (fun _ => true) true Try.f13.params.toList args.toList ds p := hA0
  rw [Try.params13] at hA hval
  obtain ⟨v0, vs0, d0, ds0, p0, q0, hargs0, rfl, rfl, h0, r0⟩ := trodAll_cons hA
  obtain ⟨v1, vs1, d1, ds1, p1, q1, hargs1, rfl, rfl, h1, r1⟩ := trodAll_cons r0
  obtain ⟨rfl, rfl, rfl⟩ := trodAll_nil r1
  obtain rfl : args = #[v0, v1] := by cases args; simp_all
  obtain ⟨rfl, rfl⟩ := trodVars_none hV
  have h0k := h0
  obtain ⟨sa0, sn0, sc0, rfl⟩ := okWide_slice Try.underlying64 (hval 0 64 v0 rfl rfl)
  obtain ⟨a0, w0, n0⟩ := Mk.opened h0
  obtain ⟨a1, rfl, rfl, rfl, w1⟩ := open_int Try.underlying2 (hval 1 2 v1 rfl rfl) h1
  clear hA0
  have hltp : ∀ x ∈ p0 ++ ([] ++ []) ++ [], x.block < W.heap.size := fun x hx => hW'.lt x hx
  refine (walk W _ a0 w0 n0 a1 w1 henv).mono fun e W' ⟨he, hg⟩ => ?_
  subst he
  exact ⟨_, rfl, post_of_below (pa := p0 ++ ([] ++ [])) (pv := []) hW' (fun _ _ _ => (trodAll_cons_mk (shut_bool Try.underlying4 _) trodAll_mk0)) (fun sp hsp => (trodAll_cons_mk (WideElems.Trod_stays (by kernel_rfl) (by kernel_rfl) (of_decide_eq_true (by kernel_rfl)) h0k (fun x hx => hg.same (hltp x (by simp [hx]))) (fun x hx => hsp x (by simp [hx]))) (trodAll_cons_mk (shut_int Try.underlying2 w1) trodAll_mk0))) (fun _ _ => rfl) rfl
    hg (ok_one (by kernel_rfl) rfl (okWide_bool_mk Try.underlying4 _))⟩

set_option maxRecDepth 100000 in
theorem lifted (os : Os) (started : os.Started) (H : Type) (enc : TypeId × Value → H) :
    ReturnsInHanded {} Try.checked os 13 .any (Rows.fnExactMaskMeanSpec.pre6 enc Try.prog Try.f13 Rows.fnExactMaskMeanRow.domain false) (Rows.fnExactMaskMeanSpec.post enc Try.prog Try.f13 false true false false) := by
  refine returnsInHanded_of_change (C := Try.checked) own started (by kernel_rfl) Try.func13
    (ChangeSpec.witness6 (enc := enc) (C := Try.checked) false ⟨#[], #[.slice none 0 0, .int .i64 0], []⟩ 8 (by kernel_rfl) (by kernel_rfl) (by kernel_rfl) (by kernel_rfl)) ?_
  intro W base args ds gs before hval hW _ _
  exact contract H enc W base args ds gs before hval hW trivial

theorem over : Rows.fnExactMaskMeanRow.holds Try.pinned (OpenSpec.ofChange Rows.fnExactMaskMeanSpec) :=
  OpenClaim.holds_of_wide 13 Try.f13 rfl rfl rfl rfl rfl rfl rfl ⟨rfl, rfl, rfl, rfl, rfl⟩ rfl rfl rfl rfl rfl (by kernel_rfl) Try.func13 (by kernel_rfl)
    (of_decide_eq_true (by kernel_rfl)) (by unfold Func.isWrapper; first | (rw [if_pos (by decide +kernel)]; kernel_rfl) | (rw [if_neg (by decide +kernel)]; exact ⟨rfl, rfl⟩))
    (fun os started H enc _ => lifted os started H enc)

theorem proved : Rows.FnExactMaskMeanSaid :=
  over
#print axioms proved
end Go.Proofs.Ytleaoemckdkndaa.fnExactMaskMean
