/-
  The law FnExactCuesBetween: for every input the call returns true, and each argument reads afterwards as it read before. No condition.
-/
import Derived.Test.YtfloppjkfcbgiaaRows
import Derived.Test.YtfloppjkfcbgiaaPost0
import Derived.Test.YtfloppjkfcbgiaaCueB
import Derived.Test.YtfloppjkfcbgiaaCueO
import Derived.WalkKit
import Derived.ProofKit
import Derived.OpenShut
import Derived.ChangeMaps5
import Derived.ChangeSlices
import Derived.Carry
import Derived.Lib.SmallJoins
namespace Go.Proofs.Ytfloppjkfcbgiaa.fnExactCuesBetween
open Go.ChangeShapes Go.WideShapes Go.ChangeAt Go.RowKit Go.ChangeMaps
set_option linter.unusedVariables false

theorem own : ownKnob Try.prog.godebug = none := by kernel_rfl

def Env (_w : World) : Prop := True

set_option maxRecDepth 100000 in
set_option maxHeartbeats 8000000 in
theorem walk (w : World) (v0 : Value) (a0 : List Cue.V) (w0 : Cue.In w v0 a0) (n0 : a0.length ≤ 9223372036854775807) (a1 : Int) (w1 : (Lit.int .i64 a1).wf = true) (a2 : Int) (w2 : (Lit.int .i64 a2).wf = true) (henv : Env w) :
    Calls Try.prog 11 #[v0, .int .i64 a1, .int .i64 a2] w fun e w' => e = .returned (.bool true) ∧ Below w.heap.size w w' := by
  have Z0 := Lib.hid (fun l h0 h1 w h => Cue.szS_any (v := v0) (zs := a0) l h0 h1 (w := w) h n0)
  have X0 := Lib.hid w0
  have OK0 := Lib.hid w0.oks
  clear w0
  go_enter Try.func11, Try.ntmps11
  go_wp2_with fail
  have HB0 : Hid (Below w.heap.size w w) := Lib.hid (Below.refl _ _)
  refine (Z0.out 1048576 (by omega) (by omega) _ (X0.out.below HB0.out)).mono ?_
  rintro e w1 ⟨z0, rfl, hz00, hz10, hz2, hb⟩
  have hsw1 := hb.size
  have HB1 := Lib.hid (HB0.out.trans (hb.mono HB0.out.size))
  clear hb
  by_cases hz0 : z0 < 0
  · clear hz2
    go_wp2_with fail
    go_ret
    exact ⟨rfl, HB1.out⟩
  have hl0 := hz2 (by omega)
  clear hz2
  go_wp2_with fail
  have T0 := Lib.hid (fun w h => Cue.toS_any (v := v0) (zs := a0) (w := w) h hl0)
  have F1 := Lib.hid (fun W g0 h0 => Cue.specBtw_any g0 a0.length a0 a1 a2 W (by omega) h0)
  have F2 := Lib.hid (fun W g0 h0 => Cue.implBtw_any g0 a0.length a0 a1 a2 W (by omega) h0 (fun j hj => (OK0.out j hj).txt))
  have hrl : (Cue.btwV a0 a1 a2).1.length ≤ 1048576 := Nat.le_trans (Cue.btwV_len a0 a1 a2) hl0
  unfold Cue.IPost at F1 F2
  generalize Cue.btwV a0 a1 a2 = R at *
  obtain ⟨L, k⟩ := R
  simp only at F1 F2 hrl
  refine (T0.out _ (X0.out.below HB1.out)).mono ?_
  rintro e w2 ⟨ga0, rfl, ho, hb⟩
  have HO := Lib.hid ho
  clear ho
  have hsw2 := hb.size
  have HB2 := Lib.hid (HB1.out.trans (hb.mono HB1.out.size))
  clear hb
  have Oa0_2 := HO
  clear HO
  go_wp2_with fail
  refine (F1.out _ _ Oa0_2.out.row).mono ?_
  rintro e w3 ⟨uw0, rfl, ho0, hb⟩
  have HO0 := Lib.hid ho0
  clear ho0
  have hsw3 := hb.size
  have HB3 := Lib.hid (HB2.out.trans (hb.mono HB2.out.size))
  have Oa0_3 := Lib.hid (Oa0_2.out.below hb)
  clear hb Oa0_2
  have Ow0_3 := HO0
  clear HO0
  go_wp2_with fail
  clear Oa0_3
  refine (T0.out _ (X0.out.below HB3.out)).mono ?_
  rintro e w4 ⟨gx0, rfl, ho, hb⟩
  have HO := Lib.hid ho
  clear ho
  have hsw4 := hb.size
  have HB4 := Lib.hid (HB3.out.trans (hb.mono HB3.out.size))
  have Ow0_4 := Lib.hid (Ow0_3.out.below hb)
  clear hb Ow0_3
  have Ox0_4 := HO
  clear HO
  go_wp2_with fail
  refine (F2.out _ _ Ox0_4.out.row).mono ?_
  rintro e w5 ⟨ug0, rfl, ho0, hb⟩
  have HO0 := Lib.hid ho0
  clear ho0
  have hsw5 := hb.size
  have HB5 := Lib.hid (HB4.out.trans (hb.mono HB4.out.size))
  have Ow0_5 := Lib.hid (Ow0_4.out.below hb)
  have Ox0_5 := Lib.hid (Ox0_4.out.below hb)
  clear hb Ow0_4 Ox0_4
  have Og0_5 := HO0
  clear HO0
  go_wp2_with fail
  refine (In.eqO_any hrl Og0_5.out Ow0_5.out).mono ?_
  rintro e w6 ⟨rfl, hb⟩
  have hsw6 := hb.size
  have HB6 := Lib.hid (HB5.out.trans (hb.mono HB5.out.size))
  have Ow0_6 := Lib.hid (Ow0_5.out.below hb)
  have Ox0_6 := Lib.hid (Ox0_5.out.below hb)
  have Og0_6 := Lib.hid (Og0_5.out.below hb)
  clear hb Ow0_5 Ox0_5 Og0_5
  go_wp2_with fail
  refine (T0.out _ (X0.out.below HB6.out)).mono ?_
  rintro e w8 ⟨gy0, rfl, ho, hb⟩
  have HO := Lib.hid ho
  clear ho
  have hsw8 := hb.size
  have HB7 := Lib.hid (HB6.out.trans (hb.mono HB6.out.size))
  have Ow0_7 := Lib.hid (Ow0_6.out.below hb)
  have Ox0_7 := Lib.hid (Ox0_6.out.below hb)
  have Og0_7 := Lib.hid (Og0_6.out.below hb)
  clear hb Ow0_6 Ox0_6 Og0_6
  have Oy0_7 := HO
  clear HO
  go_wp2_with fail
  refine (Cue.eqO_any hl0 Ox0_7.out Oy0_7.out).mono ?_
  rintro e w9 ⟨rfl, hb⟩
  have hsw9 := hb.size
  have HB8 := Lib.hid (HB7.out.trans (hb.mono HB7.out.size))
  have Ow0_8 := Lib.hid (Ow0_7.out.below hb)
  have Ox0_8 := Lib.hid (Ox0_7.out.below hb)
  have Og0_8 := Lib.hid (Og0_7.out.below hb)
  have Oy0_8 := Lib.hid (Oy0_7.out.below hb)
  clear hb Ow0_7 Ox0_7 Og0_7 Oy0_7
  clear Oy0_8
  go_wp2_with fail
  refine (Cue.markO_int _ (1) (by simp) (by omega) (by omega) (by omega) Ox0_8.out).mono ?_
  rintro e w10 ⟨rfl, ho, hm⟩
  have hsw10 := hm.size
  have HB9 := Lib.hid (HB8.out.trans (hm.below (by omega) (by omega)))
  have Ow0_9 := Lib.hid (Ow0_8.out.mod hm (by omega))
  have Ox0_9 := Lib.hid ho
  have Og0_9 := Lib.hid (Og0_8.out.mod hm (by omega))
  clear hm ho Ow0_8 Ox0_8 Og0_8
  go_wp2_with fail
  refine (In.eqO_any hrl Og0_9.out Ow0_9.out).mono ?_
  rintro e w11 ⟨rfl, hb⟩
  have hsw11 := hb.size
  have HB10 := Lib.hid (HB9.out.trans (hb.mono HB9.out.size))
  have Ow0_10 := Lib.hid (Ow0_9.out.below hb)
  have Ox0_10 := Lib.hid (Ox0_9.out.below hb)
  have Og0_10 := Lib.hid (Og0_9.out.below hb)
  clear hb Ow0_9 Ox0_9 Og0_9
  go_wp2_with fail
  refine (In.markO_int _ (1) (by simp) (by omega) (by omega) (by omega) Og0_10.out).mono ?_
  rintro e w13 ⟨rfl, ho, hm⟩
  have hsw13 := hm.size
  have HB11 := Lib.hid (HB10.out.trans (hm.below (by omega) (by omega)))
  have Ow0_11 := Lib.hid (Ow0_10.out.mod hm (by omega))
  have Ox0_11 := Lib.hid (Ox0_10.out.mod hm (by omega))
  have Og0_11 := Lib.hid ho
  clear hm ho Ow0_10 Ox0_10 Og0_10
  go_wp2_with fail
  refine (In.heldO_int _ (1) (by simp) (by omega) (by omega) (by omega) Og0_11.out).mono ?_
  rintro e w' ⟨rfl, rfl⟩
  go_wp2_with fail
  refine (T0.out _ (X0.out.below HB11.out)).mono ?_
  rintro e w15 ⟨gb0, rfl, ho, hb⟩
  have HO := Lib.hid ho
  clear ho
  have hsw15 := hb.size
  have HB12 := Lib.hid (HB11.out.trans (hb.mono HB11.out.size))
  have Ow0_12 := Lib.hid (Ow0_11.out.below hb)
  have Ox0_12 := Lib.hid (Ox0_11.out.below hb)
  have Og0_12 := Lib.hid (Og0_11.out.below hb)
  clear hb Ow0_11 Ox0_11 Og0_11
  have Ob0_12 := HO
  clear HO
  go_wp2_with fail
  refine (F2.out _ _ Ob0_12.out.row).mono ?_
  rintro e w16 ⟨uh0, rfl, ho0, hb⟩
  have HO0 := Lib.hid ho0
  clear ho0
  have hsw16 := hb.size
  have HB13 := Lib.hid (HB12.out.trans (hb.mono HB12.out.size))
  have Ow0_13 := Lib.hid (Ow0_12.out.below hb)
  have Ox0_13 := Lib.hid (Ox0_12.out.below hb)
  have Og0_13 := Lib.hid (Og0_12.out.below hb)
  have Ob0_13 := Lib.hid (Ob0_12.out.below hb)
  clear hb Ow0_12 Ox0_12 Og0_12 Ob0_12
  have Oh0_13 := HO0
  clear HO0
  go_wp2_with fail
  refine (In.eqO_any hrl Oh0_13.out Ow0_13.out).mono ?_
  rintro e w17 ⟨rfl, hb⟩
  have hsw17 := hb.size
  have HB14 := Lib.hid (HB13.out.trans (hb.mono HB13.out.size))
  have Ow0_14 := Lib.hid (Ow0_13.out.below hb)
  have Ox0_14 := Lib.hid (Ox0_13.out.below hb)
  have Og0_14 := Lib.hid (Og0_13.out.below hb)
  have Ob0_14 := Lib.hid (Ob0_13.out.below hb)
  have Oh0_14 := Lib.hid (Oh0_13.out.below hb)
  clear hb Ow0_13 Ox0_13 Og0_13 Ob0_13 Oh0_13
  go_wp2_with fail
  refine (In.heldO_int _ (1) (by simp) (by omega) (by omega) (by omega) Og0_14.out).mono ?_
  rintro e w' ⟨rfl, rfl⟩
  go_wp2_with fail
  go_ret
  exact ⟨rfl, HB14.out⟩

set_option maxRecDepth 100000 in
set_option maxHeartbeats 2000000 in
theorem contract (H : Type) (enc : TypeId × Value → H) (W : World) (base : Nat) (args : Array Value) (ds gs : List (DataW H)) (before : List MemPlace)
    (hval : ∀ (j : Nat) t v, Try.f11.params[j]? = some t → args[j]? = some v → Value.okWide Try.prog W .any base t v)
    (hW : DataW.Whole enc Try.prog Try.f11.params.toList Rows.fnExactCuesBetweenSpec.vars false W args.toList ds gs before) (henv : Env W) :
    Calls Try.prog 11 args W fun e W' => ∃ v, e = .returned v ∧ Rows.fnExactCuesBetweenSpec.post enc Try.prog Try.f11 false true false false W args v W' := by
  have hW' := hW
  obtain ⟨p, q, hA0, hV, rfl, hfz, hnd⟩ := hW
  have hA : DataW.TrodAll enc Try.prog W 0 (fun _ => true) true Try.f11.params.toList args.toList ds p := hA0
  rw [Try.params11] at hA hval
  obtain ⟨v0, vs0, d0, ds0, p0, q0, hargs0, rfl, rfl, h0, r0⟩ := trodAll_cons hA
  obtain ⟨v1, vs1, d1, ds1, p1, q1, hargs1, rfl, rfl, h1, r1⟩ := trodAll_cons r0
  obtain ⟨v2, vs2, d2, ds2, p2, q2, hargs2, rfl, rfl, h2, r2⟩ := trodAll_cons r1
  obtain ⟨rfl, rfl, rfl⟩ := trodAll_nil r2
  obtain rfl : args = #[v0, v1, v2] := by cases args; simp_all
  obtain ⟨rfl, rfl⟩ := trodVars_none hV
  have h0k := h0
  obtain ⟨sa0, sn0, sc0, rfl⟩ := okWide_slice Try.underlying29 (hval 0 29 v0 rfl rfl)
  obtain ⟨a0, w0, n0⟩ := Cue.opened h0
  obtain ⟨a1, rfl, rfl, rfl, w1⟩ := open_int Try.underlying2 (hval 1 2 v1 rfl rfl) h1
  obtain ⟨a2, rfl, rfl, rfl, w2⟩ := open_int Try.underlying2 (hval 2 2 v2 rfl rfl) h2
  clear hA0
  have hltp : ∀ x ∈ p0 ++ ([] ++ ([] ++ [])) ++ [], x.block < W.heap.size := fun x hx => hW'.lt x hx
  refine (walk W _ a0 w0 n0 a1 w1 a2 w2 henv).mono fun e W' ⟨he, hg⟩ => ?_
  subst he
  exact ⟨_, rfl, post_of_below (pa := p0 ++ ([] ++ ([] ++ []))) (pv := []) hW' (fun _ _ _ => (trodAll_cons_mk (shut_bool Try.underlying4 _) trodAll_mk0)) (fun sp hsp => (trodAll_cons_mk (WideElems.Trod_stays (by kernel_rfl) (by kernel_rfl) (of_decide_eq_true (by kernel_rfl)) h0k (fun x hx => hg.same (hltp x (by simp [hx]))) (fun x hx => hsp x (by simp [hx]))) (trodAll_cons_mk (shut_int Try.underlying2 w1) (trodAll_cons_mk (shut_int Try.underlying2 w2) trodAll_mk0)))) (fun _ _ => rfl) rfl
    hg (ok_one (by kernel_rfl) rfl (okWide_bool_mk Try.underlying4 _))⟩

set_option maxRecDepth 100000 in
theorem lifted (os : Os) (started : os.Started) (H : Type) (enc : TypeId × Value → H) :
    ReturnsInHanded {} Try.checked os 11 .any (Rows.fnExactCuesBetweenSpec.pre6 enc Try.prog Try.f11 Rows.fnExactCuesBetweenRow.domain false) (Rows.fnExactCuesBetweenSpec.post enc Try.prog Try.f11 false true false false) := by
  refine returnsInHanded_of_change (C := Try.checked) own started (by kernel_rfl) Try.func11
    (ChangeSpec.witness6 (enc := enc) (C := Try.checked) false ⟨#[], #[.slice none 0 0, .int .i64 0, .int .i64 0], []⟩ 8 (by kernel_rfl) (by kernel_rfl) (by kernel_rfl) (by kernel_rfl)) ?_
  intro W base args ds gs before hval hW _ _
  exact contract H enc W base args ds gs before hval hW trivial

theorem over : Rows.fnExactCuesBetweenRow.holds Try.pinned (OpenSpec.ofChange Rows.fnExactCuesBetweenSpec) :=
  OpenClaim.holds_of_wide 11 Try.f11 rfl rfl rfl rfl rfl rfl rfl ⟨rfl, rfl, rfl, rfl, rfl⟩ rfl rfl rfl rfl rfl (by kernel_rfl) Try.func11 (by kernel_rfl)
    (of_decide_eq_true (by kernel_rfl)) (by unfold Func.isWrapper; first | (rw [if_pos (by decide +kernel)]; kernel_rfl) | (rw [if_neg (by decide +kernel)]; exact ⟨rfl, rfl⟩))
    (fun os started H enc _ => lifted os started H enc)

theorem proved : Rows.FnExactCuesBetweenSaid :=
  over
#print axioms proved
end Go.Proofs.Ytfloppjkfcbgiaa.fnExactCuesBetween
