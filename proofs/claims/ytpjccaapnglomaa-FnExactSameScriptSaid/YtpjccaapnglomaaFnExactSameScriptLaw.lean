/-
  The law FnExactSameScript: for every input the call returns true, and each argument reads afterwards as it read before. No condition.
-/
import Derived.Test.YtpjccaapnglomaaRows
import Derived.Test.YtpjccaapnglomaaPost0
import Derived.Test.YtpjccaapnglomaaLnQ
import Derived.Test.YtpjccaapnglomaaLnO
import Derived.WalkKit
import Derived.ProofKit
import Derived.OpenShut
import Derived.ChangeMaps5
import Derived.ChangeSlices
import Derived.Carry
import Derived.Lib.SmallJoins
namespace Go.Proofs.Ytpjccaapnglomaa.fnExactSameScript
open Go.ChangeShapes Go.WideShapes Go.ChangeAt Go.RowKit Go.ChangeMaps
set_option linter.unusedVariables false

theorem own : ownKnob Try.prog.godebug = none := by kernel_rfl

def Env (_w : World) : Prop := True

set_option maxRecDepth 100000 in
set_option maxHeartbeats 8000000 in
theorem walk (w : World) (v0 : Value) (a0 : List Ln.V) (w0 : Ln.In w v0 a0) (n0 : a0.length ≤ 9223372036854775807) (v1 : Value) (a1 : List Ln.V) (w1 : Ln.In w v1 a1) (n1 : a1.length ≤ 9223372036854775807) (henv : Env w) :
    Calls Try.prog 3 #[v0, v1] w fun e w' => e = .returned (.bool true) ∧ Below w.heap.size w w' := by
  have Z0 := Lib.hid (fun l h0 h1 w h => Ln.szS_any (v := v0) (zs := a0) l h0 h1 (w := w) h n0)
  have X0 := Lib.hid w0
  have OK0 := Lib.hid w0.oks
  clear w0
  have Z1 := Lib.hid (fun l h0 h1 w h => Ln.szS_any (v := v1) (zs := a1) l h0 h1 (w := w) h n1)
  have X1 := Lib.hid w1
  have OK1 := Lib.hid w1.oks
  clear w1
  go_enter Try.func3, Try.ntmps3
  go_wp2_with fail
  have HB0 : Hid (Below w.heap.size w w) := Lib.hid (Below.refl _ _)
  refine (Z0.out 1048576 (by omega) (by omega) _ (X0.out.below HB0.out)).mono ?_
  rintro e w1 ⟨z0, rfl, hz00, hz10, hz2, hb⟩
  have hsw1 := hb.size
  have HB1 := Lib.hid (HB0.out.trans (hb.mono HB0.out.size))
  clear hb
  by_cases hz0 : z0 < 0
  · clear hz2
    go_wp2_with fail
    go_ret
    exact ⟨rfl, HB1.out⟩
  have hl0 := hz2 (by omega)
  clear hz2
  go_wp2_with fail
  refine (Z1.out z0 (by omega) (by omega) _ (X1.out.below HB1.out)).mono ?_
  rintro e w2 ⟨z1, rfl, hz01, hz11, hz2, hb⟩
  have hsw2 := hb.size
  have HB2 := Lib.hid (HB1.out.trans (hb.mono HB1.out.size))
  clear hb
  by_cases hz1 : z1 < 0
  · clear hz2
    go_wp2_with fail
    go_ret
    exact ⟨rfl, HB2.out⟩
  have hl1 := hz2 (by omega)
  clear hz2
  go_wp2_with fail
  have T0 := Lib.hid (fun w h => Ln.toS_any (v := v0) (zs := a0) (w := w) h hl0)
  have T1 := Lib.hid (fun w h => Ln.toS_any (v := v1) (zs := a1) (w := w) h hl1)
  have F1 := Lib.hid (fun W g0 h0 g1 h1 => Ln.specSame_any g0 g1 a0.length a1.length a0 a1 W (by omega) (by omega) h0 h1)
  have F2 := Lib.hid (fun W g0 h0 g1 h1 => Ln.implSame_any g0 g1 a0.length a1.length a0 a1 W (by omega) (by omega) h0 h1)
  generalize Ln.sameL a0 a1 = R at *
  refine (T0.out _ (X0.out.below HB2.out)).mono ?_
  rintro e w3 ⟨ga0, rfl, ho, hb⟩
  have HO := Lib.hid ho
  clear ho
  have hsw3 := hb.size
  have HB3 := Lib.hid (HB2.out.trans (hb.mono HB2.out.size))
  clear hb
  have Oa0_3 := HO
  clear HO
  go_wp2_with fail
  refine (T1.out _ (X1.out.below HB3.out)).mono ?_
  rintro e w4 ⟨ga1, rfl, ho, hb⟩
  have HO := Lib.hid ho
  clear ho
  have hsw4 := hb.size
  have HB4 := Lib.hid (HB3.out.trans (hb.mono HB3.out.size))
  have Oa0_4 := Lib.hid (Oa0_3.out.below hb)
  clear hb Oa0_3
  have Oa1_4 := HO
  clear HO
  go_wp2_with fail
  refine (F1.out _ _ Oa0_4.out.row _ Oa1_4.out.row).mono ?_
  rintro e w5 ⟨rfl, hb⟩
  have hsw5 := hb.size
  have HB5 := Lib.hid (HB4.out.trans (hb.mono HB4.out.size))
  have Oa0_5 := Lib.hid (Oa0_4.out.below hb)
  have Oa1_5 := Lib.hid (Oa1_4.out.below hb)
  clear hb Oa0_4 Oa1_4
  go_wp2_with fail
  clear Oa0_5
  clear Oa1_5
  refine (T0.out _ (X0.out.below HB5.out)).mono ?_
  rintro e w6 ⟨gx0, rfl, ho, hb⟩
  have HO := Lib.hid ho
  clear ho
  have hsw6 := hb.size
  have HB6 := Lib.hid (HB5.out.trans (hb.mono HB5.out.size))
  clear hb
  have Ox0_6 := HO
  clear HO
  go_wp2_with fail
  refine (T1.out _ (X1.out.below HB6.out)).mono ?_
  rintro e w7 ⟨gx1, rfl, ho, hb⟩
  have HO := Lib.hid ho
  clear ho
  have hsw7 := hb.size
  have HB7 := Lib.hid (HB6.out.trans (hb.mono HB6.out.size))
  have Ox0_7 := Lib.hid (Ox0_6.out.below hb)
  clear hb Ox0_6
  have Ox1_7 := HO
  clear HO
  go_wp2_with fail
  refine (F2.out _ _ Ox0_7.out.row _ Ox1_7.out.row).mono ?_
  rintro e w8 ⟨rfl, hb⟩
  have hsw8 := hb.size
  have HB8 := Lib.hid (HB7.out.trans (hb.mono HB7.out.size))
  have Ox0_8 := Lib.hid (Ox0_7.out.below hb)
  have Ox1_8 := Lib.hid (Ox1_7.out.below hb)
  clear hb Ox0_7 Ox1_7
  go_wp2_with fail
  refine (T0.out _ (X0.out.below HB8.out)).mono ?_
  rintro e w10 ⟨gy0, rfl, ho, hb⟩
  have HO := Lib.hid ho
  clear ho
  have hsw10 := hb.size
  have HB9 := Lib.hid (HB8.out.trans (hb.mono HB8.out.size))
  have Ox0_9 := Lib.hid (Ox0_8.out.below hb)
  have Ox1_9 := Lib.hid (Ox1_8.out.below hb)
  clear hb Ox0_8 Ox1_8
  have Oy0_9 := HO
  clear HO
  go_wp2_with fail
  refine (Ln.eqO_any hl0 Ox0_9.out Oy0_9.out).mono ?_
  rintro e w11 ⟨rfl, hb⟩
  have hsw11 := hb.size
  have HB10 := Lib.hid (HB9.out.trans (hb.mono HB9.out.size))
  have Ox0_10 := Lib.hid (Ox0_9.out.below hb)
  have Ox1_10 := Lib.hid (Ox1_9.out.below hb)
  have Oy0_10 := Lib.hid (Oy0_9.out.below hb)
  clear hb Ox0_9 Ox1_9 Oy0_9
  clear Oy0_10
  go_wp2_with fail
  refine (T1.out _ (X1.out.below HB10.out)).mono ?_
  rintro e w12 ⟨gy1, rfl, ho, hb⟩
  have HO := Lib.hid ho
  clear ho
  have hsw12 := hb.size
  have HB11 := Lib.hid (HB10.out.trans (hb.mono HB10.out.size))
  have Ox0_11 := Lib.hid (Ox0_10.out.below hb)
  have Ox1_11 := Lib.hid (Ox1_10.out.below hb)
  clear hb Ox0_10 Ox1_10
  have Oy1_11 := HO
  clear HO
  go_wp2_with fail
  refine (Ln.eqO_any hl1 Ox1_11.out Oy1_11.out).mono ?_
  rintro e w13 ⟨rfl, hb⟩
  have hsw13 := hb.size
  have HB12 := Lib.hid (HB11.out.trans (hb.mono HB11.out.size))
  have Ox0_12 := Lib.hid (Ox0_11.out.below hb)
  have Ox1_12 := Lib.hid (Ox1_11.out.below hb)
  have Oy1_12 := Lib.hid (Oy1_11.out.below hb)
  clear hb Ox0_11 Ox1_11 Oy1_11
  clear Oy1_12
  go_wp2_with fail
  go_ret
  exact ⟨rfl, HB12.out⟩

set_option maxRecDepth 100000 in
set_option maxHeartbeats 2000000 in
theorem contract (H : Type) (enc : TypeId × Value → H) (W : World) (base : Nat) (args : Array Value) (ds gs : List (DataW H)) (before : List MemPlace)
    (hval : ∀ (j : Nat) t v, Try.f3.params[j]? = some t → args[j]? = some v → Value.okWide Try.prog W .any base t v)
    (hW : DataW.Whole enc Try.prog Try.f3.params.toList Rows.fnExactSameScriptSpec.vars false W args.toList ds gs before) (henv : Env W) :
    Calls Try.prog 3 args W fun e W' => ∃ v, e = .returned v ∧ Rows.fnExactSameScriptSpec.post enc Try.prog Try.f3 false true false false W args v W' := by
  have hW' := hW
  obtain ⟨p, q, hA0, hV, rfl, hfz, hnd⟩ := hW
  have hA : DataW.TrodAll enc Try.prog W 0 (fun _ => true) true Try.f3.params.toList args.toList ds p := hA0
  rw [Try.params3] at hA hval
  obtain ⟨v0, vs0, d0, ds0, p0, q0, hargs0, rfl, rfl, h0, r0⟩ := trodAll_cons hA
  obtain ⟨v1, vs1, d1, ds1, p1, q1, hargs1, rfl, rfl, h1, r1⟩ := trodAll_cons r0
  obtain ⟨rfl, rfl, rfl⟩ := trodAll_nil r1
  obtain rfl : args = #[v0, v1] := by cases args; simp_all
  obtain ⟨rfl, rfl⟩ := trodVars_none hV
  have h0k := h0
  obtain ⟨sa0, sn0, sc0, rfl⟩ := okWide_slice Try.underlying22 (hval 0 22 v0 rfl rfl)
  obtain ⟨a0, w0, n0⟩ := Ln.opened h0
  have h1k := h1
  obtain ⟨sa1, sn1, sc1, rfl⟩ := okWide_slice Try.underlying22 (hval 1 22 v1 rfl rfl)
  obtain ⟨a1, w1, n1⟩ := Ln.opened h1
  clear hA0
  have hltp : ∀ x ∈ p0 ++ (p1 ++ []) ++ [], x.block < W.heap.size := fun x hx => hW'.lt x hx
  refine (walk W _ a0 w0 n0 _ a1 w1 n1 henv).mono fun e W' ⟨he, hg⟩ => ?_
  subst he
  exact ⟨_, rfl, post_of_below (pa := p0 ++ (p1 ++ [])) (pv := []) hW' (fun _ _ _ => (trodAll_cons_mk (shut_bool Try.underlying4 _) trodAll_mk0)) (fun sp hsp => (trodAll_cons_mk (WideElems.Trod_stays (by kernel_rfl) (by kernel_rfl) (of_decide_eq_true (by kernel_rfl)) h0k (fun x hx => hg.same (hltp x (by simp [hx]))) (fun x hx => hsp x (by simp [hx]))) (trodAll_cons_mk (WideElems.Trod_stays (by kernel_rfl) (by kernel_rfl) (of_decide_eq_true (by kernel_rfl)) h1k (fun x hx => hg.same (hltp x (by simp [hx]))) (fun x hx => hsp x (by simp [hx]))) trodAll_mk0))) (fun _ _ => rfl) rfl
    hg (ok_one (by kernel_rfl) rfl (okWide_bool_mk Try.underlying4 _))⟩

set_option maxRecDepth 100000 in
theorem lifted (os : Os) (started : os.Started) (H : Type) (enc : TypeId × Value → H) :
    ReturnsInHanded {} Try.checked os 3 .any (Rows.fnExactSameScriptSpec.pre6 enc Try.prog Try.f3 Rows.fnExactSameScriptRow.domain false) (Rows.fnExactSameScriptSpec.post enc Try.prog Try.f3 false true false false) := by
  refine returnsInHanded_of_change (C := Try.checked) own started (by kernel_rfl) Try.func3
    (ChangeSpec.witness6 (enc := enc) (C := Try.checked) false ⟨#[], #[.slice none 0 0, .slice none 0 0], []⟩ 8 (by kernel_rfl) (by kernel_rfl) (by kernel_rfl) (by kernel_rfl)) ?_
  intro W base args ds gs before hval hW _ _
  exact contract H enc W base args ds gs before hval hW trivial

theorem over : Rows.fnExactSameScriptRow.holds Try.pinned (OpenSpec.ofChange Rows.fnExactSameScriptSpec) :=
  OpenClaim.holds_of_wide 3 Try.f3 rfl rfl rfl rfl rfl rfl rfl ⟨rfl, rfl, rfl, rfl, rfl⟩ rfl rfl rfl rfl rfl (by kernel_rfl) Try.func3 (by kernel_rfl)
    (of_decide_eq_true (by kernel_rfl)) (by unfold Func.isWrapper; first | (rw [if_pos (by decide +kernel)]; kernel_rfl) | (rw [if_neg (by decide +kernel)]; exact ⟨rfl, rfl⟩))
    (fun os started H enc _ => lifted os started H enc)

theorem proved : Rows.FnExactSameScriptSaid :=
  over
#print axioms proved
end Go.Proofs.Ytpjccaapnglomaa.fnExactSameScript
