/-
  The law FnExactConvertCode: for every input the call returns true, and each argument reads afterwards as it read before. No condition.
-/
import Derived.Test.YtecnhbgkkfcipaaRows
import Derived.Test.YtecnhbgkkfcipaaPost0
import Derived.Test.YtecnhbgkkfcipaaTcG2
import Derived.WalkKit
import Derived.ProofKit
import Derived.OpenShut
import Derived.ChangeMaps5
import Derived.ChangeSlices
import Derived.Carry
import Derived.Lib.SmallJoins
namespace Go.Proofs.Ytecnhbgkkfcipaa.fnExactConvertCode
open Go.ChangeShapes Go.WideShapes Go.ChangeAt Go.RowKit Go.ChangeMaps
set_option linter.unusedVariables false

theorem own : ownKnob Try.prog.godebug = none := by kernel_rfl

def Env (_w : World) : Prop := True

set_option maxRecDepth 100000 in
set_option maxHeartbeats 8000000 in
theorem walk (w : World) (a0 : Cd.V) (w0 : a0.ok) (a1 : Int) (w1 : (Lit.int .i64 a1).wf = true) (henv : Env w) :
    Calls Try.prog 10 #[a0.val, .int .i64 a1] w fun e w' => e = .returned (.bool true) ∧ Below w.heap.size w w' := by
  obtain ⟨r0_0, r0_1, r0_2, r0_3, r0_4⟩ := a0
  have m0 := w0
  simp only [Cd.V.val]
  have MM0 := Lib.hid m0
  clear w0 m0
  have FA1 : Hid (fits a1) := Lib.hid (wf_fits w1)
  clear w1
  go_enter Try.func10, Try.ntmps10
  go_wp2_with fail
  have HB0 : Hid (Below w.heap.size w w) := Lib.hid (Below.refl _ _)
  obtain ⟨wb1, hwwb1⟩ : ∃ W, W = w.alloc (Obj.cells #[Value.int .i64 r0_0, .int .i64 r0_1, .int .i64 r0_2, .int .i64 r0_3, .int .i64 r0_4] 23) := ⟨_, rfl⟩
  rw [← hwwb1]
  have hb : Below w.heap.size w wb1 := by rw [hwwb1]; exact (Below.refl _ _).alloc (Nat.le_refl _) _
  have hzwb1 : wb1.heap.size = w.heap.size + 1 := by rw [hwwb1]; simp
  have QNp0 := Lib.hid (Cd.BAt.new w (r0_0) (r0_1) (r0_2) (r0_3) (r0_4) 23)
  rw [← hwwb1] at QNp0
  clear hwwb1
  have hswb1 := hb.size
  have HB1 := Lib.hid (HB0.out.trans (hb.mono HB0.out.size))
  clear hb
  have Qp0_1 := QNp0
  clear QNp0
  have hlp0 := Qp0_1.out.lt
  obtain ⟨qp0_0, qp0_1, qp0_2, qp0_3, qp0_4⟩ := Qp0_1.out
  have T0 := Lib.hid (fun w => Cd.to_any r0_0 r0_1 r0_2 r0_3 r0_4 w)
  have F1 := Lib.hid (fun W  => Tc.specCon_any r0_0 r0_1 r0_2 r0_3 r0_4 a1 MM0.out.2.2.2.2 W)
  have F2 := Lib.hid (fun W  => Tc.implCon_any r0_0 r0_1 r0_2 r0_3 r0_4 a1 MM0.out.2.1 W)
  obtain ⟨x0, x1, x2, x3, x4, x5, hv⟩ := Tc.conV_form r0_0 r0_1 r0_2 r0_3 r0_4 a1
  rw [hv] at F1 F2
  clear hv
  refine (T0.out _).mono ?_
  rintro e w2 ⟨rfl, hb⟩
  clear qp0_0 qp0_1 qp0_2 qp0_3 qp0_4 hlp0
  have hsw2 := hb.size
  have HB2 := Lib.hid (HB1.out.trans (hb.mono HB1.out.size))
  have Qp0_2 := Lib.hid (Qp0_1.out.below hb)
  clear hb Qp0_1
  obtain ⟨qp0_0, qp0_1, qp0_2, qp0_3, qp0_4⟩ := Qp0_2.out
  have hlp0 := Qp0_2.out.lt
  go_wp2_with fail
  refine (F1.out _ ).mono ?_
  rintro e w3 ⟨rfl, hb⟩
  clear qp0_0 qp0_1 qp0_2 qp0_3 qp0_4 hlp0
  have hsw3 := hb.size
  have HB3 := Lib.hid (HB2.out.trans (hb.mono HB2.out.size))
  have Qp0_3 := Lib.hid (Qp0_2.out.below hb)
  clear hb Qp0_2
  obtain ⟨qp0_0, qp0_1, qp0_2, qp0_3, qp0_4⟩ := Qp0_3.out
  have hlp0 := Qp0_3.out.lt
  go_wp2_with fail
  obtain ⟨wb4, hwwb4⟩ : ∃ W, W = w3.alloc (Obj.cells #[Value.int .i64 x0, .int .i64 x1, .int .i64 x2, .int .i64 x3, .int .i64 x4] 25) := ⟨_, rfl⟩
  rw [← hwwb4]
  have hb : Below w3.heap.size w3 wb4 := by rw [hwwb4]; exact (Below.refl _ _).alloc (Nat.le_refl _) _
  have hzwb4 : wb4.heap.size = w3.heap.size + 1 := by rw [hwwb4]; simp
  have QNw0 := Lib.hid (Cd.BAt.new w3 (x0) (x1) (x2) (x3) (x4) 25)
  rw [← hwwb4] at QNw0
  clear hwwb4
  clear qp0_0 qp0_1 qp0_2 qp0_3 qp0_4 hlp0
  have hswb4 := hb.size
  have HB4 := Lib.hid (HB3.out.trans (hb.mono HB3.out.size))
  have Qp0_4 := Lib.hid (Qp0_3.out.below hb)
  clear hb Qp0_3
  obtain ⟨qp0_0, qp0_1, qp0_2, qp0_3, qp0_4⟩ := Qp0_4.out
  have hlp0 := Qp0_4.out.lt
  have Qw0_4 := QNw0
  clear QNw0
  have hlw0 := Qw0_4.out.lt
  obtain ⟨qw0_0, qw0_1, qw0_2, qw0_3, qw0_4⟩ := Qw0_4.out
  refine (T0.out _).mono ?_
  rintro e w5 ⟨rfl, hb⟩
  clear qp0_0 qp0_1 qp0_2 qp0_3 qp0_4 qw0_0 qw0_1 qw0_2 qw0_3 qw0_4 hlp0 hlw0
  have hsw5 := hb.size
  have HB5 := Lib.hid (HB4.out.trans (hb.mono HB4.out.size))
  have Qp0_5 := Lib.hid (Qp0_4.out.below hb)
  have Qw0_5 := Lib.hid (Qw0_4.out.below hb)
  clear hb Qp0_4 Qw0_4
  obtain ⟨qp0_0, qp0_1, qp0_2, qp0_3, qp0_4⟩ := Qp0_5.out
  have hlp0 := Qp0_5.out.lt
  obtain ⟨qw0_0, qw0_1, qw0_2, qw0_3, qw0_4⟩ := Qw0_5.out
  have hlw0 := Qw0_5.out.lt
  go_wp2_with fail
  refine (F2.out _ ).mono ?_
  rintro e w6 ⟨rfl, hb⟩
  clear qp0_0 qp0_1 qp0_2 qp0_3 qp0_4 qw0_0 qw0_1 qw0_2 qw0_3 qw0_4 hlp0 hlw0
  have hsw6 := hb.size
  have HB6 := Lib.hid (HB5.out.trans (hb.mono HB5.out.size))
  have Qp0_6 := Lib.hid (Qp0_5.out.below hb)
  have Qw0_6 := Lib.hid (Qw0_5.out.below hb)
  clear hb Qp0_5 Qw0_5
  obtain ⟨qp0_0, qp0_1, qp0_2, qp0_3, qp0_4⟩ := Qp0_6.out
  have hlp0 := Qp0_6.out.lt
  obtain ⟨qw0_0, qw0_1, qw0_2, qw0_3, qw0_4⟩ := Qw0_6.out
  have hlw0 := Qw0_6.out.lt
  go_wp2_with fail
  obtain ⟨wb7, hwwb7⟩ : ∃ W, W = w6.alloc (Obj.cells #[Value.int .i64 x0, .int .i64 x1, .int .i64 x2, .int .i64 x3, .int .i64 x4] 25) := ⟨_, rfl⟩
  rw [← hwwb7]
  have hb : Below w6.heap.size w6 wb7 := by rw [hwwb7]; exact (Below.refl _ _).alloc (Nat.le_refl _) _
  have hzwb7 : wb7.heap.size = w6.heap.size + 1 := by rw [hwwb7]; simp
  have QNg0 := Lib.hid (Cd.BAt.new w6 (x0) (x1) (x2) (x3) (x4) 25)
  rw [← hwwb7] at QNg0
  clear hwwb7
  clear qp0_0 qp0_1 qp0_2 qp0_3 qp0_4 qw0_0 qw0_1 qw0_2 qw0_3 qw0_4 hlp0 hlw0
  have hswb7 := hb.size
  have HB7 := Lib.hid (HB6.out.trans (hb.mono HB6.out.size))
  have Qp0_7 := Lib.hid (Qp0_6.out.below hb)
  have Qw0_7 := Lib.hid (Qw0_6.out.below hb)
  clear hb Qp0_6 Qw0_6
  obtain ⟨qp0_0, qp0_1, qp0_2, qp0_3, qp0_4⟩ := Qp0_7.out
  have hlp0 := Qp0_7.out.lt
  obtain ⟨qw0_0, qw0_1, qw0_2, qw0_3, qw0_4⟩ := Qw0_7.out
  have hlw0 := Qw0_7.out.lt
  have Qg0_7 := QNg0
  clear QNg0
  have hlg0 := Qg0_7.out.lt
  obtain ⟨qg0_0, qg0_1, qg0_2, qg0_3, qg0_4⟩ := Qg0_7.out
  refine (Cd.eq_same (x0) (x1) (x2) (x3) (x4) _).mono ?_
  rintro e w8 ⟨rfl, hb⟩
  clear qp0_0 qp0_1 qp0_2 qp0_3 qp0_4 qw0_0 qw0_1 qw0_2 qw0_3 qw0_4 qg0_0 qg0_1 qg0_2 qg0_3 qg0_4 hlp0 hlw0 hlg0
  have hsw8 := hb.size
  have HB8 := Lib.hid (HB7.out.trans (hb.mono HB7.out.size))
  have Qp0_8 := Lib.hid (Qp0_7.out.below hb)
  have Qw0_8 := Lib.hid (Qw0_7.out.below hb)
  have Qg0_8 := Lib.hid (Qg0_7.out.below hb)
  clear hb Qp0_7 Qw0_7 Qg0_7
  obtain ⟨qp0_0, qp0_1, qp0_2, qp0_3, qp0_4⟩ := Qp0_8.out
  have hlp0 := Qp0_8.out.lt
  obtain ⟨qw0_0, qw0_1, qw0_2, qw0_3, qw0_4⟩ := Qw0_8.out
  have hlw0 := Qw0_8.out.lt
  obtain ⟨qg0_0, qg0_1, qg0_2, qg0_3, qg0_4⟩ := Qg0_8.out
  have hlg0 := Qg0_8.out.lt
  go_wp2_with fail
  go_ret
  exact ⟨rfl, HB8.out⟩

set_option maxRecDepth 100000 in
set_option maxHeartbeats 2000000 in
theorem contract (H : Type) (enc : TypeId × Value → H) (W : World) (base : Nat) (args : Array Value) (ds gs : List (DataW H)) (before : List MemPlace)
    (hval : ∀ (j : Nat) t v, Try.f10.params[j]? = some t → args[j]? = some v → Value.okWide Try.prog W .any base t v)
    (hW : DataW.Whole enc Try.prog Try.f10.params.toList Rows.fnExactConvertCodeSpec.vars false W args.toList ds gs before) (henv : Env W) :
    Calls Try.prog 10 args W fun e W' => ∃ v, e = .returned v ∧ Rows.fnExactConvertCodeSpec.post enc Try.prog Try.f10 false true false false W args v W' := by
  have hW' := hW
  obtain ⟨p, q, hA0, hV, rfl, hfz, hnd⟩ := hW
  have hA : DataW.TrodAll enc Try.prog W 0 (fun _ => true) true Try.f10.params.toList args.toList ds p := hA0
  rw [Try.params10] at hA hval
  obtain ⟨v0, vs0, d0, ds0, p0, q0, hargs0, rfl, rfl, h0, r0⟩ := trodAll_cons hA
  obtain ⟨v1, vs1, d1, ds1, p1, q1, hargs1, rfl, rfl, h1, r1⟩ := trodAll_cons r0
  obtain ⟨rfl, rfl, rfl⟩ := trodAll_nil r1
  obtain rfl : args = #[v0, v1] := by cases args; simp_all
  obtain ⟨rfl, rfl⟩ := trodVars_none hV
  have h0k := h0
  obtain ⟨a0, rfl, w0⟩ := Cd.one_open (hval 0 23 v0 rfl rfl) h0
  obtain ⟨a1, rfl, rfl, rfl, w1⟩ := open_int Try.underlying2 (hval 1 2 v1 rfl rfl) h1
  clear hA0
  have hltp : ∀ x ∈ p0 ++ ([] ++ []) ++ [], x.block < W.heap.size := fun x hx => hW'.lt x hx
  refine (walk W a0 w0 a1 w1 henv).mono fun e W' ⟨he, hg⟩ => ?_
  subst he
  exact ⟨_, rfl, post_of_below (pa := p0 ++ ([] ++ [])) (pv := []) hW' (fun _ _ _ => (trodAll_cons_mk (shut_bool Try.underlying4 _) trodAll_mk0)) (fun sp hsp => (trodAll_cons_mk (WideElems.Trod_stays (by kernel_rfl) (by kernel_rfl) (of_decide_eq_true (by kernel_rfl)) h0k (fun x hx => hg.same (hltp x (by simp [hx]))) (fun x hx => hsp x (by simp [hx]))) (trodAll_cons_mk (shut_int Try.underlying2 w1) trodAll_mk0))) (fun _ _ => rfl) rfl
    hg (ok_one (by kernel_rfl) rfl (okWide_bool_mk Try.underlying4 _))⟩

set_option maxRecDepth 100000 in
theorem lifted (os : Os) (started : os.Started) (H : Type) (enc : TypeId × Value → H) :
    ReturnsInHanded {} Try.checked os 10 .any (Rows.fnExactConvertCodeSpec.pre6 enc Try.prog Try.f10 Rows.fnExactConvertCodeRow.domain false) (Rows.fnExactConvertCodeSpec.post enc Try.prog Try.f10 false true false false) := by
  refine returnsInHanded_of_change (C := Try.checked) own started (by kernel_rfl) Try.func10
    (ChangeSpec.witness6 (enc := enc) (C := Try.checked) false ⟨#[], #[.agg #[.int .i64 0, .int .i64 0, .int .i64 0, .int .i64 0, .int .i64 0], .int .i64 0], []⟩ 8 (by kernel_rfl) (by kernel_rfl) (by kernel_rfl) (by kernel_rfl)) ?_
  intro W base args ds gs before hval hW _ _
  exact contract H enc W base args ds gs before hval hW trivial

theorem over : Rows.fnExactConvertCodeRow.holds Try.pinned (OpenSpec.ofChange Rows.fnExactConvertCodeSpec) :=
  OpenClaim.holds_of_wide 10 Try.f10 rfl rfl rfl rfl rfl rfl rfl ⟨rfl, rfl, rfl, rfl, rfl⟩ rfl rfl rfl rfl rfl (by kernel_rfl) Try.func10 (by kernel_rfl)
    (of_decide_eq_true (by kernel_rfl)) (by unfold Func.isWrapper; first | (rw [if_pos (by decide +kernel)]; kernel_rfl) | (rw [if_neg (by decide +kernel)]; exact ⟨rfl, rfl⟩))
    (fun os started H enc _ => lifted os started H enc)

theorem proved : Rows.FnExactConvertCodeSaid :=
  over
#print axioms proved
end Go.Proofs.Ytecnhbgkkfcipaa.fnExactConvertCode
