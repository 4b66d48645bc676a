/-
  The law FnExactCodeAt: for every input the call returns true, and each argument reads afterwards as it read before. No condition.
-/
import Derived.Test.YtecnhbgkkfcipaaRows
import Derived.Test.YtecnhbgkkfcipaaPost0
import Derived.Test.YtecnhbgkkfcipaaTcU
import Derived.WalkKit
import Derived.ProofKit
import Derived.OpenShut
import Derived.ChangeMaps5
import Derived.Lib.SmallJoins
namespace Go.Proofs.Ytecnhbgkkfcipaa.fnExactCodeAt
open Go.ChangeShapes Go.WideShapes Go.ChangeAt Go.RowKit Go.ChangeMaps
set_option linter.unusedVariables false

theorem own : ownKnob Try.prog.godebug = none := by kernel_rfl

def Env (_w : World) : Prop := True

set_option maxRecDepth 100000 in
set_option maxHeartbeats 8000000 in
theorem walk (w : World) (a0 : Int) (w0 : (Lit.int .i64 a0).wf = true) (a1 : Int) (w1 : (Lit.int .i64 a1).wf = true) (henv : Env w) :
    Calls Try.prog 5 #[.int .i64 a0, .int .i64 a1] w fun e w' => e = .returned (.bool true) ∧ Below w.heap.size w w' := by
  go_enter Try.func5, Try.ntmps5
  go_wp2_with fail
  have HB0 : Hid (Below w.heap.size w w) := Lib.hid (Below.refl _ _)
  have F1 := Lib.hid (fun W  => Tc.specCodeAt_any a0 a1 W)
  have F2 := Lib.hid (fun W  => Tc.implCodeAt_any a0 a1 W)
  obtain ⟨x0, x1, x2, x3, x4, x5, hv⟩ := Tc.cdV_form a0 a1
  rw [hv] at F1 F2
  clear hv
  refine (F1.out _ ).mono ?_
  rintro e w1 ⟨rfl, hb⟩
  have hsw1 := hb.size
  have HB1 := Lib.hid (HB0.out.trans (hb.mono HB0.out.size))
  clear hb
  go_wp2_with fail
  obtain ⟨wb2, hwwb2⟩ : ∃ W, W = w1.alloc (Obj.cells #[Value.int .i64 x0, .int .i64 x1, .int .i64 x2, .int .i64 x3, .int .i64 x4] 25) := ⟨_, rfl⟩
  rw [← hwwb2]
  have hb : Below w1.heap.size w1 wb2 := by rw [hwwb2]; exact (Below.refl _ _).alloc (Nat.le_refl _) _
  have hzwb2 : wb2.heap.size = w1.heap.size + 1 := by rw [hwwb2]; simp
  have QNw0 := Lib.hid (Cd.BAt.new w1 (x0) (x1) (x2) (x3) (x4) 25)
  rw [← hwwb2] at QNw0
  clear hwwb2
  have hswb2 := hb.size
  have HB2 := Lib.hid (HB1.out.trans (hb.mono HB1.out.size))
  clear hb
  have Qw0_2 := QNw0
  clear QNw0
  have hlw0 := Qw0_2.out.lt
  obtain ⟨qw0_0, qw0_1, qw0_2, qw0_3, qw0_4⟩ := Qw0_2.out
  refine (F2.out _ ).mono ?_
  rintro e w3 ⟨rfl, hb⟩
  clear qw0_0 qw0_1 qw0_2 qw0_3 qw0_4 hlw0
  have hsw3 := hb.size
  have HB3 := Lib.hid (HB2.out.trans (hb.mono HB2.out.size))
  have Qw0_3 := Lib.hid (Qw0_2.out.below hb)
  clear hb Qw0_2
  obtain ⟨qw0_0, qw0_1, qw0_2, qw0_3, qw0_4⟩ := Qw0_3.out
  have hlw0 := Qw0_3.out.lt
  go_wp2_with fail
  obtain ⟨wb4, hwwb4⟩ : ∃ W, W = w3.alloc (Obj.cells #[Value.int .i64 x0, .int .i64 x1, .int .i64 x2, .int .i64 x3, .int .i64 x4] 25) := ⟨_, rfl⟩
  rw [← hwwb4]
  have hb : Below w3.heap.size w3 wb4 := by rw [hwwb4]; exact (Below.refl _ _).alloc (Nat.le_refl _) _
  have hzwb4 : wb4.heap.size = w3.heap.size + 1 := by rw [hwwb4]; simp
  have QNg0 := Lib.hid (Cd.BAt.new w3 (x0) (x1) (x2) (x3) (x4) 25)
  rw [← hwwb4] at QNg0
  clear hwwb4
  clear qw0_0 qw0_1 qw0_2 qw0_3 qw0_4 hlw0
  have hswb4 := hb.size
  have HB4 := Lib.hid (HB3.out.trans (hb.mono HB3.out.size))
  have Qw0_4 := Lib.hid (Qw0_3.out.below hb)
  clear hb Qw0_3
  obtain ⟨qw0_0, qw0_1, qw0_2, qw0_3, qw0_4⟩ := Qw0_4.out
  have hlw0 := Qw0_4.out.lt
  have Qg0_4 := QNg0
  clear QNg0
  have hlg0 := Qg0_4.out.lt
  obtain ⟨qg0_0, qg0_1, qg0_2, qg0_3, qg0_4⟩ := Qg0_4.out
  refine (Cd.eq_same (x0) (x1) (x2) (x3) (x4) _).mono ?_
  rintro e w5 ⟨rfl, hb⟩
  clear qw0_0 qw0_1 qw0_2 qw0_3 qw0_4 qg0_0 qg0_1 qg0_2 qg0_3 qg0_4 hlw0 hlg0
  have hsw5 := hb.size
  have HB5 := Lib.hid (HB4.out.trans (hb.mono HB4.out.size))
  have Qw0_5 := Lib.hid (Qw0_4.out.below hb)
  have Qg0_5 := Lib.hid (Qg0_4.out.below hb)
  clear hb Qw0_4 Qg0_4
  obtain ⟨qw0_0, qw0_1, qw0_2, qw0_3, qw0_4⟩ := Qw0_5.out
  have hlw0 := Qw0_5.out.lt
  obtain ⟨qg0_0, qg0_1, qg0_2, qg0_3, qg0_4⟩ := Qg0_5.out
  have hlg0 := Qg0_5.out.lt
  go_wp2_with fail
  go_ret
  exact ⟨rfl, HB5.out⟩

set_option maxRecDepth 100000 in
set_option maxHeartbeats 2000000 in
theorem contract (H : Type) (enc : TypeId × Value → H) (W : World) (base : Nat) (args : Array Value) (ds gs : List (DataW H)) (before : List MemPlace)
    (hval : ∀ (j : Nat) t v, Try.f5.params[j]? = some t → args[j]? = some v → Value.okWide Try.prog W .any base t v)
    (hW : DataW.Whole enc Try.prog Try.f5.params.toList Rows.fnExactCodeAtSpec.vars false W args.toList ds gs before) (henv : Env W) :
    Calls Try.prog 5 args W fun e W' => ∃ v, e = .returned v ∧ Rows.fnExactCodeAtSpec.post enc Try.prog Try.f5 false true false false W args v W' := by
  have hW' := hW
  obtain ⟨p, q, hA0, hV, rfl, hfz, hnd⟩ := hW
  have hA : DataW.TrodAll enc Try.prog W 0 (fun _ => true) true Try.f5.params.toList args.toList ds p := hA0
  rw [Try.params5] at hA hval
  obtain ⟨v0, vs0, d0, ds0, p0, q0, hargs0, rfl, rfl, h0, r0⟩ := trodAll_cons hA
  obtain ⟨v1, vs1, d1, ds1, p1, q1, hargs1, rfl, rfl, h1, r1⟩ := trodAll_cons r0
  obtain ⟨rfl, rfl, rfl⟩ := trodAll_nil r1
  obtain rfl : args = #[v0, v1] := by cases args; simp_all
  obtain ⟨rfl, rfl⟩ := trodVars_none hV
  obtain ⟨a0, rfl, rfl, rfl, w0⟩ := open_int Try.underlying2 (hval 0 2 v0 rfl rfl) h0
  obtain ⟨a1, rfl, rfl, rfl, w1⟩ := open_int Try.underlying2 (hval 1 2 v1 rfl rfl) h1
  clear hA0
  simp only [List.append_nil] at hW'
  refine (walk W a0 w0 a1 w1 henv).mono fun e W' ⟨he, hg⟩ => ?_
  subst he
  exact ⟨_, rfl, post_of_below (pa := []) (pv := []) hW' (fun _ _ _ => (trodAll_cons_mk (shut_bool Try.underlying4 _) trodAll_mk0)) (fun sp _ => (trodAll_cons_mk (shut_int Try.underlying2 w0) (trodAll_cons_mk (shut_int Try.underlying2 w1) trodAll_mk0))) (fun _ _ => rfl) rfl
    hg (ok_one (by kernel_rfl) rfl (okWide_bool_mk Try.underlying4 _))⟩

set_option maxRecDepth 100000 in
theorem lifted (os : Os) (started : os.Started) (H : Type) (enc : TypeId × Value → H) :
    ReturnsInHanded {} Try.checked os 5 .any (Rows.fnExactCodeAtSpec.pre6 enc Try.prog Try.f5 Rows.fnExactCodeAtRow.domain false) (Rows.fnExactCodeAtSpec.post enc Try.prog Try.f5 false true false false) := by
  refine returnsInHanded_of_change (C := Try.checked) own started (by kernel_rfl) Try.func5
    (ChangeSpec.witness6 (enc := enc) (C := Try.checked) false ⟨#[], #[.int .i64 0, .int .i64 0], []⟩ 8 (by kernel_rfl) (by kernel_rfl) (by kernel_rfl) (by kernel_rfl)) ?_
  intro W base args ds gs before hval hW _ _
  exact contract H enc W base args ds gs before hval hW trivial

theorem over : Rows.fnExactCodeAtRow.holds Try.pinned (OpenSpec.ofChange Rows.fnExactCodeAtSpec) :=
  OpenClaim.holds_of_wide 5 Try.f5 rfl rfl rfl rfl rfl rfl rfl ⟨rfl, rfl, rfl, rfl, rfl⟩ rfl rfl rfl rfl rfl (by kernel_rfl) Try.func5 (by kernel_rfl)
    (of_decide_eq_true (by kernel_rfl)) (by unfold Func.isWrapper; first | (rw [if_pos (by decide +kernel)]; kernel_rfl) | (rw [if_neg (by decide +kernel)]; exact ⟨rfl, rfl⟩))
    (fun os started H enc _ => lifted os started H enc)

theorem proved : Rows.FnExactCodeAtSaid :=
  over
#print axioms proved
end Go.Proofs.Ytecnhbgkkfcipaa.fnExactCodeAt
