/-
  The law FnExactPlainMesh: for every input the call returns true, and each argument reads afterwards as it read before. No condition.
-/
import Derived.Test.YtbbkohpmncfilaaRows
import Derived.Test.YtbbkohpmncfilaaPost0
import Derived.Test.YtbbkohpmncfilaaPln
import Derived.WalkKit
import Derived.ProofKit
import Derived.OpenShut
import Derived.ChangeMaps5
import Derived.Lib.SmallJoins
namespace Go.Proofs.Ytbbkohpmncfilaa.fnExactPlainMesh
open Go.ChangeShapes Go.WideShapes Go.ChangeAt Go.RowKit Go.ChangeMaps
set_option linter.unusedVariables false

theorem own : ownKnob Try.prog.godebug = none := by kernel_rfl

def Env (_w : World) : Prop := True

set_option maxHeartbeats 1000000 in
theorem walk (w : World) (a0 : Int) (w0 : (Lit.int .i64 a0).wf = true) (a1 : Int) (w1 : (Lit.int .i64 a1).wf = true) (henv : Env w) :
    Calls Try.prog 5 #[.int .i64 a0, .int .i64 a1] w fun e w' => e = .returned (.bool true) ∧ Below w.heap.size w w' := by
  go_enter Try.func5, Try.ntmps5
  go_wp2_with fail
  have HB0 : Hid (Below w.heap.size w w) := Lib.hid (Below.refl _ _)
  have F1 := Lib.hid (fun W  => Me.specPlain_any a0 a1 W)
  have F2 := Lib.hid (fun W  => Me.implPlain_any a0 a1 W)
  have hrl : (Me.plainR a0 a1).1.2.2.length ≤ 1048576 := Me.plainR_len a0 a1
  unfold Me.MPost at F1 F2
  generalize Me.plainR a0 a1 = R at *
  obtain ⟨⟨c', r', L⟩, k⟩ := R
  simp only at F1 F2 hrl
  refine (F1.out _ ).mono ?_
  rintro e w1 ⟨uw0, rfl, ho0, hb⟩
  have HO0 := Lib.hid ho0
  clear ho0
  have hsw1 := hb.size
  have HB1 := Lib.hid (HB0.out.trans (hb.mono HB0.out.size))
  clear hb
  have Ow0_1 := HO0
  clear HO0
  obtain ⟨Aw0, Cw0, ew0⟩ := Ow0_1.out.len
  subst ew0
  go_wp2_with fail
  obtain ⟨wb2, hwwb2⟩ : ∃ W, W = w1.alloc (Obj.cells #[Value.int .i64 c', .int .i64 r', .slice Aw0 L.length Cw0] 29) := ⟨_, rfl⟩
  rw [← hwwb2]
  have hb : Below w1.heap.size w1 wb2 := by rw [hwwb2]; exact (Below.refl _ _).alloc (Nat.le_refl _) _
  have hzwb2 : wb2.heap.size = w1.heap.size + 1 := by rw [hwwb2]; simp
  have QNw0 := Lib.hid (Me.MAt.new w1 (c') (r') (.slice Aw0 L.length Cw0) 29)
  rw [← hwwb2] at QNw0
  clear hwwb2
  have hswb2 := hb.size
  have HB2 := Lib.hid (HB1.out.trans (hb.mono HB1.out.size))
  have Ow0_2 := Lib.hid (Ow0_1.out.below hb)
  clear hb Ow0_1
  have Qw0_2 := QNw0
  clear QNw0
  have hlw0 := Qw0_2.out.lt
  obtain ⟨qw0_0, qw0_1, qw0_2⟩ := Qw0_2.out
  refine (F2.out _ ).mono ?_
  rintro e w3 ⟨ug0, rfl, ho0, hb⟩
  have HO0 := Lib.hid ho0
  clear ho0
  clear qw0_0 qw0_1 qw0_2 hlw0
  have hsw3 := hb.size
  have HB3 := Lib.hid (HB2.out.trans (hb.mono HB2.out.size))
  have Qw0_3 := Lib.hid (Qw0_2.out.below hb)
  have Ow0_3 := Lib.hid (Ow0_2.out.below hb)
  clear hb Qw0_2 Ow0_2
  obtain ⟨qw0_0, qw0_1, qw0_2⟩ := Qw0_3.out
  have hlw0 := Qw0_3.out.lt
  have Og0_3 := HO0
  clear HO0
  obtain ⟨Ag0, Cg0, eg0⟩ := Og0_3.out.len
  subst eg0
  go_wp2_with fail
  obtain ⟨wb4, hwwb4⟩ : ∃ W, W = w3.alloc (Obj.cells #[Value.int .i64 c', .int .i64 r', .slice Ag0 L.length Cg0] 29) := ⟨_, rfl⟩
  rw [← hwwb4]
  have hb : Below w3.heap.size w3 wb4 := by rw [hwwb4]; exact (Below.refl _ _).alloc (Nat.le_refl _) _
  have hzwb4 : wb4.heap.size = w3.heap.size + 1 := by rw [hwwb4]; simp
  have QNg0 := Lib.hid (Me.MAt.new w3 (c') (r') (.slice Ag0 L.length Cg0) 29)
  rw [← hwwb4] at QNg0
  clear hwwb4
  clear qw0_0 qw0_1 qw0_2 hlw0
  have hswb4 := hb.size
  have HB4 := Lib.hid (HB3.out.trans (hb.mono HB3.out.size))
  have Qw0_4 := Lib.hid (Qw0_3.out.below hb)
  have Ow0_4 := Lib.hid (Ow0_3.out.below hb)
  have Og0_4 := Lib.hid (Og0_3.out.below hb)
  clear hb Qw0_3 Ow0_3 Og0_3
  obtain ⟨qw0_0, qw0_1, qw0_2⟩ := Qw0_4.out
  have hlw0 := Qw0_4.out.lt
  have Qg0_4 := QNg0
  clear QNg0
  have hlg0 := Qg0_4.out.lt
  obtain ⟨qg0_0, qg0_1, qg0_2⟩ := Qg0_4.out
  refine (Me.eqO_any (c') (r') hrl Og0_4.out Ow0_4.out).mono ?_
  rintro e w5 ⟨rfl, hb⟩
  clear qw0_0 qw0_1 qw0_2 qg0_0 qg0_1 qg0_2 hlw0 hlg0
  have hsw5 := hb.size
  have HB5 := Lib.hid (HB4.out.trans (hb.mono HB4.out.size))
  have Qw0_5 := Lib.hid (Qw0_4.out.below hb)
  have Qg0_5 := Lib.hid (Qg0_4.out.below hb)
  have Ow0_5 := Lib.hid (Ow0_4.out.below hb)
  have Og0_5 := Lib.hid (Og0_4.out.below hb)
  clear hb Qw0_4 Qg0_4 Ow0_4 Og0_4
  obtain ⟨qw0_0, qw0_1, qw0_2⟩ := Qw0_5.out
  have hlw0 := Qw0_5.out.lt
  obtain ⟨qg0_0, qg0_1, qg0_2⟩ := Qg0_5.out
  have hlg0 := Qg0_5.out.lt
  go_wp2_with fail
  refine (Me.markO_int (c') (r') _ (1) (by simp) (by omega) (by omega) (by omega) Og0_5.out (by omega)).mono ?_
  rintro e w7 ⟨rfl, ho, hm⟩
  clear qw0_0 qw0_1 qw0_2 qg0_0 qg0_1 qg0_2 hlw0 hlg0
  have hsw7 := hm.size
  have HB6 := Lib.hid (HB5.out.trans (hm.below (by omega) (by omega)))
  have Qw0_6 := Lib.hid (Qw0_5.out.mod hm (by omega))
  have Qg0_6 := Lib.hid (Qg0_5.out.mod hm (by omega))
  have Ow0_6 := Lib.hid (Ow0_5.out.mod hm (by omega))
  have Og0_6 := Lib.hid ho
  clear hm ho Qw0_5 Qg0_5 Ow0_5 Og0_5
  obtain ⟨qw0_0, qw0_1, qw0_2⟩ := Qw0_6.out
  have hlw0 := Qw0_6.out.lt
  obtain ⟨qg0_0, qg0_1, qg0_2⟩ := Qg0_6.out
  have hlg0 := Qg0_6.out.lt
  go_wp2_with fail
  refine (Me.heldO_int (c') (r') _ (1) (by simp) (by omega) (by omega) (by omega) Og0_6.out).mono ?_
  rintro e w8 ⟨rfl, hb⟩
  clear qw0_0 qw0_1 qw0_2 qg0_0 qg0_1 qg0_2 hlw0 hlg0
  have hsw8 := hb.size
  have HB7 := Lib.hid (HB6.out.trans (hb.mono HB6.out.size))
  have Qw0_7 := Lib.hid (Qw0_6.out.below hb)
  have Qg0_7 := Lib.hid (Qg0_6.out.below hb)
  have Ow0_7 := Lib.hid (Ow0_6.out.below hb)
  have Og0_7 := Lib.hid (Og0_6.out.below hb)
  clear hb Qw0_6 Qg0_6 Ow0_6 Og0_6
  obtain ⟨qw0_0, qw0_1, qw0_2⟩ := Qw0_7.out
  have hlw0 := Qw0_7.out.lt
  obtain ⟨qg0_0, qg0_1, qg0_2⟩ := Qg0_7.out
  have hlg0 := Qg0_7.out.lt
  go_wp2_with fail
  refine (F2.out _ ).mono ?_
  rintro e w9 ⟨uh0, rfl, ho0, hb⟩
  have HO0 := Lib.hid ho0
  clear ho0
  clear qw0_0 qw0_1 qw0_2 qg0_0 qg0_1 qg0_2 hlw0 hlg0
  have hsw9 := hb.size
  have HB8 := Lib.hid (HB7.out.trans (hb.mono HB7.out.size))
  have Qw0_8 := Lib.hid (Qw0_7.out.below hb)
  have Qg0_8 := Lib.hid (Qg0_7.out.below hb)
  have Ow0_8 := Lib.hid (Ow0_7.out.below hb)
  have Og0_8 := Lib.hid (Og0_7.out.below hb)
  clear hb Qw0_7 Qg0_7 Ow0_7 Og0_7
  obtain ⟨qw0_0, qw0_1, qw0_2⟩ := Qw0_8.out
  have hlw0 := Qw0_8.out.lt
  obtain ⟨qg0_0, qg0_1, qg0_2⟩ := Qg0_8.out
  have hlg0 := Qg0_8.out.lt
  have Oh0_8 := HO0
  clear HO0
  obtain ⟨Ah0, Ch0, eh0⟩ := Oh0_8.out.len
  subst eh0
  go_wp2_with fail
  obtain ⟨wb10, hwwb10⟩ : ∃ W, W = w9.alloc (Obj.cells #[Value.int .i64 c', .int .i64 r', .slice Ah0 L.length Ch0] 29) := ⟨_, rfl⟩
  rw [← hwwb10]
  have hb : Below w9.heap.size w9 wb10 := by rw [hwwb10]; exact (Below.refl _ _).alloc (Nat.le_refl _) _
  have hzwb10 : wb10.heap.size = w9.heap.size + 1 := by rw [hwwb10]; simp
  have QNh0 := Lib.hid (Me.MAt.new w9 (c') (r') (.slice Ah0 L.length Ch0) 29)
  rw [← hwwb10] at QNh0
  clear hwwb10
  clear qw0_0 qw0_1 qw0_2 qg0_0 qg0_1 qg0_2 hlw0 hlg0
  have hswb10 := hb.size
  have HB9 := Lib.hid (HB8.out.trans (hb.mono HB8.out.size))
  have Qw0_9 := Lib.hid (Qw0_8.out.below hb)
  have Qg0_9 := Lib.hid (Qg0_8.out.below hb)
  have Ow0_9 := Lib.hid (Ow0_8.out.below hb)
  have Og0_9 := Lib.hid (Og0_8.out.below hb)
  have Oh0_9 := Lib.hid (Oh0_8.out.below hb)
  clear hb Qw0_8 Qg0_8 Ow0_8 Og0_8 Oh0_8
  obtain ⟨qw0_0, qw0_1, qw0_2⟩ := Qw0_9.out
  have hlw0 := Qw0_9.out.lt
  obtain ⟨qg0_0, qg0_1, qg0_2⟩ := Qg0_9.out
  have hlg0 := Qg0_9.out.lt
  have Qh0_9 := QNh0
  clear QNh0
  have hlh0 := Qh0_9.out.lt
  obtain ⟨qh0_0, qh0_1, qh0_2⟩ := Qh0_9.out
  refine (Me.eqO_any (c') (r') hrl Oh0_9.out Ow0_9.out).mono ?_
  rintro e w11 ⟨rfl, hb⟩
  clear qw0_0 qw0_1 qw0_2 qg0_0 qg0_1 qg0_2 qh0_0 qh0_1 qh0_2 hlw0 hlg0 hlh0
  have hsw11 := hb.size
  have HB10 := Lib.hid (HB9.out.trans (hb.mono HB9.out.size))
  have Qw0_10 := Lib.hid (Qw0_9.out.below hb)
  have Qg0_10 := Lib.hid (Qg0_9.out.below hb)
  have Qh0_10 := Lib.hid (Qh0_9.out.below hb)
  have Ow0_10 := Lib.hid (Ow0_9.out.below hb)
  have Og0_10 := Lib.hid (Og0_9.out.below hb)
  have Oh0_10 := Lib.hid (Oh0_9.out.below hb)
  clear hb Qw0_9 Qg0_9 Qh0_9 Ow0_9 Og0_9 Oh0_9
  obtain ⟨qw0_0, qw0_1, qw0_2⟩ := Qw0_10.out
  have hlw0 := Qw0_10.out.lt
  obtain ⟨qg0_0, qg0_1, qg0_2⟩ := Qg0_10.out
  have hlg0 := Qg0_10.out.lt
  obtain ⟨qh0_0, qh0_1, qh0_2⟩ := Qh0_10.out
  have hlh0 := Qh0_10.out.lt
  go_wp2_with fail
  refine (Me.heldO_int (c') (r') _ (1) (by simp) (by omega) (by omega) (by omega) Og0_10.out).mono ?_
  rintro e w13 ⟨rfl, hb⟩
  clear qw0_0 qw0_1 qw0_2 qg0_0 qg0_1 qg0_2 qh0_0 qh0_1 qh0_2 hlw0 hlg0 hlh0
  have hsw13 := hb.size
  have HB11 := Lib.hid (HB10.out.trans (hb.mono HB10.out.size))
  have Qw0_11 := Lib.hid (Qw0_10.out.below hb)
  have Qg0_11 := Lib.hid (Qg0_10.out.below hb)
  have Qh0_11 := Lib.hid (Qh0_10.out.below hb)
  have Ow0_11 := Lib.hid (Ow0_10.out.below hb)
  have Og0_11 := Lib.hid (Og0_10.out.below hb)
  have Oh0_11 := Lib.hid (Oh0_10.out.below hb)
  clear hb Qw0_10 Qg0_10 Qh0_10 Ow0_10 Og0_10 Oh0_10
  obtain ⟨qw0_0, qw0_1, qw0_2⟩ := Qw0_11.out
  have hlw0 := Qw0_11.out.lt
  obtain ⟨qg0_0, qg0_1, qg0_2⟩ := Qg0_11.out
  have hlg0 := Qg0_11.out.lt
  obtain ⟨qh0_0, qh0_1, qh0_2⟩ := Qh0_11.out
  have hlh0 := Qh0_11.out.lt
  go_wp2_with fail
  go_ret
  exact ⟨rfl, HB11.out⟩

set_option maxRecDepth 100000 in
theorem contract (H : Type) (enc : TypeId × Value → H) (W : World) (base : Nat) (args : Array Value) (ds gs : List (DataW H)) (before : List MemPlace)
    (hval : ∀ (j : Nat) t v, Try.f5.params[j]? = some t → args[j]? = some v → Value.okWide Try.prog W .any base t v)
    (hW : DataW.Whole enc Try.prog Try.f5.params.toList Rows.fnExactPlainMeshSpec.vars false W args.toList ds gs before) (henv : Env W) :
    Calls Try.prog 5 args W fun e W' => ∃ v, e = .returned v ∧ Rows.fnExactPlainMeshSpec.post enc Try.prog Try.f5 false true false false W args v W' := by
  have hW' := hW
  obtain ⟨p, q, hA0, hV, rfl, hfz, hnd⟩ := hW
  have hA : DataW.TrodAll enc Try.prog W 0 (fun _ => true) true Try.f5.params.toList args.toList ds p := hA0
  rw [Try.params5] at hA hval
  obtain ⟨v0, vs0, d0, ds0, p0, q0, hargs0, rfl, rfl, h0, r0⟩ := trodAll_cons hA
  obtain ⟨v1, vs1, d1, ds1, p1, q1, hargs1, rfl, rfl, h1, r1⟩ := trodAll_cons r0
  obtain ⟨rfl, rfl, rfl⟩ := trodAll_nil r1
  obtain rfl : args = #[v0, v1] := by cases args; simp_all
  obtain ⟨rfl, rfl⟩ := trodVars_none hV
  obtain ⟨a0, rfl, rfl, rfl, w0⟩ := open_int Try.underlying2 (hval 0 2 v0 rfl rfl) h0
  obtain ⟨a1, rfl, rfl, rfl, w1⟩ := open_int Try.underlying2 (hval 1 2 v1 rfl rfl) h1
  clear hA0
  simp only [List.append_nil] at hW'
  refine (walk W a0 w0 a1 w1 henv).mono fun e W' ⟨he, hg⟩ => ?_
  subst he
  exact ⟨_, rfl, post_of_below (pa := []) (pv := []) hW' (fun _ _ _ => (trodAll_cons_mk (shut_bool Try.underlying4 _) trodAll_mk0)) (fun sp _ => (trodAll_cons_mk (shut_int Try.underlying2 w0) (trodAll_cons_mk (shut_int Try.underlying2 w1) trodAll_mk0))) (fun _ _ => rfl) rfl
    hg (ok_one (by kernel_rfl) rfl (okWide_bool_mk Try.underlying4 _))⟩

set_option maxRecDepth 100000 in
theorem lifted (os : Os) (started : os.Started) (H : Type) (enc : TypeId × Value → H) :
    ReturnsInHanded {} Try.checked os 5 .any (Rows.fnExactPlainMeshSpec.pre6 enc Try.prog Try.f5 Rows.fnExactPlainMeshRow.domain false) (Rows.fnExactPlainMeshSpec.post enc Try.prog Try.f5 false true false false) := by
  refine returnsInHanded_of_change (C := Try.checked) own started (by kernel_rfl) Try.func5
    (ChangeSpec.witness6 (enc := enc) (C := Try.checked) false ⟨#[], #[.int .i64 0, .int .i64 0], []⟩ 8 (by kernel_rfl) (by kernel_rfl) (by kernel_rfl) (by kernel_rfl)) ?_
  intro W base args ds gs before hval hW _ _
  exact contract H enc W base args ds gs before hval hW trivial

theorem over : Rows.fnExactPlainMeshRow.holds Try.pinned (OpenSpec.ofChange Rows.fnExactPlainMeshSpec) :=
  OpenClaim.holds_of_wide 5 Try.f5 rfl rfl rfl rfl rfl rfl rfl ⟨rfl, rfl, rfl, rfl, rfl⟩ rfl rfl rfl rfl rfl (by kernel_rfl) Try.func5 (by kernel_rfl)
    (of_decide_eq_true (by kernel_rfl)) (by unfold Func.isWrapper; first | (rw [if_pos (by decide +kernel)]; kernel_rfl) | (rw [if_neg (by decide +kernel)]; exact ⟨rfl, rfl⟩))
    (fun os started H enc _ => lifted os started H enc)

theorem proved : Rows.FnExactPlainMeshSaid :=
  over
#print axioms proved
end Go.Proofs.Ytbbkohpmncfilaa.fnExactPlainMesh
