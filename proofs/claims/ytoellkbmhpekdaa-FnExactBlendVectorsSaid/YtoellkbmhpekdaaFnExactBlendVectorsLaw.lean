/-
  The law FnExactBlendVectors: for every input the call returns true, and each argument reads afterwards as it read before. No condition.
-/
import Derived.Test.YtoellkbmhpekdaaRows
import Derived.Test.YtoellkbmhpekdaaPost0
import Derived.Test.YtoellkbmhpekdaaBelow3
import Derived.Test.YtoellkbmhpekdaaSBlend
import Derived.Test.YtoellkbmhpekdaaPost0
import Derived.WalkKit
import Derived.ProofKit
import Derived.OpenShut
import Derived.ChangeMaps5
import Derived.Lib.SmallJoins
namespace Go.Proofs.Ytoellkbmhpekdaa.fnExactBlendVectors
open Go.ChangeShapes Go.WideShapes Go.ChangeAt Go.RowKit Go.ChangeMaps
set_option linter.unusedVariables false

theorem own : ownKnob Try.prog.godebug = none := by kernel_rfl

def Env (_w : World) : Prop := True

set_option maxRecDepth 100000 in
set_option maxHeartbeats 8000000 in
theorem walk (w : World) (a0 b0 c0 : Int) (w0 : (Lit.int .i64 a0).wf = true) (x0 : (Lit.int .i64 b0).wf = true) (y0 : (Lit.int .i64 c0).wf = true) (a1 b1 c1 : Int) (w1 : (Lit.int .i64 a1).wf = true) (x1 : (Lit.int .i64 b1).wf = true) (y1 : (Lit.int .i64 c1).wf = true) (a2 : Int) (w2 : (Lit.int .i64 a2).wf = true) (henv : Env w) :
    Calls Try.prog 6 #[.agg #[.int .i64 a0, .int .i64 b0, .int .i64 c0], .agg #[.int .i64 a1, .int .i64 b1, .int .i64 c1], .int .i64 a2] w fun e w' => e = .returned (.bool true) ∧ Below w.heap.size w w' := by
  clear w0 x0 y0 w1 x1 y1 w2
  have F1 := Lib.hid (fun w => specBlendV_any a0 b0 c0 a1 b1 c1 a2 w)
  have F2 := Lib.hid (fun w => implBlendV_any a0 b0 c0 a1 b1 c1 a2 w)
  obtain ⟨r0x, r0y, r0z, r1x, hz⟩ := blendV_form a0 b0 c0 a1 b1 c1 a2
  rw [hz] at F1 F2
  clear hz
  have TA := Lib.hid (fun w => toVector_any a0 b0 c0 w)
  have TB := Lib.hid (fun w => toVector_any a1 b1 c1 w)
  obtain ⟨W0, hW0⟩ : ∃ W0, W0 = (w.alloc (.cells #[.int .i64 a0, .int .i64 b0, .int .i64 c0] 46)).alloc (.cells #[.int .i64 a1, .int .i64 b1, .int .i64 c1] 46) := ⟨_, rfl⟩
  have S0 : Hid (W0.cell? ⟨w.heap.size, 0, none⟩ = some (.int .i64 a0) ∧ W0.cell? ⟨w.heap.size, 1, none⟩ = some (.int .i64 b0) ∧ W0.cell? ⟨w.heap.size, 2, none⟩ = some (.int .i64 c0) ∧ W0.cell? ⟨w.heap.size + 1, 0, none⟩ = some (.int .i64 a1) ∧ W0.cell? ⟨w.heap.size + 1, 1, none⟩ = some (.int .i64 b1) ∧ W0.cell? ⟨w.heap.size + 1, 2, none⟩ = some (.int .i64 c1) ∧ w.heap.size + 1 < W0.heap.size ∧ Below w.heap.size w W0) := Lib.hid (by
    have A0 := (C3.new w 46 a0 b0 c0).alloc (by simp) (.cells #[.int .i64 a1, .int .i64 b1, .int .i64 c1] 46)
    have A1 : C3 W0 (w.heap.size + 1) a1 b1 c1 := by rw [hW0]; simpa using C3.new (w.alloc (.cells #[.int .i64 a0, .int .i64 b0, .int .i64 c0] 46)) 46 a1 b1 c1
    rw [← hW0] at A0
    exact ⟨A0.c0, A0.c1, A0.c2, A1.c0, A1.c1, A1.c2, by rw [hW0]; simp, by rw [hW0]; exact ((Below.refl _ _).alloc (Nat.le_refl _) _).alloc (by simp) _⟩)
  have HW := Lib.hid hW0
  clear hW0
  go_enter Try.func6, Try.ntmps6
  go_wp2_with fail
  rw [← HW.out]
  clear HW
  go_cut [7, 8] from 11 (fun sp sc wx => ∃ r : Nat, sp = .pointer (some ⟨r, 0, none⟩) ∧ sc = .int .i64 r1x ∧ Hid (wx.cell? ⟨w.heap.size, 0, none⟩ = some (.int .i64 a0) ∧ wx.cell? ⟨w.heap.size, 1, none⟩ = some (.int .i64 b0) ∧ wx.cell? ⟨w.heap.size, 2, none⟩ = some (.int .i64 c0) ∧ wx.cell? ⟨w.heap.size + 1, 0, none⟩ = some (.int .i64 a1) ∧ wx.cell? ⟨w.heap.size + 1, 1, none⟩ = some (.int .i64 b1) ∧ wx.cell? ⟨w.heap.size + 1, 2, none⟩ = some (.int .i64 c1) ∧ w.heap.size + 1 < wx.heap.size ∧ Below w.heap.size w wx ∧ wx.cell? ⟨r, 0, none⟩ = some (.int .i64 r0x) ∧ wx.cell? ⟨r, 1, none⟩ = some (.int .i64 r0y) ∧ wx.cell? ⟨r, 2, none⟩ = some (.int .i64 r0z) ∧ r < wx.heap.size))
  case first =>
    obtain ⟨k0, k1, k2, k3, k4, k5, k6, k7⟩ := S0.out
    clear S0
    go_region_held3 (fun w' => w'.cell? ⟨w.heap.size, 0, none⟩ = some (.int .i64 a0) ∧ w'.cell? ⟨w.heap.size, 1, none⟩ = some (.int .i64 b0) ∧ w'.cell? ⟨w.heap.size, 2, none⟩ = some (.int .i64 c0) ∧ w'.cell? ⟨w.heap.size + 1, 0, none⟩ = some (.int .i64 a1) ∧ w'.cell? ⟨w.heap.size + 1, 1, none⟩ = some (.int .i64 b1) ∧ w'.cell? ⟨w.heap.size + 1, 2, none⟩ = some (.int .i64 c1) ∧ w.heap.size + 1 < w'.heap.size ∧ Below w.heap.size w w') (first | (exact keepV ⟨k0, k1, k2, k3, k4, k5, k6, k7⟩ (bel_drew (Below.refl _ _))) | (exact keepV ⟨k0, k1, k2, k3, k4, k5, k6, k7⟩ ub3) | (exact keepV ⟨k0, k1, k2, k3, k4, k5, k6, k7⟩ ub2) | (exact keepV ⟨k0, k1, k2, k3, k4, k5, k6, k7⟩ ub1) | (exact keepV ⟨k0, k1, k2, k3, k4, k5, k6, k7⟩ (ub3.alloc ub3.size _)) | (exact keepV ⟨k0, k1, k2, k3, k4, k5, k6, k7⟩ (ub2.alloc ub2.size _)) | (exact keepV ⟨k0, k1, k2, k3, k4, k5, k6, k7⟩ (ub1.alloc ub1.size _)) | (exact keepV ⟨k0, k1, k2, k3, k4, k5, k6, k7⟩ ((bel_drew (Below.refl _ _)).alloc (Nat.le_refl _) _)) | (exact keepV ⟨k0, k1, k2, k3, k4, k5, k6, k7⟩ (((ub3.setCell ub2.size _).setCell ub2.size _).setCell ub2.size _)) | (exact keepV ⟨k0, k1, k2, k3, k4, k5, k6, k7⟩ (((ub3.setCell ub1.size _).setCell ub1.size _).setCell ub1.size _)) | (exact keepV ⟨k0, k1, k2, k3, k4, k5, k6, k7⟩ (((ub3.setCell (Nat.le_refl _) _).setCell (Nat.le_refl _) _).setCell (Nat.le_refl _) _)) | go_keep) ((first
      | (go_at_call 22; (first
        | ((with_reducible refine (TA.out _).mono ?_); rintro e u1 ⟨rfl, hu1⟩; (first | have ub1 := undrewD hu1 | have ub1 := undrewA hu1 | have ub1 := undrew hu1))
        | ((with_reducible refine (TB.out _).mono ?_); rintro e u2 ⟨rfl, hu2⟩; (first | have ub2 := onwardA ub1 hu2 | have ub2 := onward ub1 hu2))))
      | (go_at_call 21; (with_reducible refine (F1.out _).mono ?_); rintro e u3 ⟨rfl, hu3⟩; (first | have ub3 := onwardA ub2 hu3 | have ub3 := onward ub2 hu3); (first | (have r := C3.late hu3; have rr := Lib.hid r; obtain ⟨qu0, qu1, qu2, qu3, qu4, qu5⟩ := r) | (have r := (C3.late hu2).on hu3; have rr := Lib.hid r; obtain ⟨qu0, qu1, qu2, qu3, qu4, qu5⟩ := r) | (have r := ((C3.lateD hu1).on hu2).on hu3; have rr := Lib.hid r; obtain ⟨qu0, qu1, qu2, qu3, qu4, qu5⟩ := r) | (have r := ((C3.late hu1).on hu2).on hu3; have rr := Lib.hid r; obtain ⟨qu0, qu1, qu2, qu3, qu4, qu5⟩ := r) | skip))))
    all_goals
      rename_i held
      have S1 := Lib.hid held
      clear held k0 k1 k2 k3 k4 k5 k6 k7
      go_wp2_with fail
      go_meet
      case rel => first | exact ⟨_, rfl, rfl, Lib.hid (addR S1.out (C3.new _ _ _ _ _))⟩ | exact ⟨_, rfl, rfl, Lib.hid (addR S1.out (C3.stored rr.out _ _ _))⟩
  case rest =>
    obtain ⟨r, rfl, rfl, S1⟩ := hcut
    go_wp2_with fail
    go_cut [9, 10] from 11 (fun sp sc wx => ∃ q : Nat, sp = .pointer (some ⟨q, 0, none⟩) ∧ sc = .int .i64 r1x ∧ Hid (C3 wx q r0x r0y r0z) ∧ Hid (wx.cell? ⟨w.heap.size, 0, none⟩ = some (.int .i64 a0) ∧ wx.cell? ⟨w.heap.size, 1, none⟩ = some (.int .i64 b0) ∧ wx.cell? ⟨w.heap.size, 2, none⟩ = some (.int .i64 c0) ∧ wx.cell? ⟨w.heap.size + 1, 0, none⟩ = some (.int .i64 a1) ∧ wx.cell? ⟨w.heap.size + 1, 1, none⟩ = some (.int .i64 b1) ∧ wx.cell? ⟨w.heap.size + 1, 2, none⟩ = some (.int .i64 c1) ∧ w.heap.size + 1 < wx.heap.size ∧ Below w.heap.size w wx ∧ wx.cell? ⟨r, 0, none⟩ = some (.int .i64 r0x) ∧ wx.cell? ⟨r, 1, none⟩ = some (.int .i64 r0y) ∧ wx.cell? ⟨r, 2, none⟩ = some (.int .i64 r0z) ∧ r < wx.heap.size))
    case first =>
      obtain ⟨k0, k1, k2, k3, k4, k5, k6, k7, k8, k9, k10, k11⟩ := S1.out
      clear S1
      go_region_held3 (fun w' => w'.cell? ⟨w.heap.size, 0, none⟩ = some (.int .i64 a0) ∧ w'.cell? ⟨w.heap.size, 1, none⟩ = some (.int .i64 b0) ∧ w'.cell? ⟨w.heap.size, 2, none⟩ = some (.int .i64 c0) ∧ w'.cell? ⟨w.heap.size + 1, 0, none⟩ = some (.int .i64 a1) ∧ w'.cell? ⟨w.heap.size + 1, 1, none⟩ = some (.int .i64 b1) ∧ w'.cell? ⟨w.heap.size + 1, 2, none⟩ = some (.int .i64 c1) ∧ w.heap.size + 1 < w'.heap.size ∧ Below w.heap.size w w' ∧ w'.cell? ⟨r, 0, none⟩ = some (.int .i64 r0x) ∧ w'.cell? ⟨r, 1, none⟩ = some (.int .i64 r0y) ∧ w'.cell? ⟨r, 2, none⟩ = some (.int .i64 r0z) ∧ r < w'.heap.size) (first | (exact keepR ⟨k0, k1, k2, k3, k4, k5, k6, k7, k8, k9, k10, k11⟩ (bel_drew (Below.refl _ _))) | (exact keepR ⟨k0, k1, k2, k3, k4, k5, k6, k7, k8, k9, k10, k11⟩ vb3) | (exact keepR ⟨k0, k1, k2, k3, k4, k5, k6, k7, k8, k9, k10, k11⟩ vb2) | (exact keepR ⟨k0, k1, k2, k3, k4, k5, k6, k7, k8, k9, k10, k11⟩ vb1) | (exact keepR ⟨k0, k1, k2, k3, k4, k5, k6, k7, k8, k9, k10, k11⟩ (vb3.alloc vb3.size _)) | (exact keepR ⟨k0, k1, k2, k3, k4, k5, k6, k7, k8, k9, k10, k11⟩ (vb2.alloc vb2.size _)) | (exact keepR ⟨k0, k1, k2, k3, k4, k5, k6, k7, k8, k9, k10, k11⟩ (vb1.alloc vb1.size _)) | (exact keepR ⟨k0, k1, k2, k3, k4, k5, k6, k7, k8, k9, k10, k11⟩ ((bel_drew (Below.refl _ _)).alloc (Nat.le_refl _) _)) | (exact keepR ⟨k0, k1, k2, k3, k4, k5, k6, k7, k8, k9, k10, k11⟩ (((vb3.setCell vb2.size _).setCell vb2.size _).setCell vb2.size _)) | (exact keepR ⟨k0, k1, k2, k3, k4, k5, k6, k7, k8, k9, k10, k11⟩ (((vb3.setCell vb1.size _).setCell vb1.size _).setCell vb1.size _)) | (exact keepR ⟨k0, k1, k2, k3, k4, k5, k6, k7, k8, k9, k10, k11⟩ (((vb3.setCell (Nat.le_refl _) _).setCell (Nat.le_refl _) _).setCell (Nat.le_refl _) _)) | go_keep) ((first
        | (go_at_call 22; (first
          | ((with_reducible refine (TA.out _).mono ?_); rintro e v1 ⟨rfl, hv1⟩; (first | have vb1 := undrewD hv1 | have vb1 := undrewA hv1 | have vb1 := undrew hv1))
          | ((with_reducible refine (TB.out _).mono ?_); rintro e v2 ⟨rfl, hv2⟩; (first | have vb2 := onwardA vb1 hv2 | have vb2 := onward vb1 hv2))))
        | (go_at_call 23; (with_reducible refine (F2.out _).mono ?_); rintro e v3 ⟨rfl, hv3⟩; (first | have vb3 := onwardA vb2 hv3 | have vb3 := onward vb2 hv3); (first | (have r := C3.late hv3; have rr := Lib.hid r; obtain ⟨qv0, qv1, qv2, qv3, qv4, qv5⟩ := r) | (have r := (C3.late hv2).on hv3; have rr := Lib.hid r; obtain ⟨qv0, qv1, qv2, qv3, qv4, qv5⟩ := r) | (have r := ((C3.lateD hv1).on hv2).on hv3; have rr := Lib.hid r; obtain ⟨qv0, qv1, qv2, qv3, qv4, qv5⟩ := r) | (have r := ((C3.late hv1).on hv2).on hv3; have rr := Lib.hid r; obtain ⟨qv0, qv1, qv2, qv3, qv4, qv5⟩ := r) | skip))))
      all_goals
        rename_i held
        have S2 := Lib.hid held
        clear held k0 k1 k2 k3 k4 k5 k6 k7 k8 k9 k10 k11
        go_wp2_with fail
        go_meet
        case rel => first | exact ⟨_, rfl, rfl, Lib.hid (C3.new _ _ _ _ _), S2⟩ | exact ⟨_, rfl, rfl, Lib.hid (C3.stored rr.out _ _ _), S2⟩
    case rest =>
      obtain ⟨q, rfl, rfl, CQ, S2⟩ := hcut
      obtain ⟨k0, k1, k2, k3, k4, k5, k6, k7, k8, k9, k10, k11⟩ := S2.out
      obtain ⟨q0, q1, q2, _, _, _⟩ := CQ.out
      have EQ := Lib.hid (fun w => eqVector_same r0x r0y r0z w)
      have B7 := Lib.hid k7
      clear S2 CQ k0 k1 k2 k3 k4 k5 k6 k7 F1 F2 TA TB
      go_wp2_with fail
      refine (EQ.out _).mono ?_
      rintro e x1 ⟨rfl, hb⟩
      have B8 := Lib.hid (B7.out.trans (hb.mono B7.out.size))
      clear hb
      go_wp2_with fail
      go_ret
      exact ⟨rfl, B8.out⟩

set_option maxRecDepth 100000 in
set_option maxHeartbeats 2000000 in
theorem contract (H : Type) (enc : TypeId × Value → H) (W : World) (base : Nat) (args : Array Value) (ds gs : List (DataW H)) (before : List MemPlace)
    (hval : ∀ (j : Nat) t v, Try.f6.params[j]? = some t → args[j]? = some v → Value.okWide Try.prog W .any base t v)
    (hW : DataW.Whole enc Try.prog Try.f6.params.toList Rows.fnExactBlendVectorsSpec.vars false W args.toList ds gs before) (henv : Env W) :
    Calls Try.prog 6 args W fun e W' => ∃ v, e = .returned v ∧ Rows.fnExactBlendVectorsSpec.post enc Try.prog Try.f6 false true false false W args v W' := by
  have hW' := hW
  obtain ⟨p, q, hA0, hV, rfl, hfz, hnd⟩ := hW
  have hA : DataW.TrodAll enc Try.prog W 0 (fun _ => true) true Try.f6.params.toList args.toList ds p := hA0
  rw [Try.params6] at hA hval
  obtain ⟨v0, vs0, d0, ds0, p0, q0, hargs0, rfl, rfl, h0, r0⟩ := trodAll_cons hA
  obtain ⟨v1, vs1, d1, ds1, p1, q1, hargs1, rfl, rfl, h1, r1⟩ := trodAll_cons r0
  obtain ⟨v2, vs2, d2, ds2, p2, q2, hargs2, rfl, rfl, h2, r2⟩ := trodAll_cons r1
  obtain ⟨rfl, rfl, rfl⟩ := trodAll_nil r2
  obtain rfl : args = #[v0, v1, v2] := by cases args; simp_all
  obtain ⟨rfl, rfl⟩ := trodVars_none hV
  obtain ⟨va0, vb0, vc0, ya0, yb0, yc0, n0, rfl, rfl, rfl, ta0, tb0, tc0⟩ := Go.Joins.open_agg3 Try.underlying46 (by kernel_rfl) (by kernel_rfl) (hval 0 46 v0 rfl rfl) h0
  obtain ⟨a0, ea0, rfl, w0⟩ := DataW.trod_int Try.underlying2 ta0
  obtain ⟨b0, eb0, rfl, x0⟩ := DataW.trod_int Try.underlying2 tb0
  obtain ⟨c0, ec0, rfl, y0⟩ := DataW.trod_int Try.underlying2 tc0
  obtain rfl : va0 = .int .i64 a0 := by simpa using ea0
  obtain rfl : vb0 = .int .i64 b0 := by simpa using eb0
  obtain rfl : vc0 = .int .i64 c0 := by simpa using ec0
  obtain ⟨va1, vb1, vc1, ya1, yb1, yc1, n1, rfl, rfl, rfl, ta1, tb1, tc1⟩ := Go.Joins.open_agg3 Try.underlying46 (by kernel_rfl) (by kernel_rfl) (hval 1 46 v1 rfl rfl) h1
  obtain ⟨a1, ea1, rfl, w1⟩ := DataW.trod_int Try.underlying2 ta1
  obtain ⟨b1, eb1, rfl, x1⟩ := DataW.trod_int Try.underlying2 tb1
  obtain ⟨c1, ec1, rfl, y1⟩ := DataW.trod_int Try.underlying2 tc1
  obtain rfl : va1 = .int .i64 a1 := by simpa using ea1
  obtain rfl : vb1 = .int .i64 b1 := by simpa using eb1
  obtain rfl : vc1 = .int .i64 c1 := by simpa using ec1
  obtain ⟨a2, rfl, rfl, rfl, w2⟩ := open_int Try.underlying2 (hval 2 2 v2 rfl rfl) h2
  clear hA0
  simp only [List.append_nil] at hW'
  refine (walk W a0 b0 c0 w0 x0 y0 a1 b1 c1 w1 x1 y1 a2 w2 henv).mono fun e W' ⟨he, hg⟩ => ?_
  subst he
  exact ⟨_, rfl, post_of_below (pa := []) (pv := []) hW' (fun _ _ _ => (trodAll_cons_mk (shut_bool Try.underlying4 _) trodAll_mk0)) (fun sp _ => (trodAll_cons_mk (Go.Joins.shut_agg3 (y0 := (.lit (.int .i64 a0), [])) (y1 := (.lit (.int .i64 b0), [])) (y2 := (.lit (.int .i64 c0), [])) Try.underlying46 (by kernel_rfl) (by kernel_rfl) ⟨1, trod_int_mk 0 Try.underlying2 w0⟩ ⟨1, trod_int_mk 0 Try.underlying2 x0⟩ ⟨1, trod_int_mk 0 Try.underlying2 y0⟩) (trodAll_cons_mk (Go.Joins.shut_agg3 (y0 := (.lit (.int .i64 a1), [])) (y1 := (.lit (.int .i64 b1), [])) (y2 := (.lit (.int .i64 c1), [])) Try.underlying46 (by kernel_rfl) (by kernel_rfl) ⟨1, trod_int_mk 0 Try.underlying2 w1⟩ ⟨1, trod_int_mk 0 Try.underlying2 x1⟩ ⟨1, trod_int_mk 0 Try.underlying2 y1⟩) (trodAll_cons_mk (shut_int Try.underlying2 w2) trodAll_mk0)))) (fun _ _ => rfl) rfl
    hg (ok_one (by kernel_rfl) rfl (okWide_bool_mk Try.underlying4 _))⟩

set_option maxRecDepth 100000 in
theorem lifted (os : Os) (started : os.Started) (H : Type) (enc : TypeId × Value → H) :
    ReturnsInHanded {} Try.checked os 6 .any (Rows.fnExactBlendVectorsSpec.pre6 enc Try.prog Try.f6 Rows.fnExactBlendVectorsRow.domain false) (Rows.fnExactBlendVectorsSpec.post enc Try.prog Try.f6 false true false false) := by
  refine returnsInHanded_of_change (C := Try.checked) own started (by kernel_rfl) Try.func6
    (ChangeSpec.witness6 (enc := enc) (C := Try.checked) false ⟨#[], #[.agg #[.int .i64 0, .int .i64 0, .int .i64 0], .agg #[.int .i64 0, .int .i64 0, .int .i64 0], .int .i64 0], []⟩ 8 (by kernel_rfl) (by kernel_rfl) (by kernel_rfl) (by kernel_rfl)) ?_
  intro W base args ds gs before hval hW _ _
  exact contract H enc W base args ds gs before hval hW trivial

theorem over : Rows.fnExactBlendVectorsRow.holds Try.pinned (OpenSpec.ofChange Rows.fnExactBlendVectorsSpec) :=
  OpenClaim.holds_of_wide 6 Try.f6 rfl rfl rfl rfl rfl rfl rfl ⟨rfl, rfl, rfl, rfl, rfl⟩ rfl rfl rfl rfl rfl (by kernel_rfl) Try.func6 (by kernel_rfl)
    (of_decide_eq_true (by kernel_rfl)) (by unfold Func.isWrapper; first | (rw [if_pos (by decide +kernel)]; kernel_rfl) | (rw [if_neg (by decide +kernel)]; exact ⟨rfl, rfl⟩))
    (fun os started H enc _ => lifted os started H enc)

theorem proved : Rows.FnExactBlendVectorsSaid :=
  over
#print axioms proved
end Go.Proofs.Ytoellkbmhpekdaa.fnExactBlendVectors
