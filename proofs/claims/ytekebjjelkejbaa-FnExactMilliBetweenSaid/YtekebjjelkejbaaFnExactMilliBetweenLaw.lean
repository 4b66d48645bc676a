/-
  The law FnExactMilliBetween: for every input the call returns true, and each argument reads afterwards as it read before. No condition.
-/
import Derived.Test.YtekebjjelkejbaaRows
import Derived.Test.YtekebjjelkejbaaPost0
import Derived.Test.YtekebjjelkejbaaMomC
import Derived.WalkKit
import Derived.ProofKit
import Derived.OpenShut
import Derived.ChangeMaps5
import Derived.Lib.SmallJoins
namespace Go.Proofs.Ytekebjjelkejbaa.fnExactMilliBetween
open Go.ChangeShapes Go.WideShapes Go.ChangeAt Go.RowKit Go.ChangeMaps
set_option linter.unusedVariables false

theorem own : ownKnob Try.prog.godebug = none := by kernel_rfl

def Env (_w : World) : Prop := True

set_option maxHeartbeats 30000000 in
theorem walk (w : World) (a0 b0 : Int) (w0 : (Lit.int .i64 a0).wf = true) (x0 : (Lit.int .i64 b0).wf = true) (a1 b1 : Int) (w1 : (Lit.int .i64 a1).wf = true) (x1 : (Lit.int .i64 b1).wf = true) (henv : Env w) :
    Calls Try.prog 4 #[.agg #[.int .i64 a0, .int .i64 b0], .agg #[.int .i64 a1, .int .i64 b1]] w fun e w' => e = .returned (.bool true) ∧ Below w.heap.size w w' := by
  clear w0 x0 w1 x1
  have F1 := Lib.hid (fun w => specBetween_any a0 b0 a1 b1 w)
  have F2 := Lib.hid (fun w => implBetween_any a0 b0 a1 b1 w)
  obtain ⟨p, q, hz⟩ := betweenV_form a0 b0 a1 b1
  rw [hz] at F1 F2
  clear hz
  have TA := Lib.hid (fun w => toMoment_any a0 b0 w)
  have TB := Lib.hid (fun w => toMoment_any a1 b1 w)
  obtain ⟨W0, hW0⟩ : ∃ W0, W0 = (w.alloc (.cells #[.int .i64 a0, .int .i64 b0] 23)).alloc (.cells #[.int .i64 a1, .int .i64 b1] 23) := ⟨_, rfl⟩
  have HB0 : Hid (Below w.heap.size w W0) := Lib.hid (by rw [hW0]; exact ((Below.refl _ _).alloc (Nat.le_refl _) _).alloc (by simp) _)
  have hzW0 : w.heap.size + 1 < W0.heap.size := by rw [hW0]; simp
  have hyW0 : w.heap.size < W0.heap.size := by omega
  have k1 : W0.cell? ⟨w.heap.size, 0, none⟩ = some (.int .i64 a0) := by rw [hW0]; simp
  have k2 : W0.cell? ⟨w.heap.size, 1, none⟩ = some (.int .i64 b0) := by rw [hW0]; simp
  have k3 : W0.cell? ⟨w.heap.size + 1, 0, none⟩ = some (.int .i64 a1) := by rw [hW0]; simp
  have k4 : W0.cell? ⟨w.heap.size + 1, 1, none⟩ = some (.int .i64 b1) := by rw [hW0]; simp
  have HW := Lib.hid hW0
  clear hW0
  go_enter Try.func4, Try.ntmps4
  go_wp2_with fail
  rw [← HW.out]
  go_region_with ((first
    | (go_at_call 8; (first
      | ((with_reducible refine (TA.out _).mono ?_); rintro e u1 ⟨rfl, hu1⟩; have lu1c : u1.cell? ⟨w.heap.size + 1, 0, none⟩ = some (.int .i64 a1) := (hu1.cell (p := ⟨w.heap.size + 1, 0, none⟩) hzW0).trans k3; have lu1d : u1.cell? ⟨w.heap.size + 1, 1, none⟩ = some (.int .i64 b1) := (hu1.cell (p := ⟨w.heap.size + 1, 1, none⟩) hzW0).trans k4)
      | ((with_reducible refine (TB.out _).mono ?_); rintro e u2 ⟨rfl, hu2⟩)))
    | (go_at_call 11; (with_reducible refine (F1.out _).mono ?_); rintro e u3 ⟨rfl, hu3⟩)))
  all_goals
    obtain ⟨hc3, hB3⟩ := below3 HB0.out hu1 hu2 hu3
    have HB3 := Lib.hid hB3
    have hzu3 : w.heap.size + 1 < u3.heap.size := by have := hc3.size; omega
    have hyu3 : w.heap.size < u3.heap.size := by omega
    have j1 : u3.cell? ⟨w.heap.size, 0, none⟩ = some (.int .i64 a0) := (hc3.cell (p := ⟨w.heap.size, 0, none⟩) hyW0).trans k1
    have j2 : u3.cell? ⟨w.heap.size, 1, none⟩ = some (.int .i64 b0) := (hc3.cell (p := ⟨w.heap.size, 1, none⟩) hyW0).trans k2
    have j3 : u3.cell? ⟨w.heap.size + 1, 0, none⟩ = some (.int .i64 a1) := (hc3.cell (p := ⟨w.heap.size + 1, 0, none⟩) hzW0).trans k3
    have j4 : u3.cell? ⟨w.heap.size + 1, 1, none⟩ = some (.int .i64 b1) := (hc3.cell (p := ⟨w.heap.size + 1, 1, none⟩) hzW0).trans k4
    clear hu1 hu2 hu3 hc3 hB3 k1 k2 k3 k4 lu1c lu1d
    go_wp2_with fail
    go_region_with ((first
      | (go_at_call 8; (first
        | ((with_reducible refine (TA.out _).mono ?_); rintro e v1 ⟨rfl, hv1⟩; have lv1c : v1.cell? ⟨w.heap.size + 1, 0, none⟩ = some (.int .i64 a1) := (hv1.cell (p := ⟨w.heap.size + 1, 0, none⟩) hzu3).trans j3; have lv1d : v1.cell? ⟨w.heap.size + 1, 1, none⟩ = some (.int .i64 b1) := (hv1.cell (p := ⟨w.heap.size + 1, 1, none⟩) hzu3).trans j4)
        | ((with_reducible refine (TB.out _).mono ?_); rintro e v2 ⟨rfl, hv2⟩)))
      | (go_at_call 12; (with_reducible refine (F2.out _).mono ?_); rintro e v3 ⟨rfl, hv3⟩)))
  all_goals
    have HB6 := Lib.hid (below3 HB3.out hv1 hv2 hv3).2
    clear hv1 hv2 hv3 j1 j2 j3 j4 lv1c lv1d
    go_wp2_with fail
    go_ret
    exact ⟨rfl, HB6.out⟩

set_option maxRecDepth 100000 in
theorem contract (H : Type) (enc : TypeId × Value → H) (W : World) (base : Nat) (args : Array Value) (ds gs : List (DataW H)) (before : List MemPlace)
    (hval : ∀ (j : Nat) t v, Try.f4.params[j]? = some t → args[j]? = some v → Value.okWide Try.prog W .any base t v)
    (hW : DataW.Whole enc Try.prog Try.f4.params.toList Rows.fnExactMilliBetweenSpec.vars false W args.toList ds gs before) (henv : Env W) :
    Calls Try.prog 4 args W fun e W' => ∃ v, e = .returned v ∧ Rows.fnExactMilliBetweenSpec.post enc Try.prog Try.f4 false true false false W args v W' := by
  have hW' := hW
  obtain ⟨p, q, hA0, hV, rfl, hfz, hnd⟩ := hW
  have hA : DataW.TrodAll enc Try.prog W 0 (fun _ => true) true Try.f4.params.toList args.toList ds p := hA0
  rw [Try.params4] at hA hval
  obtain ⟨v0, vs0, d0, ds0, p0, q0, hargs0, rfl, rfl, h0, r0⟩ := trodAll_cons hA
  obtain ⟨v1, vs1, d1, ds1, p1, q1, hargs1, rfl, rfl, h1, r1⟩ := trodAll_cons r0
  obtain ⟨rfl, rfl, rfl⟩ := trodAll_nil r1
  obtain rfl : args = #[v0, v1] := by cases args; simp_all
  obtain ⟨rfl, rfl⟩ := trodVars_none hV
  obtain ⟨va0, vb0, ya0, yb0, n0, rfl, rfl, rfl, ta0, tb0⟩ := Go.Joins.open_agg2 Try.underlying23 (by kernel_rfl) (by kernel_rfl) (hval 0 23 v0 rfl rfl) h0
  obtain ⟨a0, ea0, rfl, w0⟩ := DataW.trod_int Try.underlying2 ta0
  obtain ⟨b0, eb0, rfl, x0⟩ := DataW.trod_int Try.underlying2 tb0
  obtain rfl : va0 = .int .i64 a0 := by simpa using ea0
  obtain rfl : vb0 = .int .i64 b0 := by simpa using eb0
  obtain ⟨va1, vb1, ya1, yb1, n1, rfl, rfl, rfl, ta1, tb1⟩ := Go.Joins.open_agg2 Try.underlying23 (by kernel_rfl) (by kernel_rfl) (hval 1 23 v1 rfl rfl) h1
  obtain ⟨a1, ea1, rfl, w1⟩ := DataW.trod_int Try.underlying2 ta1
  obtain ⟨b1, eb1, rfl, x1⟩ := DataW.trod_int Try.underlying2 tb1
  obtain rfl : va1 = .int .i64 a1 := by simpa using ea1
  obtain rfl : vb1 = .int .i64 b1 := by simpa using eb1
  clear hA0
  simp only [List.append_nil] at hW'
  refine (walk W a0 b0 w0 x0 a1 b1 w1 x1 henv).mono fun e W' ⟨he, hg⟩ => ?_
  subst he
  exact ⟨_, rfl, post_of_below (pa := []) (pv := []) hW' (fun _ _ _ => (trodAll_cons_mk (shut_bool Try.underlying4 _) trodAll_mk0)) (fun sp _ => (trodAll_cons_mk (Go.Joins.shut_agg2 (y0 := (.lit (.int .i64 a0), [])) (y1 := (.lit (.int .i64 b0), [])) Try.underlying23 (by kernel_rfl) (by kernel_rfl) ⟨1, trod_int_mk 0 Try.underlying2 w0⟩ ⟨1, trod_int_mk 0 Try.underlying2 x0⟩) (trodAll_cons_mk (Go.Joins.shut_agg2 (y0 := (.lit (.int .i64 a1), [])) (y1 := (.lit (.int .i64 b1), [])) Try.underlying23 (by kernel_rfl) (by kernel_rfl) ⟨1, trod_int_mk 0 Try.underlying2 w1⟩ ⟨1, trod_int_mk 0 Try.underlying2 x1⟩) trodAll_mk0))) (fun _ _ => rfl) rfl
    hg (ok_one (by kernel_rfl) rfl (okWide_bool_mk Try.underlying4 _))⟩

set_option maxRecDepth 100000 in
theorem lifted (os : Os) (started : os.Started) (H : Type) (enc : TypeId × Value → H) :
    ReturnsInHanded {} Try.checked os 4 .any (Rows.fnExactMilliBetweenSpec.pre6 enc Try.prog Try.f4 Rows.fnExactMilliBetweenRow.domain false) (Rows.fnExactMilliBetweenSpec.post enc Try.prog Try.f4 false true false false) := by
  refine returnsInHanded_of_change (C := Try.checked) own started (by kernel_rfl) Try.func4
    (ChangeSpec.witness6 (enc := enc) (C := Try.checked) false ⟨#[], #[.agg #[.int .i64 0, .int .i64 0], .agg #[.int .i64 0, .int .i64 0]], []⟩ 8 (by kernel_rfl) (by kernel_rfl) (by kernel_rfl) (by kernel_rfl)) ?_
  intro W base args ds gs before hval hW _ _
  exact contract H enc W base args ds gs before hval hW trivial

theorem over : Rows.fnExactMilliBetweenRow.holds Try.pinned (OpenSpec.ofChange Rows.fnExactMilliBetweenSpec) :=
  OpenClaim.holds_of_wide 4 Try.f4 rfl rfl rfl rfl rfl rfl rfl ⟨rfl, rfl, rfl, rfl, rfl⟩ rfl rfl rfl rfl rfl (by kernel_rfl) Try.func4 (by kernel_rfl)
    (of_decide_eq_true (by kernel_rfl)) (by unfold Func.isWrapper; first | (rw [if_pos (by decide +kernel)]; kernel_rfl) | (rw [if_neg (by decide +kernel)]; exact ⟨rfl, rfl⟩))
    (fun os started H enc _ => lifted os started H enc)

theorem proved : Rows.FnExactMilliBetweenSaid :=
  over
#print axioms proved
end Go.Proofs.Ytekebjjelkejbaa.fnExactMilliBetween
