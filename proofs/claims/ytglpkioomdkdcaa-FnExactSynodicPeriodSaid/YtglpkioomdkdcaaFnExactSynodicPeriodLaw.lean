/-
  The law FnExactSynodicPeriod: for every input the call returns true, and each argument reads afterwards as it read before. No condition.
-/
import Derived.Test.YtglpkioomdkdcaaRows
import Derived.Test.YtglpkioomdkdcaaPost0
import Derived.Test.YtglpkioomdkdcaaPlan2
import Derived.WalkKit
import Derived.ProofKit
import Derived.OpenShut
import Derived.ChangeMaps5
import Derived.ChangeSlices
import Derived.Carry
import Derived.Lib.SmallJoins
namespace Go.Proofs.Ytglpkioomdkdcaa.fnExactSynodicPeriod
open Go.ChangeShapes Go.WideShapes Go.ChangeAt Go.RowKit Go.ChangeMaps
set_option linter.unusedVariables false

theorem own : ownKnob Try.prog.godebug = none := by kernel_rfl

def Env (_w : World) : Prop := True

set_option maxHeartbeats 1000000 in
theorem walk (w : World) (s0 : ByteArray) (a0 b0 c0 : Int) (w0 : PlanetOk s0 a0 b0 c0) (s1 : ByteArray) (a1 b1 c1 : Int) (w1 : PlanetOk s1 a1 b1 c1) (henv : Env w) :
    Calls Try.prog 6 #[.agg #[.string s0, .int .i64 a0, .int .i64 b0, .int .i64 c0], .agg #[.string s1, .int .i64 a1, .int .i64 b1, .int .i64 c1]] w fun e w' => e = .returned (.bool true) ∧ Below w.heap.size w w' := by
  have hm0 : s0.size ≤ maxLen := w0.1
  have fa0 := w0.2.1
  have fb0 := w0.2.2.1
  have fc0 := w0.2.2.2
  have hm1 : s1.size ≤ maxLen := w1.1
  have fa1 := w1.2.1
  have fb1 := w1.2.2.1
  have fc1 := w1.2.2.2
  have F1 := Lib.hid (fun w => specSyn_any s0 a0 b0 c0 s1 a1 b1 c1  w)
  have F2 := Lib.hid (fun w => implSyn_any s0 a0 b0 c0 s1 a1 b1 c1 hm0 hm1 w)
  obtain ⟨r0x, r1x, hz⟩ := synV_form s0 a0 b0 c0 s1 a1 b1 c1
  rw [hz] at F1 F2
  clear hz
  clear w0 fa0 fb0 fc0 w1 fa1 fb1 fc1
  have KP := Lib.hid (fun (W W' : World) (h : W.cell? ⟨w.heap.size, 0, none⟩ = some (.string s0) ∧ W.cell? ⟨w.heap.size, 1, none⟩ = some (.int .i64 a0) ∧ W.cell? ⟨w.heap.size, 2, none⟩ = some (.int .i64 b0) ∧ W.cell? ⟨w.heap.size, 3, none⟩ = some (.int .i64 c0) ∧ W.cell? ⟨w.heap.size + 1, 0, none⟩ = some (.string s1) ∧ W.cell? ⟨w.heap.size + 1, 1, none⟩ = some (.int .i64 a1) ∧ W.cell? ⟨w.heap.size + 1, 2, none⟩ = some (.int .i64 b1) ∧ W.cell? ⟨w.heap.size + 1, 3, none⟩ = some (.int .i64 c1) ∧ Below w.heap.size w W) (hb : Below W.heap.size W W') => (show W'.cell? ⟨w.heap.size, 0, none⟩ = some (.string s0) ∧ W'.cell? ⟨w.heap.size, 1, none⟩ = some (.int .i64 a0) ∧ W'.cell? ⟨w.heap.size, 2, none⟩ = some (.int .i64 b0) ∧ W'.cell? ⟨w.heap.size, 3, none⟩ = some (.int .i64 c0) ∧ W'.cell? ⟨w.heap.size + 1, 0, none⟩ = some (.string s1) ∧ W'.cell? ⟨w.heap.size + 1, 1, none⟩ = some (.int .i64 a1) ∧ W'.cell? ⟨w.heap.size + 1, 2, none⟩ = some (.int .i64 b1) ∧ W'.cell? ⟨w.heap.size + 1, 3, none⟩ = some (.int .i64 c1) ∧ Below w.heap.size w W' from by
    obtain ⟨h0, h1, h2, h3, h4, h5, h6, h7, h8⟩ := h
    obtain ⟨k, _⟩ := bcell hb
    exact ⟨(k _ _ (World.block_lt_of_cell? W ⟨_, _, none⟩ h0)).trans h0, (k _ _ (World.block_lt_of_cell? W ⟨_, _, none⟩ h1)).trans h1, (k _ _ (World.block_lt_of_cell? W ⟨_, _, none⟩ h2)).trans h2, (k _ _ (World.block_lt_of_cell? W ⟨_, _, none⟩ h3)).trans h3, (k _ _ (World.block_lt_of_cell? W ⟨_, _, none⟩ h4)).trans h4, (k _ _ (World.block_lt_of_cell? W ⟨_, _, none⟩ h5)).trans h5, (k _ _ (World.block_lt_of_cell? W ⟨_, _, none⟩ h6)).trans h6, (k _ _ (World.block_lt_of_cell? W ⟨_, _, none⟩ h7)).trans h7, h8.trans (hb.mono h8.size)⟩))
  obtain ⟨W0, hW0⟩ : ∃ W0, W0 = ((w.alloc (.cells #[.string s0, .int .i64 a0, .int .i64 b0, .int .i64 c0] 23)).alloc (.cells #[.string s1, .int .i64 a1, .int .i64 b1, .int .i64 c1] 23)) := ⟨_, rfl⟩
  have K0 : Hid (W0.cell? ⟨w.heap.size, 0, none⟩ = some (.string s0) ∧ W0.cell? ⟨w.heap.size, 1, none⟩ = some (.int .i64 a0) ∧ W0.cell? ⟨w.heap.size, 2, none⟩ = some (.int .i64 b0) ∧ W0.cell? ⟨w.heap.size, 3, none⟩ = some (.int .i64 c0) ∧ W0.cell? ⟨w.heap.size + 1, 0, none⟩ = some (.string s1) ∧ W0.cell? ⟨w.heap.size + 1, 1, none⟩ = some (.int .i64 a1) ∧ W0.cell? ⟨w.heap.size + 1, 2, none⟩ = some (.int .i64 b1) ∧ W0.cell? ⟨w.heap.size + 1, 3, none⟩ = some (.int .i64 c1) ∧ Below w.heap.size w W0) := Lib.hid (by rw [hW0]; exact ⟨by simp, by simp, by simp, by simp, by simp, by simp, by simp, by simp, by repeat (first | exact Below.refl _ _ | refine Below.alloc ?_ (by first | (simp; done) | (simp; omega)) _)⟩)
  have HW := Lib.hid hW0
  clear hW0
  have T0 := Lib.hid (fun w => toPlanet_any s0 a0 b0 c0 w)
  have T1 := Lib.hid (fun w => toPlanet_any s1 a1 b1 c1 w)
  have Z0 := Lib.hid (fun w => szPlanet_any s0 a0 b0 c0 1048576 (by omega) (by omega) hm0 w)
  have lz0 := szN_le s0 1048576 (by omega)
  by_cases hz0 : szN s0 1048576 < 0
  · generalize szN s0 1048576 = z0 at *
    go_enter Try.func6, Try.ntmps6
    obtain ⟨k0, k1, k2, k3, k4, k5, k6, k7, k8⟩ := K0.out
    go_wp2_with fail
    rw [← HW.out]
    clear HW
    refine (Z0.out _).mono ?_
    rintro e w0z ⟨rfl, hb⟩
    have Kz0 := Lib.hid (KP.out _ _ K0.out hb)
    clear hb k0 k1 k2 k3 k4 k5 k6 k7 k8
    obtain ⟨k0, k1, k2, k3, k4, k5, k6, k7, k8⟩ := Kz0.out
    go_wp2_with fail
    go_ret
    exact ⟨rfl, Kz0.out.2.2.2.2.2.2.2.2⟩
  · generalize szN s0 1048576 = z0 at *
    have Z1 := Lib.hid (fun w => szPlanet_any s1 a1 b1 c1 z0 (by omega) (by omega) hm1 w)
    have lz1 := szN_le s1 z0 (by omega)
    by_cases hz1 : szN s1 z0 < 0
    · generalize szN s1 z0 = z1 at *
      go_enter Try.func6, Try.ntmps6
      obtain ⟨k0, k1, k2, k3, k4, k5, k6, k7, k8⟩ := K0.out
      go_wp2_with fail
      rw [← HW.out]
      clear HW
      refine (Z0.out _).mono ?_
      rintro e w0z ⟨rfl, hb⟩
      have Kz0 := Lib.hid (KP.out _ _ K0.out hb)
      clear hb k0 k1 k2 k3 k4 k5 k6 k7 k8
      obtain ⟨k0, k1, k2, k3, k4, k5, k6, k7, k8⟩ := Kz0.out
      go_wp2_with fail
      refine (Z1.out _).mono ?_
      rintro e w1z ⟨rfl, hb⟩
      have Kz1 := Lib.hid (KP.out _ _ Kz0.out hb)
      clear hb k0 k1 k2 k3 k4 k5 k6 k7 k8
      obtain ⟨k0, k1, k2, k3, k4, k5, k6, k7, k8⟩ := Kz1.out
      go_wp2_with fail
      go_ret
      exact ⟨rfl, Kz1.out.2.2.2.2.2.2.2.2⟩
    · generalize szN s1 z0 = z1 at *
      go_enter Try.func6, Try.ntmps6
      obtain ⟨k0, k1, k2, k3, k4, k5, k6, k7, k8⟩ := K0.out
      go_wp2_with fail
      rw [← HW.out]
      clear HW
      refine (Z0.out _).mono ?_
      rintro e w0z ⟨rfl, hb⟩
      have Kz0 := Lib.hid (KP.out _ _ K0.out hb)
      clear hb k0 k1 k2 k3 k4 k5 k6 k7 k8
      obtain ⟨k0, k1, k2, k3, k4, k5, k6, k7, k8⟩ := Kz0.out
      go_wp2_with fail
      refine (Z1.out _).mono ?_
      rintro e w1z ⟨rfl, hb⟩
      have Kz1 := Lib.hid (KP.out _ _ Kz0.out hb)
      clear hb k0 k1 k2 k3 k4 k5 k6 k7 k8
      obtain ⟨k0, k1, k2, k3, k4, k5, k6, k7, k8⟩ := Kz1.out
      go_wp2_with fail
      go_region_held3 (fun w' => w'.cell? ⟨w.heap.size, 0, none⟩ = some (.string s0) ∧ w'.cell? ⟨w.heap.size, 1, none⟩ = some (.int .i64 a0) ∧ w'.cell? ⟨w.heap.size, 2, none⟩ = some (.int .i64 b0) ∧ w'.cell? ⟨w.heap.size, 3, none⟩ = some (.int .i64 c0) ∧ w'.cell? ⟨w.heap.size + 1, 0, none⟩ = some (.string s1) ∧ w'.cell? ⟨w.heap.size + 1, 1, none⟩ = some (.int .i64 a1) ∧ w'.cell? ⟨w.heap.size + 1, 2, none⟩ = some (.int .i64 b1) ∧ w'.cell? ⟨w.heap.size + 1, 3, none⟩ = some (.int .i64 c1) ∧ Below w.heap.size w w') (first | (exact KP.out _ _ Kz1.out (bel_drew (Below.refl _ _))) | (exact KP.out _ _ Kz1.out yu3) | (exact KP.out _ _ Kz1.out yu2) | (exact KP.out _ _ Kz1.out yu1) | go_keep) ((first
        | (go_at_call 9; (with_reducible refine (T0.out _).mono ?_); rintro e u1 ⟨rfl, hu1⟩; have yu1 := undrewL hu1)
        | (go_at_call 9; (with_reducible refine (T1.out _).mono ?_); rintro e u2 ⟨rfl, hu2⟩; have yu2 := yu1.trans (hu2.mono yu1.size))
        | (go_at_call 19; (with_reducible refine (F1.out _).mono ?_); rintro e u3 ⟨rfl, hu3⟩; have yu3 := yu2.trans (hu3.mono yu2.size))))
      rename_i held
      have R1 := Lib.hid held
      clear held k0 k1 k2 k3 k4 k5 k6 k7 k8
      obtain ⟨k0, k1, k2, k3, k4, k5, k6, k7, k8⟩ := R1.out
      go_wp2_with fail
      go_region_held3 (fun w' => w'.cell? ⟨w.heap.size, 0, none⟩ = some (.string s0) ∧ w'.cell? ⟨w.heap.size, 1, none⟩ = some (.int .i64 a0) ∧ w'.cell? ⟨w.heap.size, 2, none⟩ = some (.int .i64 b0) ∧ w'.cell? ⟨w.heap.size, 3, none⟩ = some (.int .i64 c0) ∧ w'.cell? ⟨w.heap.size + 1, 0, none⟩ = some (.string s1) ∧ w'.cell? ⟨w.heap.size + 1, 1, none⟩ = some (.int .i64 a1) ∧ w'.cell? ⟨w.heap.size + 1, 2, none⟩ = some (.int .i64 b1) ∧ w'.cell? ⟨w.heap.size + 1, 3, none⟩ = some (.int .i64 c1) ∧ Below w.heap.size w w') (first | (exact KP.out _ _ R1.out (bel_drew (Below.refl _ _))) | (exact KP.out _ _ R1.out yv3) | (exact KP.out _ _ R1.out yv2) | (exact KP.out _ _ R1.out yv1) | go_keep) ((first
        | (go_at_call 9; (with_reducible refine (T0.out _).mono ?_); rintro e v1 ⟨rfl, hv1⟩; have yv1 := undrewL hv1)
        | (go_at_call 9; (with_reducible refine (T1.out _).mono ?_); rintro e v2 ⟨rfl, hv2⟩; have yv2 := yv1.trans (hv2.mono yv1.size))
        | (go_at_call 20; (with_reducible refine (F2.out _).mono ?_); rintro e v3 ⟨rfl, hv3⟩; have yv3 := yv2.trans (hv3.mono yv2.size))))
      rename_i held
      have R2 := Lib.hid held
      clear held k0 k1 k2 k3 k4 k5 k6 k7 k8
      obtain ⟨k0, k1, k2, k3, k4, k5, k6, k7, k8⟩ := R2.out
      go_wp2_with fail
      go_ret
      exact ⟨rfl, R2.out.2.2.2.2.2.2.2.2⟩

set_option maxRecDepth 100000 in
theorem contract (H : Type) (enc : TypeId × Value → H) (W : World) (base : Nat) (args : Array Value) (ds gs : List (DataW H)) (before : List MemPlace)
    (hval : ∀ (j : Nat) t v, Try.f6.params[j]? = some t → args[j]? = some v → Value.okWide Try.prog W .any base t v)
    (hW : DataW.Whole enc Try.prog Try.f6.params.toList Rows.fnExactSynodicPeriodSpec.vars false W args.toList ds gs before) (henv : Env W) :
    Calls Try.prog 6 args W fun e W' => ∃ v, e = .returned v ∧ Rows.fnExactSynodicPeriodSpec.post enc Try.prog Try.f6 false true false false W args v W' := by
  have hW' := hW
  obtain ⟨p, q, hA0, hV, rfl, hfz, hnd⟩ := hW
  have hA : DataW.TrodAll enc Try.prog W 0 (fun _ => true) true Try.f6.params.toList args.toList ds p := hA0
  rw [Try.params6] at hA hval
  obtain ⟨v0, vs0, d0, ds0, p0, q0, hargs0, rfl, rfl, h0, r0⟩ := trodAll_cons hA
  obtain ⟨v1, vs1, d1, ds1, p1, q1, hargs1, rfl, rfl, h1, r1⟩ := trodAll_cons r0
  obtain ⟨rfl, rfl, rfl⟩ := trodAll_nil r1
  obtain rfl : args = #[v0, v1] := by cases args; simp_all
  obtain ⟨rfl, rfl⟩ := trodVars_none hV
  have h0k := h0
  obtain ⟨s0, a0, b0, c0, rfl, w0⟩ := planet_open (hval 0 23 v0 rfl rfl) h0
  have h1k := h1
  obtain ⟨s1, a1, b1, c1, rfl, w1⟩ := planet_open (hval 1 23 v1 rfl rfl) h1
  clear hA0
  have hltp : ∀ x ∈ p0 ++ (p1 ++ []) ++ [], x.block < W.heap.size := fun x hx => hW'.lt x hx
  refine (walk W s0 a0 b0 c0 w0 s1 a1 b1 c1 w1 henv).mono fun e W' ⟨he, hg⟩ => ?_
  subst he
  exact ⟨_, rfl, post_of_below (pa := p0 ++ (p1 ++ [])) (pv := []) hW' (fun _ _ _ => (trodAll_cons_mk (shut_bool Try.underlying4 _) trodAll_mk0)) (fun sp hsp => (trodAll_cons_mk (WideElems.Trod_stays (by kernel_rfl) (by kernel_rfl) (of_decide_eq_true (by kernel_rfl)) h0k (fun x hx => hg.same (hltp x (by simp [hx]))) (fun x hx => hsp x (by simp [hx]))) (trodAll_cons_mk (WideElems.Trod_stays (by kernel_rfl) (by kernel_rfl) (of_decide_eq_true (by kernel_rfl)) h1k (fun x hx => hg.same (hltp x (by simp [hx]))) (fun x hx => hsp x (by simp [hx]))) trodAll_mk0))) (fun _ _ => rfl) rfl
    hg (ok_one (by kernel_rfl) rfl (okWide_bool_mk Try.underlying4 _))⟩

set_option maxRecDepth 100000 in
theorem lifted (os : Os) (started : os.Started) (H : Type) (enc : TypeId × Value → H) :
    ReturnsInHanded {} Try.checked os 6 .any (Rows.fnExactSynodicPeriodSpec.pre6 enc Try.prog Try.f6 Rows.fnExactSynodicPeriodRow.domain false) (Rows.fnExactSynodicPeriodSpec.post enc Try.prog Try.f6 false true false false) := by
  refine returnsInHanded_of_change (C := Try.checked) own started (by kernel_rfl) Try.func6
    (ChangeSpec.witness6 (enc := enc) (C := Try.checked) false ⟨#[], #[.agg #[.string ByteArray.empty, .int .i64 0, .int .i64 0, .int .i64 0], .agg #[.string ByteArray.empty, .int .i64 0, .int .i64 0, .int .i64 0]], []⟩ 8 (by kernel_rfl) (by kernel_rfl) (by kernel_rfl) (by kernel_rfl)) ?_
  intro W base args ds gs before hval hW _ _
  exact contract H enc W base args ds gs before hval hW trivial

theorem over : Rows.fnExactSynodicPeriodRow.holds Try.pinned (OpenSpec.ofChange Rows.fnExactSynodicPeriodSpec) :=
  OpenClaim.holds_of_wide 6 Try.f6 rfl rfl rfl rfl rfl rfl rfl ⟨rfl, rfl, rfl, rfl, rfl⟩ rfl rfl rfl rfl rfl (by kernel_rfl) Try.func6 (by kernel_rfl)
    (of_decide_eq_true (by kernel_rfl)) (by unfold Func.isWrapper; first | (rw [if_pos (by decide +kernel)]; kernel_rfl) | (rw [if_neg (by decide +kernel)]; exact ⟨rfl, rfl⟩))
    (fun os started H enc _ => lifted os started H enc)

theorem proved : Rows.FnExactSynodicPeriodSaid :=
  over
#print axioms proved
end Go.Proofs.Ytglpkioomdkdcaa.fnExactSynodicPeriod
