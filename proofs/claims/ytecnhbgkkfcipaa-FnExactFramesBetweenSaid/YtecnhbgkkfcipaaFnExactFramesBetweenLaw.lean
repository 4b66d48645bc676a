/-
  The law FnExactFramesBetween: for every input the call returns true, and each argument reads afterwards as it read before. No condition.
-/
import Derived.Test.YtecnhbgkkfcipaaRows
import Derived.Test.YtecnhbgkkfcipaaPost0
import Derived.Test.YtecnhbgkkfcipaaTcS
import Derived.WalkKit
import Derived.ProofKit
import Derived.OpenShut
import Derived.ChangeMaps5
import Derived.ChangeSlices
import Derived.Carry
import Derived.Lib.SmallJoins
namespace Go.Proofs.Ytecnhbgkkfcipaa.fnExactFramesBetween
open Go.ChangeShapes Go.WideShapes Go.ChangeAt Go.RowKit Go.ChangeMaps
set_option linter.unusedVariables false

theorem own : ownKnob Try.prog.godebug = none := by kernel_rfl

def Env (_w : World) : Prop := True

set_option maxRecDepth 100000 in
set_option maxHeartbeats 8000000 in
theorem walk (w : World) (a0 : Cd.V) (w0 : a0.ok) (a1 : Cd.V) (w1 : a1.ok) (henv : Env w) :
    Calls Try.prog 9 #[a0.val, a1.val] w fun e w' => e = .returned (.bool true) ∧ Below w.heap.size w w' := by
  obtain ⟨r0_0, r0_1, r0_2, r0_3, r0_4⟩ := a0
  have m0 := w0
  simp only [Cd.V.val]
  have MM0 := Lib.hid m0
  clear w0 m0
  obtain ⟨r1_0, r1_1, r1_2, r1_3, r1_4⟩ := a1
  have m1 := w1
  simp only [Cd.V.val]
  have MM1 := Lib.hid m1
  clear w1 m1
  go_enter Try.func9, Try.ntmps9
  go_wp2_with fail
  have HB0 : Hid (Below w.heap.size w w) := Lib.hid (Below.refl _ _)
  obtain ⟨wb1, hwwb1⟩ : ∃ W, W = w.alloc (Obj.cells #[Value.int .i64 r0_0, .int .i64 r0_1, .int .i64 r0_2, .int .i64 r0_3, .int .i64 r0_4] 23) := ⟨_, rfl⟩
  rw [← hwwb1]
  have hb : Below w.heap.size w wb1 := by rw [hwwb1]; exact (Below.refl _ _).alloc (Nat.le_refl _) _
  have hzwb1 : wb1.heap.size = w.heap.size + 1 := by rw [hwwb1]; simp
  have QNp0 := Lib.hid (Cd.BAt.new w (r0_0) (r0_1) (r0_2) (r0_3) (r0_4) 23)
  rw [← hwwb1] at QNp0
  clear hwwb1
  have hswb1 := hb.size
  have HB1 := Lib.hid (HB0.out.trans (hb.mono HB0.out.size))
  clear hb
  have Qp0_1 := QNp0
  clear QNp0
  have hlp0 := Qp0_1.out.lt
  obtain ⟨qp0_0, qp0_1, qp0_2, qp0_3, qp0_4⟩ := Qp0_1.out
  obtain ⟨wb2, hwwb2⟩ : ∃ W, W = wb1.alloc (Obj.cells #[Value.int .i64 r1_0, .int .i64 r1_1, .int .i64 r1_2, .int .i64 r1_3, .int .i64 r1_4] 23) := ⟨_, rfl⟩
  rw [← hwwb2]
  have hb : Below wb1.heap.size wb1 wb2 := by rw [hwwb2]; exact (Below.refl _ _).alloc (Nat.le_refl _) _
  have hzwb2 : wb2.heap.size = wb1.heap.size + 1 := by rw [hwwb2]; simp
  have QNp1 := Lib.hid (Cd.BAt.new wb1 (r1_0) (r1_1) (r1_2) (r1_3) (r1_4) 23)
  rw [← hwwb2] at QNp1
  clear hwwb2
  rw [hzwb1] at QNp1
  clear qp0_0 qp0_1 qp0_2 qp0_3 qp0_4 hlp0
  have hswb2 := hb.size
  have HB2 := Lib.hid (HB1.out.trans (hb.mono HB1.out.size))
  have Qp0_2 := Lib.hid (Qp0_1.out.below hb)
  clear hb Qp0_1
  obtain ⟨qp0_0, qp0_1, qp0_2, qp0_3, qp0_4⟩ := Qp0_2.out
  have hlp0 := Qp0_2.out.lt
  have Qp1_2 := QNp1
  clear QNp1
  have hlp1 := Qp1_2.out.lt
  obtain ⟨qp1_0, qp1_1, qp1_2, qp1_3, qp1_4⟩ := Qp1_2.out
  have T0 := Lib.hid (fun w => Cd.to_any r0_0 r0_1 r0_2 r0_3 r0_4 w)
  have T1 := Lib.hid (fun w => Cd.to_any r1_0 r1_1 r1_2 r1_3 r1_4 w)
  have F1 := Lib.hid (fun W => Tc.specBetween_any r0_0 r0_1 r0_2 r0_3 r0_4 r1_0 r1_1 r1_2 r1_3 r1_4 MM0.out.2.2.2.2 MM1.out.2.2.2.2 W)
  have F2 := Lib.hid (fun W => Tc.implBetween_any r0_0 r0_1 r0_2 r0_3 r0_4 r1_0 r1_1 r1_2 r1_3 r1_4 MM0.out.2.1 MM1.out.2.1 W)
  obtain ⟨x0, x1, hv⟩ := Tc.fbV_form r0_0 r0_1 r0_2 r0_3 r0_4 r1_0 r1_1 r1_2 r1_3 r1_4
  rw [hv] at F1 F2
  clear hv
  have KB : Hid (wb2.cell? ⟨w.heap.size, 0, none⟩ = some (.int .i64 (r0_0)) ∧ wb2.cell? ⟨w.heap.size, 1, none⟩ = some (.int .i64 (r0_1)) ∧ wb2.cell? ⟨w.heap.size, 2, none⟩ = some (.int .i64 (r0_2)) ∧ wb2.cell? ⟨w.heap.size, 3, none⟩ = some (.int .i64 (r0_3)) ∧ wb2.cell? ⟨w.heap.size, 4, none⟩ = some (.int .i64 (r0_4)) ∧ wb2.cell? ⟨w.heap.size + 1, 0, none⟩ = some (.int .i64 (r1_0)) ∧ wb2.cell? ⟨w.heap.size + 1, 1, none⟩ = some (.int .i64 (r1_1)) ∧ wb2.cell? ⟨w.heap.size + 1, 2, none⟩ = some (.int .i64 (r1_2)) ∧ wb2.cell? ⟨w.heap.size + 1, 3, none⟩ = some (.int .i64 (r1_3)) ∧ wb2.cell? ⟨w.heap.size + 1, 4, none⟩ = some (.int .i64 (r1_4)) ∧ Below wb2.heap.size wb2 wb2) := Lib.hid ⟨qp0_0, qp0_1, qp0_2, qp0_3, qp0_4, qp1_0, qp1_1, qp1_2, qp1_3, qp1_4, Below.refl _ _⟩
  go_region_held3 (fun W => W.cell? ⟨w.heap.size, 0, none⟩ = some (.int .i64 (r0_0)) ∧ W.cell? ⟨w.heap.size, 1, none⟩ = some (.int .i64 (r0_1)) ∧ W.cell? ⟨w.heap.size, 2, none⟩ = some (.int .i64 (r0_2)) ∧ W.cell? ⟨w.heap.size, 3, none⟩ = some (.int .i64 (r0_3)) ∧ W.cell? ⟨w.heap.size, 4, none⟩ = some (.int .i64 (r0_4)) ∧ W.cell? ⟨w.heap.size + 1, 0, none⟩ = some (.int .i64 (r1_0)) ∧ W.cell? ⟨w.heap.size + 1, 1, none⟩ = some (.int .i64 (r1_1)) ∧ W.cell? ⟨w.heap.size + 1, 2, none⟩ = some (.int .i64 (r1_2)) ∧ W.cell? ⟨w.heap.size + 1, 3, none⟩ = some (.int .i64 (r1_3)) ∧ W.cell? ⟨w.heap.size + 1, 4, none⟩ = some (.int .i64 (r1_4)) ∧ Below wb2.heap.size wb2 W) (first | (exact keepW10 KB.out (drewG wb2)) | (exact keepW10 KB.out y3) | (exact keepW10 KB.out y2) | (exact keepW10 KB.out y1) | go_keep) ((first
    | (go_at_call 28; (with_reducible refine (F1.out _).mono ?_); rintro e ux3 ⟨rfl, hu3⟩; have y3 := y2.trans (hu3.mono y2.size))
    | (go_at_call 15; (with_reducible refine (T1.out _).mono ?_); rintro e ux2 ⟨rfl, hu2⟩; have y2 := y1.trans (hu2.mono y1.size))
    | (go_at_call 15; (with_reducible refine (T0.out _).mono ?_); rintro e ux1 ⟨rfl, hu1⟩; have y1 := undrewG hu1)))
  rename_i held
  have hb := y3
  clear held KB hu1 hu2 hu3 y1 y2 y3
  obtain ⟨w3, hew3⟩ : ∃ W, W = ux3 := ⟨_, rfl⟩
  rw [← hew3] at hb ⊢
  clear hew3
  clear qp0_0 qp0_1 qp0_2 qp0_3 qp0_4 qp1_0 qp1_1 qp1_2 qp1_3 qp1_4 hlp0 hlp1
  have hsw3 := hb.size
  have HB3 := Lib.hid (HB2.out.trans (hb.mono HB2.out.size))
  have Qp0_3 := Lib.hid (Qp0_2.out.below hb)
  have Qp1_3 := Lib.hid (Qp1_2.out.below hb)
  clear hb Qp0_2 Qp1_2
  obtain ⟨qp0_0, qp0_1, qp0_2, qp0_3, qp0_4⟩ := Qp0_3.out
  have hlp0 := Qp0_3.out.lt
  obtain ⟨qp1_0, qp1_1, qp1_2, qp1_3, qp1_4⟩ := Qp1_3.out
  have hlp1 := Qp1_3.out.lt
  go_wp2_with fail
  have KB : Hid (w3.cell? ⟨w.heap.size, 0, none⟩ = some (.int .i64 (r0_0)) ∧ w3.cell? ⟨w.heap.size, 1, none⟩ = some (.int .i64 (r0_1)) ∧ w3.cell? ⟨w.heap.size, 2, none⟩ = some (.int .i64 (r0_2)) ∧ w3.cell? ⟨w.heap.size, 3, none⟩ = some (.int .i64 (r0_3)) ∧ w3.cell? ⟨w.heap.size, 4, none⟩ = some (.int .i64 (r0_4)) ∧ w3.cell? ⟨w.heap.size + 1, 0, none⟩ = some (.int .i64 (r1_0)) ∧ w3.cell? ⟨w.heap.size + 1, 1, none⟩ = some (.int .i64 (r1_1)) ∧ w3.cell? ⟨w.heap.size + 1, 2, none⟩ = some (.int .i64 (r1_2)) ∧ w3.cell? ⟨w.heap.size + 1, 3, none⟩ = some (.int .i64 (r1_3)) ∧ w3.cell? ⟨w.heap.size + 1, 4, none⟩ = some (.int .i64 (r1_4)) ∧ Below w3.heap.size w3 w3) := Lib.hid ⟨qp0_0, qp0_1, qp0_2, qp0_3, qp0_4, qp1_0, qp1_1, qp1_2, qp1_3, qp1_4, Below.refl _ _⟩
  go_region_held3 (fun W => W.cell? ⟨w.heap.size, 0, none⟩ = some (.int .i64 (r0_0)) ∧ W.cell? ⟨w.heap.size, 1, none⟩ = some (.int .i64 (r0_1)) ∧ W.cell? ⟨w.heap.size, 2, none⟩ = some (.int .i64 (r0_2)) ∧ W.cell? ⟨w.heap.size, 3, none⟩ = some (.int .i64 (r0_3)) ∧ W.cell? ⟨w.heap.size, 4, none⟩ = some (.int .i64 (r0_4)) ∧ W.cell? ⟨w.heap.size + 1, 0, none⟩ = some (.int .i64 (r1_0)) ∧ W.cell? ⟨w.heap.size + 1, 1, none⟩ = some (.int .i64 (r1_1)) ∧ W.cell? ⟨w.heap.size + 1, 2, none⟩ = some (.int .i64 (r1_2)) ∧ W.cell? ⟨w.heap.size + 1, 3, none⟩ = some (.int .i64 (r1_3)) ∧ W.cell? ⟨w.heap.size + 1, 4, none⟩ = some (.int .i64 (r1_4)) ∧ Below w3.heap.size w3 W) (first | (exact keepW10 KB.out (drewG w3)) | (exact keepW10 KB.out y3) | (exact keepW10 KB.out y2) | (exact keepW10 KB.out y1) | go_keep) ((first
    | (go_at_call 29; (with_reducible refine (F2.out _).mono ?_); rintro e ux3 ⟨rfl, hu3⟩; have y3 := y2.trans (hu3.mono y2.size))
    | (go_at_call 15; (with_reducible refine (T1.out _).mono ?_); rintro e ux2 ⟨rfl, hu2⟩; have y2 := y1.trans (hu2.mono y1.size))
    | (go_at_call 15; (with_reducible refine (T0.out _).mono ?_); rintro e ux1 ⟨rfl, hu1⟩; have y1 := undrewG hu1)))
  rename_i held
  have hb := y3
  clear held KB hu1 hu2 hu3 y1 y2 y3
  obtain ⟨w4, hew4⟩ : ∃ W, W = ux3 := ⟨_, rfl⟩
  rw [← hew4] at hb ⊢
  clear hew4
  clear qp0_0 qp0_1 qp0_2 qp0_3 qp0_4 qp1_0 qp1_1 qp1_2 qp1_3 qp1_4 hlp0 hlp1
  have hsw4 := hb.size
  have HB4 := Lib.hid (HB3.out.trans (hb.mono HB3.out.size))
  have Qp0_4 := Lib.hid (Qp0_3.out.below hb)
  have Qp1_4 := Lib.hid (Qp1_3.out.below hb)
  clear hb Qp0_3 Qp1_3
  obtain ⟨qp0_0, qp0_1, qp0_2, qp0_3, qp0_4⟩ := Qp0_4.out
  have hlp0 := Qp0_4.out.lt
  obtain ⟨qp1_0, qp1_1, qp1_2, qp1_3, qp1_4⟩ := Qp1_4.out
  have hlp1 := Qp1_4.out.lt
  go_wp2_with fail
  go_ret
  exact ⟨rfl, HB4.out⟩

set_option maxRecDepth 100000 in
set_option maxHeartbeats 2000000 in
theorem contract (H : Type) (enc : TypeId × Value → H) (W : World) (base : Nat) (args : Array Value) (ds gs : List (DataW H)) (before : List MemPlace)
    (hval : ∀ (j : Nat) t v, Try.f9.params[j]? = some t → args[j]? = some v → Value.okWide Try.prog W .any base t v)
    (hW : DataW.Whole enc Try.prog Try.f9.params.toList Rows.fnExactFramesBetweenSpec.vars false W args.toList ds gs before) (henv : Env W) :
    Calls Try.prog 9 args W fun e W' => ∃ v, e = .returned v ∧ Rows.fnExactFramesBetweenSpec.post enc Try.prog Try.f9 false true false false W args v W' := by
  have hW' := hW
  obtain ⟨p, q, hA0, hV, rfl, hfz, hnd⟩ := hW
  have hA : DataW.TrodAll enc Try.prog W 0 (fun _ => true) true Try.f9.params.toList args.toList ds p := hA0
  rw [Try.params9] at hA hval
  obtain ⟨v0, vs0, d0, ds0, p0, q0, hargs0, rfl, rfl, h0, r0⟩ := trodAll_cons hA
  obtain ⟨v1, vs1, d1, ds1, p1, q1, hargs1, rfl, rfl, h1, r1⟩ := trodAll_cons r0
  obtain ⟨rfl, rfl, rfl⟩ := trodAll_nil r1
  obtain rfl : args = #[v0, v1] := by cases args; simp_all
  obtain ⟨rfl, rfl⟩ := trodVars_none hV
  have h0k := h0
  obtain ⟨a0, rfl, w0⟩ := Cd.one_open (hval 0 23 v0 rfl rfl) h0
  have h1k := h1
  obtain ⟨a1, rfl, w1⟩ := Cd.one_open (hval 1 23 v1 rfl rfl) h1
  clear hA0
  have hltp : ∀ x ∈ p0 ++ (p1 ++ []) ++ [], x.block < W.heap.size := fun x hx => hW'.lt x hx
  refine (walk W a0 w0 a1 w1 henv).mono fun e W' ⟨he, hg⟩ => ?_
  subst he
  exact ⟨_, rfl, post_of_below (pa := p0 ++ (p1 ++ [])) (pv := []) hW' (fun _ _ _ => (trodAll_cons_mk (shut_bool Try.underlying4 _) trodAll_mk0)) (fun sp hsp => (trodAll_cons_mk (WideElems.Trod_stays (by kernel_rfl) (by kernel_rfl) (of_decide_eq_true (by kernel_rfl)) h0k (fun x hx => hg.same (hltp x (by simp [hx]))) (fun x hx => hsp x (by simp [hx]))) (trodAll_cons_mk (WideElems.Trod_stays (by kernel_rfl) (by kernel_rfl) (of_decide_eq_true (by kernel_rfl)) h1k (fun x hx => hg.same (hltp x (by simp [hx]))) (fun x hx => hsp x (by simp [hx]))) trodAll_mk0))) (fun _ _ => rfl) rfl
    hg (ok_one (by kernel_rfl) rfl (okWide_bool_mk Try.underlying4 _))⟩

set_option maxRecDepth 100000 in
theorem lifted (os : Os) (started : os.Started) (H : Type) (enc : TypeId × Value → H) :
    ReturnsInHanded {} Try.checked os 9 .any (Rows.fnExactFramesBetweenSpec.pre6 enc Try.prog Try.f9 Rows.fnExactFramesBetweenRow.domain false) (Rows.fnExactFramesBetweenSpec.post enc Try.prog Try.f9 false true false false) := by
  refine returnsInHanded_of_change (C := Try.checked) own started (by kernel_rfl) Try.func9
    (ChangeSpec.witness6 (enc := enc) (C := Try.checked) false ⟨#[], #[.agg #[.int .i64 0, .int .i64 0, .int .i64 0, .int .i64 0, .int .i64 0], .agg #[.int .i64 0, .int .i64 0, .int .i64 0, .int .i64 0, .int .i64 0]], []⟩ 8 (by kernel_rfl) (by kernel_rfl) (by kernel_rfl) (by kernel_rfl)) ?_
  intro W base args ds gs before hval hW _ _
  exact contract H enc W base args ds gs before hval hW trivial

theorem over : Rows.fnExactFramesBetweenRow.holds Try.pinned (OpenSpec.ofChange Rows.fnExactFramesBetweenSpec) :=
  OpenClaim.holds_of_wide 9 Try.f9 rfl rfl rfl rfl rfl rfl rfl ⟨rfl, rfl, rfl, rfl, rfl⟩ rfl rfl rfl rfl rfl (by kernel_rfl) Try.func9 (by kernel_rfl)
    (of_decide_eq_true (by kernel_rfl)) (by unfold Func.isWrapper; first | (rw [if_pos (by decide +kernel)]; kernel_rfl) | (rw [if_neg (by decide +kernel)]; exact ⟨rfl, rfl⟩))
    (fun os started H enc _ => lifted os started H enc)

theorem proved : Rows.FnExactFramesBetweenSaid :=
  over
#print axioms proved
end Go.Proofs.Ytecnhbgkkfcipaa.fnExactFramesBetween
