/-
  The law FnExactCulminationAltitude: for every input the call returns true, and each argument reads afterwards as it read before. No condition.
-/
import Derived.Test.YtfjhlapcopjfiaaRows
import Derived.Test.YtfjhlapcopjfiaaPost0
import Derived.Test.YtfjhlapcopjfiaaSite1
import Derived.WalkKit
import Derived.ProofKit
import Derived.OpenShut
import Derived.ChangeMaps5
import Derived.ChangeSlices
import Derived.Carry
import Derived.Lib.SmallJoins
namespace Go.Proofs.Ytfjhlapcopjfiaa.fnExactCulminationAltitude
open Go.ChangeShapes Go.WideShapes Go.ChangeAt Go.RowKit Go.ChangeMaps
set_option linter.unusedVariables false

theorem own : ownKnob Try.prog.godebug = none := by kernel_rfl

def Env (_w : World) : Prop := True

set_option maxRecDepth 100000 in
set_option maxHeartbeats 8000000 in
theorem walk (w : World) (s0 : ByteArray) (a0 b0 : Int) (w0 : SiteOk s0 a0 b0) (a1 : Int) (w1 : (Lit.int .i64 a1).wf = true) (henv : Env w) :
    Calls Try.prog 7 #[.agg #[.string s0, .int .i64 a0, .int .i64 b0], .int .i64 a1] w fun e w' => e = .returned (.bool true) ∧ Below w.heap.size w w' := by
  have hm0 : s0.size ≤ maxLen := w0.1
  have fa0 := w0.2.1
  have fb0 := w0.2.2
  have fa1 : fits a1 := wf_fits w1
  have F1 := Lib.hid (fun w => specCul_any s0 a0 b0 a1  w)
  have F2 := Lib.hid (fun w => implCul_any s0 a0 b0 a1 hm0 w)
  obtain ⟨r0x, r1x, hz⟩ := culV_form s0 a0 b0 a1
  rw [hz] at F1 F2
  clear hz
  clear w0 fa0 fb0 w1 fa1
  have Z0 := Lib.hid (fun w => szSite_any s0 a0 b0 1048576 (by omega) (by omega) hm0 w)
  have lz0 := szN_le s0 1048576 (by omega)
  by_cases hz0 : szN s0 1048576 < 0
  · generalize szN s0 1048576 = z0 at *
    go_enter Try.func7, Try.ntmps7
    go_wp2_with fail
    refine (Z0.out _).mono ?_
    rintro e w1w ⟨rfl, hb⟩
    have hsw1w := hb.size
    try simp at hsw1w
    obtain ⟨hcw1w, hfw1w⟩ := bcell hb
    have HBw1w : Hid (Below w.heap.size w w1w) := by
      apply Lib.hid
      refine Below.trans ?_ (hb.mono ?_)
      · repeat (first | exact Below.refl _ _ | refine Below.setCell ?_ (by first | (simp; done) | omega | (simp; omega)) _ | refine Below.alloc ?_ (by first | (simp; done) | omega | (simp; omega)) _)
      · first | (simp; done) | omega | (simp; omega)
    have hzw1w : w.heap.size < w1w.heap.size := by have := hb.size; (try simp at this); omega
    clear hb
    go_wp2_with fail
    go_ret
    refine ⟨rfl, ?_⟩
    repeat (first | exact Below.refl _ _ | exact HBw1w.out | refine Below.setCell ?_ (by first | (simp; done) | omega | (simp; omega)) _ | refine Below.alloc ?_ (by first | (simp; done) | omega | (simp; omega)) _ | refine bel_drew ?_)
  · generalize szN s0 1048576 = z0 at *
    go_enter Try.func7, Try.ntmps7
    go_wp2_with fail
    refine (Z0.out _).mono ?_
    rintro e w1w ⟨rfl, hb⟩
    have hsw1w := hb.size
    try simp at hsw1w
    obtain ⟨hcw1w, hfw1w⟩ := bcell hb
    have HBw1w : Hid (Below w.heap.size w w1w) := by
      apply Lib.hid
      refine Below.trans ?_ (hb.mono ?_)
      · repeat (first | exact Below.refl _ _ | refine Below.setCell ?_ (by first | (simp; done) | omega | (simp; omega)) _ | refine Below.alloc ?_ (by first | (simp; done) | omega | (simp; omega)) _)
      · first | (simp; done) | omega | (simp; omega)
    have hzw1w : w.heap.size < w1w.heap.size := by have := hb.size; (try simp at this); omega
    clear hb
    go_wp2_with fail
    refine (toSite_any s0 a0 b0 _).mono ?_
    rintro e w2w ⟨rfl, hb⟩
    have hsw2w := hb.size
    try simp at hsw2w
    obtain ⟨hcw2w, hfw2w⟩ := bcell hb
    have HBw2w : Hid (Below w.heap.size w w2w) := by
      apply Lib.hid
      refine Below.trans ?_ (hb.mono ?_)
      · repeat (first | exact Below.refl _ _ | exact HBw1w.out | refine Below.setCell ?_ (by first | (simp; done) | omega | (simp; omega)) _ | refine Below.alloc ?_ (by first | (simp; done) | omega | (simp; omega)) _)
      · first | (simp; done) | omega | (simp; omega)
    have hzw2w : w.heap.size < w2w.heap.size := by have := hb.size; (try simp at this); omega
    clear hb
    first | (have gsw2ww1w : w1w.heap.size < w2w.heap.size := by omega) | skip
    go_wp2_with fail
    refine (F1.out _).mono ?_
    rintro e w3w ⟨rfl, hb⟩
    have hsw3w := hb.size
    try simp at hsw3w
    obtain ⟨hcw3w, hfw3w⟩ := bcell hb
    have HBw3w : Hid (Below w.heap.size w w3w) := by
      apply Lib.hid
      refine Below.trans ?_ (hb.mono ?_)
      · repeat (first | exact Below.refl _ _ | exact HBw2w.out | refine Below.setCell ?_ (by first | (simp; done) | omega | (simp; omega)) _ | refine Below.alloc ?_ (by first | (simp; done) | omega | (simp; omega)) _)
      · first | (simp; done) | omega | (simp; omega)
    have hzw3w : w.heap.size < w3w.heap.size := by have := hb.size; (try simp at this); omega
    clear hb
    first | (have gsw3ww1w : w1w.heap.size < w3w.heap.size := by omega) | skip
    first | (have gsw3ww2w : w2w.heap.size < w3w.heap.size := by omega) | skip
    go_wp2_with fail
    refine (toSite_any s0 a0 b0 _).mono ?_
    rintro e w4w ⟨rfl, hb⟩
    have hsw4w := hb.size
    try simp at hsw4w
    obtain ⟨hcw4w, hfw4w⟩ := bcell hb
    have HBw4w : Hid (Below w.heap.size w w4w) := by
      apply Lib.hid
      refine Below.trans ?_ (hb.mono ?_)
      · repeat (first | exact Below.refl _ _ | exact HBw3w.out | refine Below.setCell ?_ (by first | (simp; done) | omega | (simp; omega)) _ | refine Below.alloc ?_ (by first | (simp; done) | omega | (simp; omega)) _)
      · first | (simp; done) | omega | (simp; omega)
    have hzw4w : w.heap.size < w4w.heap.size := by have := hb.size; (try simp at this); omega
    clear hb
    first | (have gsw4ww1w : w1w.heap.size < w4w.heap.size := by omega) | skip
    first | (have gsw4ww2w : w2w.heap.size < w4w.heap.size := by omega) | skip
    first | (have gsw4ww3w : w3w.heap.size < w4w.heap.size := by omega) | skip
    go_wp2_with fail
    refine (F2.out _).mono ?_
    rintro e w5w ⟨rfl, hb⟩
    have hsw5w := hb.size
    try simp at hsw5w
    obtain ⟨hcw5w, hfw5w⟩ := bcell hb
    have HBw5w : Hid (Below w.heap.size w w5w) := by
      apply Lib.hid
      refine Below.trans ?_ (hb.mono ?_)
      · repeat (first | exact Below.refl _ _ | exact HBw4w.out | refine Below.setCell ?_ (by first | (simp; done) | omega | (simp; omega)) _ | refine Below.alloc ?_ (by first | (simp; done) | omega | (simp; omega)) _)
      · first | (simp; done) | omega | (simp; omega)
    have hzw5w : w.heap.size < w5w.heap.size := by have := hb.size; (try simp at this); omega
    clear hb
    first | (have gsw5ww1w : w1w.heap.size < w5w.heap.size := by omega) | skip
    first | (have gsw5ww2w : w2w.heap.size < w5w.heap.size := by omega) | skip
    first | (have gsw5ww3w : w3w.heap.size < w5w.heap.size := by omega) | skip
    first | (have gsw5ww4w : w4w.heap.size < w5w.heap.size := by omega) | skip
    go_wp2_with fail
    go_ret
    refine ⟨rfl, ?_⟩
    repeat (first | exact Below.refl _ _ | exact HBw5w.out | refine Below.setCell ?_ (by first | (simp; done) | omega | (simp; omega)) _ | refine Below.alloc ?_ (by first | (simp; done) | omega | (simp; omega)) _ | refine bel_drew ?_)

set_option maxRecDepth 100000 in
set_option maxHeartbeats 2000000 in
theorem contract (H : Type) (enc : TypeId × Value → H) (W : World) (base : Nat) (args : Array Value) (ds gs : List (DataW H)) (before : List MemPlace)
    (hval : ∀ (j : Nat) t v, Try.f7.params[j]? = some t → args[j]? = some v → Value.okWide Try.prog W .any base t v)
    (hW : DataW.Whole enc Try.prog Try.f7.params.toList Rows.fnExactCulminationAltitudeSpec.vars false W args.toList ds gs before) (henv : Env W) :
    Calls Try.prog 7 args W fun e W' => ∃ v, e = .returned v ∧ Rows.fnExactCulminationAltitudeSpec.post enc Try.prog Try.f7 false true false false W args v W' := by
  have hW' := hW
  obtain ⟨p, q, hA0, hV, rfl, hfz, hnd⟩ := hW
  have hA : DataW.TrodAll enc Try.prog W 0 (fun _ => true) true Try.f7.params.toList args.toList ds p := hA0
  rw [Try.params7] at hA hval
  obtain ⟨v0, vs0, d0, ds0, p0, q0, hargs0, rfl, rfl, h0, r0⟩ := trodAll_cons hA
  obtain ⟨v1, vs1, d1, ds1, p1, q1, hargs1, rfl, rfl, h1, r1⟩ := trodAll_cons r0
  obtain ⟨rfl, rfl, rfl⟩ := trodAll_nil r1
  obtain rfl : args = #[v0, v1] := by cases args; simp_all
  obtain ⟨rfl, rfl⟩ := trodVars_none hV
  have h0k := h0
  obtain ⟨s0, a0, b0, rfl, w0⟩ := site_open (hval 0 44 v0 rfl rfl) h0
  obtain ⟨a1, rfl, rfl, rfl, w1⟩ := open_int Try.underlying2 (hval 1 2 v1 rfl rfl) h1
  clear hA0
  have hltp : ∀ x ∈ p0 ++ ([] ++ []) ++ [], x.block < W.heap.size := fun x hx => hW'.lt x hx
  refine (walk W s0 a0 b0 w0 a1 w1 henv).mono fun e W' ⟨he, hg⟩ => ?_
  subst he
  exact ⟨_, rfl, post_of_below (pa := p0 ++ ([] ++ [])) (pv := []) hW' (fun _ _ _ => (trodAll_cons_mk (shut_bool Try.underlying4 _) trodAll_mk0)) (fun sp hsp => (trodAll_cons_mk (WideElems.Trod_stays (by kernel_rfl) (by kernel_rfl) (of_decide_eq_true (by kernel_rfl)) h0k (fun x hx => hg.same (hltp x (by simp [hx]))) (fun x hx => hsp x (by simp [hx]))) (trodAll_cons_mk (shut_int Try.underlying2 w1) trodAll_mk0))) (fun _ _ => rfl) rfl
    hg (ok_one (by kernel_rfl) rfl (okWide_bool_mk Try.underlying4 _))⟩

set_option maxRecDepth 100000 in
theorem lifted (os : Os) (started : os.Started) (H : Type) (enc : TypeId × Value → H) :
    ReturnsInHanded {} Try.checked os 7 .any (Rows.fnExactCulminationAltitudeSpec.pre6 enc Try.prog Try.f7 Rows.fnExactCulminationAltitudeRow.domain false) (Rows.fnExactCulminationAltitudeSpec.post enc Try.prog Try.f7 false true false false) := by
  refine returnsInHanded_of_change (C := Try.checked) own started (by kernel_rfl) Try.func7
    (ChangeSpec.witness6 (enc := enc) (C := Try.checked) false ⟨#[], #[.agg #[.string ByteArray.empty, .int .i64 0, .int .i64 0], .int .i64 0], []⟩ 8 (by kernel_rfl) (by kernel_rfl) (by kernel_rfl) (by kernel_rfl)) ?_
  intro W base args ds gs before hval hW _ _
  exact contract H enc W base args ds gs before hval hW trivial

theorem over : Rows.fnExactCulminationAltitudeRow.holds Try.pinned (OpenSpec.ofChange Rows.fnExactCulminationAltitudeSpec) :=
  OpenClaim.holds_of_wide 7 Try.f7 rfl rfl rfl rfl rfl rfl rfl ⟨rfl, rfl, rfl, rfl, rfl⟩ rfl rfl rfl rfl rfl (by kernel_rfl) Try.func7 (by kernel_rfl)
    (of_decide_eq_true (by kernel_rfl)) (by unfold Func.isWrapper; first | (rw [if_pos (by decide +kernel)]; kernel_rfl) | (rw [if_neg (by decide +kernel)]; exact ⟨rfl, rfl⟩))
    (fun os started H enc _ => lifted os started H enc)

theorem proved : Rows.FnExactCulminationAltitudeSaid :=
  over
#print axioms proved
end Go.Proofs.Ytfjhlapcopjfiaa.fnExactCulminationAltitude
