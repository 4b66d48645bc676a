/-
  The law FnExactNormalVector: for every input the call returns true, and each argument reads afterwards as it read before. No condition.
-/
import Derived.Test.YtpldjkgmpdagpaaRows
import Derived.Test.YtpldjkgmpdagpaaPost0
import Derived.Test.YtpldjkgmpdagpaaSNorm7
import Derived.WalkKit
import Derived.ProofKit
import Derived.OpenShut
import Derived.ChangeMaps5
import Derived.Lib.SmallJoins
namespace Go.Proofs.Ytpldjkgmpdagpaa.fnExactNormalVector
open Go.ChangeShapes Go.WideShapes Go.ChangeAt Go.RowKit Go.ChangeMaps
set_option linter.unusedVariables false

theorem own : ownKnob Try.prog.godebug = none := by kernel_rfl

def Env (_w : World) : Prop := True

set_option maxHeartbeats 1000000 in
theorem walk (w : World) (a0 b0 c0 : Int) (w0 : (Lit.int .i64 a0).wf = true) (x0 : (Lit.int .i64 b0).wf = true) (y0 : (Lit.int .i64 c0).wf = true) (henv : Env w) :
    Calls Try.prog 3 #[.agg #[.int .i64 a0, .int .i64 b0, .int .i64 c0]] w fun e w' => e = .returned (.bool true) ∧ Below w.heap.size w w' := by
  clear w0 x0 y0
  have F1 := Lib.hid (fun w => specNorm_any a0 b0 c0  w)
  have F2 := Lib.hid (fun w => implNorm_any a0 b0 c0  w)
  obtain ⟨r0x, r0y, r0z, r1x, hz⟩ := normV_form a0 b0 c0
  rw [hz] at F1 F2
  clear hz
  go_enter Try.func3, Try.ntmps3
  go_wp2_with fail
  refine (toVector_any a0 b0 c0 _).mono ?_
  rintro e w1w ⟨rfl, hb⟩
  have hsw1w := hb.size
  try simp at hsw1w
  obtain ⟨hcw1w, hfw1w⟩ := bcell hb
  have HBw1w : Hid (Below w.heap.size w w1w) := by
    apply Lib.hid
    refine Below.trans ?_ (hb.mono ?_)
    · repeat (first | exact Below.refl _ _ | refine Below.setCell ?_ (by first | (simp; done) | omega | (simp; omega)) _ | refine Below.alloc ?_ (by first | (simp; done) | omega | (simp; omega)) _)
    · first | (simp; done) | omega | (simp; omega)
  have hzw1w : w.heap.size < w1w.heap.size := by have := hb.size; (try simp at this); omega
  clear hb
  go_wp2_with fail
  refine (F1.out _).mono ?_
  rintro e w2w ⟨rfl, hb⟩
  have hsw2w := hb.size
  try simp at hsw2w
  obtain ⟨hcw2w, hfw2w⟩ := bcell hb
  have HBw2w : Hid (Below w.heap.size w w2w) := by
    apply Lib.hid
    refine Below.trans ?_ (hb.mono ?_)
    · repeat (first | exact Below.refl _ _ | exact HBw1w.out | refine Below.setCell ?_ (by first | (simp; done) | omega | (simp; omega)) _ | refine Below.alloc ?_ (by first | (simp; done) | omega | (simp; omega)) _)
    · first | (simp; done) | omega | (simp; omega)
  have hzw2w : w.heap.size < w2w.heap.size := by have := hb.size; (try simp at this); omega
  clear hb
  first | (have gsw2ww1w : w1w.heap.size < w2w.heap.size := by omega) | skip
  go_wp2_with fail
  refine (toVector_any a0 b0 c0 _).mono ?_
  rintro e w3w ⟨rfl, hb⟩
  have hsw3w := hb.size
  try simp at hsw3w
  obtain ⟨hcw3w, hfw3w⟩ := bcell hb
  have HBw3w : Hid (Below w.heap.size w w3w) := by
    apply Lib.hid
    refine Below.trans ?_ (hb.mono ?_)
    · repeat (first | exact Below.refl _ _ | exact HBw2w.out | refine Below.setCell ?_ (by first | (simp; done) | omega | (simp; omega)) _ | refine Below.alloc ?_ (by first | (simp; done) | omega | (simp; omega)) _)
    · first | (simp; done) | omega | (simp; omega)
  have hzw3w : w.heap.size < w3w.heap.size := by have := hb.size; (try simp at this); omega
  clear hb
  first | (have gsw3ww1w : w1w.heap.size < w3w.heap.size := by omega) | skip
  first | (have gsw3ww2w : w2w.heap.size < w3w.heap.size := by omega) | skip
  go_wp2_with fail
  refine (F2.out _).mono ?_
  rintro e w4w ⟨rfl, hb⟩
  have hsw4w := hb.size
  try simp at hsw4w
  obtain ⟨hcw4w, hfw4w⟩ := bcell hb
  have HBw4w : Hid (Below w.heap.size w w4w) := by
    apply Lib.hid
    refine Below.trans ?_ (hb.mono ?_)
    · repeat (first | exact Below.refl _ _ | exact HBw3w.out | refine Below.setCell ?_ (by first | (simp; done) | omega | (simp; omega)) _ | refine Below.alloc ?_ (by first | (simp; done) | omega | (simp; omega)) _)
    · first | (simp; done) | omega | (simp; omega)
  have hzw4w : w.heap.size < w4w.heap.size := by have := hb.size; (try simp at this); omega
  clear hb
  first | (have gsw4ww1w : w1w.heap.size < w4w.heap.size := by omega) | skip
  first | (have gsw4ww2w : w2w.heap.size < w4w.heap.size := by omega) | skip
  first | (have gsw4ww3w : w3w.heap.size < w4w.heap.size := by omega) | skip
  go_wp2_with fail
  refine (eqVector_same _ _ _ _).mono ?_
  rintro e w5w ⟨rfl, hb⟩
  have hsw5w := hb.size
  try simp at hsw5w
  obtain ⟨hcw5w, hfw5w⟩ := bcell hb
  have HBw5w : Hid (Below w.heap.size w w5w) := by
    apply Lib.hid
    refine Below.trans ?_ (hb.mono ?_)
    · repeat (first | exact Below.refl _ _ | exact HBw4w.out | refine Below.setCell ?_ (by first | (simp; done) | omega | (simp; omega)) _ | refine Below.alloc ?_ (by first | (simp; done) | omega | (simp; omega)) _)
    · first | (simp; done) | omega | (simp; omega)
  have hzw5w : w.heap.size < w5w.heap.size := by have := hb.size; (try simp at this); omega
  clear hb
  first | (have gsw5ww1w : w1w.heap.size < w5w.heap.size := by omega) | skip
  first | (have gsw5ww2w : w2w.heap.size < w5w.heap.size := by omega) | skip
  first | (have gsw5ww3w : w3w.heap.size < w5w.heap.size := by omega) | skip
  first | (have gsw5ww4w : w4w.heap.size < w5w.heap.size := by omega) | skip
  go_wp2_with fail
  go_ret
  refine ⟨rfl, ?_⟩
  repeat (first | exact Below.refl _ _ | exact HBw5w.out | refine Below.setCell ?_ (by first | (simp; done) | omega | (simp; omega)) _ | refine Below.alloc ?_ (by first | (simp; done) | omega | (simp; omega)) _ | refine bel_drew ?_)

set_option maxRecDepth 100000 in
theorem contract (H : Type) (enc : TypeId × Value → H) (W : World) (base : Nat) (args : Array Value) (ds gs : List (DataW H)) (before : List MemPlace)
    (hval : ∀ (j : Nat) t v, Try.f3.params[j]? = some t → args[j]? = some v → Value.okWide Try.prog W .any base t v)
    (hW : DataW.Whole enc Try.prog Try.f3.params.toList Rows.fnExactNormalVectorSpec.vars false W args.toList ds gs before) (henv : Env W) :
    Calls Try.prog 3 args W fun e W' => ∃ v, e = .returned v ∧ Rows.fnExactNormalVectorSpec.post enc Try.prog Try.f3 false true false false W args v W' := by
  have hW' := hW
  obtain ⟨p, q, hA0, hV, rfl, hfz, hnd⟩ := hW
  have hA : DataW.TrodAll enc Try.prog W 0 (fun _ => true) true Try.f3.params.toList args.toList ds p := hA0
  rw [Try.params3] at hA hval
  obtain ⟨v0, vs0, d0, ds0, p0, q0, hargs0, rfl, rfl, h0, r0⟩ := trodAll_cons hA
  obtain ⟨rfl, rfl, rfl⟩ := trodAll_nil r0
  obtain rfl : args = #[v0] := by cases args; simp_all
  obtain ⟨rfl, rfl⟩ := trodVars_none hV
  obtain ⟨va0, vb0, vc0, ya0, yb0, yc0, n0, rfl, rfl, rfl, ta0, tb0, tc0⟩ := Go.Joins.open_agg3 Try.underlying23 (by kernel_rfl) (by kernel_rfl) (hval 0 23 v0 rfl rfl) h0
  obtain ⟨a0, ea0, rfl, w0⟩ := DataW.trod_int Try.underlying2 ta0
  obtain ⟨b0, eb0, rfl, x0⟩ := DataW.trod_int Try.underlying2 tb0
  obtain ⟨c0, ec0, rfl, y0⟩ := DataW.trod_int Try.underlying2 tc0
  obtain rfl : va0 = .int .i64 a0 := by simpa using ea0
  obtain rfl : vb0 = .int .i64 b0 := by simpa using eb0
  obtain rfl : vc0 = .int .i64 c0 := by simpa using ec0
  clear hA0
  simp only [List.append_nil] at hW'
  refine (walk W a0 b0 c0 w0 x0 y0 henv).mono fun e W' ⟨he, hg⟩ => ?_
  subst he
  exact ⟨_, rfl, post_of_below (pa := []) (pv := []) hW' (fun _ _ _ => (trodAll_cons_mk (shut_bool Try.underlying4 _) trodAll_mk0)) (fun sp _ => (trodAll_cons_mk (Go.Joins.shut_agg3 (y0 := (.lit (.int .i64 a0), [])) (y1 := (.lit (.int .i64 b0), [])) (y2 := (.lit (.int .i64 c0), [])) Try.underlying23 (by kernel_rfl) (by kernel_rfl) ⟨1, trod_int_mk 0 Try.underlying2 w0⟩ ⟨1, trod_int_mk 0 Try.underlying2 x0⟩ ⟨1, trod_int_mk 0 Try.underlying2 y0⟩) trodAll_mk0)) (fun _ _ => rfl) rfl
    hg (ok_one (by kernel_rfl) rfl (okWide_bool_mk Try.underlying4 _))⟩

set_option maxRecDepth 100000 in
theorem lifted (os : Os) (started : os.Started) (H : Type) (enc : TypeId × Value → H) :
    ReturnsInHanded {} Try.checked os 3 .any (Rows.fnExactNormalVectorSpec.pre6 enc Try.prog Try.f3 Rows.fnExactNormalVectorRow.domain false) (Rows.fnExactNormalVectorSpec.post enc Try.prog Try.f3 false true false false) := by
  refine returnsInHanded_of_change (C := Try.checked) own started (by kernel_rfl) Try.func3
    (ChangeSpec.witness6 (enc := enc) (C := Try.checked) false ⟨#[], #[.agg #[.int .i64 0, .int .i64 0, .int .i64 0]], []⟩ 8 (by kernel_rfl) (by kernel_rfl) (by kernel_rfl) (by kernel_rfl)) ?_
  intro W base args ds gs before hval hW _ _
  exact contract H enc W base args ds gs before hval hW trivial

theorem over : Rows.fnExactNormalVectorRow.holds Try.pinned (OpenSpec.ofChange Rows.fnExactNormalVectorSpec) :=
  OpenClaim.holds_of_wide 3 Try.f3 rfl rfl rfl rfl rfl rfl rfl ⟨rfl, rfl, rfl, rfl, rfl⟩ rfl rfl rfl rfl rfl (by kernel_rfl) Try.func3 (by kernel_rfl)
    (of_decide_eq_true (by kernel_rfl)) (by unfold Func.isWrapper; first | (rw [if_pos (by decide +kernel)]; kernel_rfl) | (rw [if_neg (by decide +kernel)]; exact ⟨rfl, rfl⟩))
    (fun os started H enc _ => lifted os started H enc)

theorem proved : Rows.FnExactNormalVectorSaid :=
  over
#print axioms proved
end Go.Proofs.Ytpldjkgmpdagpaa.fnExactNormalVector
