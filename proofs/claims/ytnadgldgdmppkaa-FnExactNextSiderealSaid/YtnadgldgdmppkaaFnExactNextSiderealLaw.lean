/-
  The law FnExactNextSidereal: for every input the call returns true, and each argument reads afterwards as it read before. No condition.
-/
import Derived.Test.YtnadgldgdmppkaaRows
import Derived.Test.YtnadgldgdmppkaaPost0
import Derived.Test.YtnadgldgdmppkaaNxt
import Derived.WalkKit
import Derived.ProofKit
import Derived.OpenShut
import Derived.ChangeMaps5
import Derived.Lib.SmallJoins
namespace Go.Proofs.Ytnadgldgdmppkaa.fnExactNextSidereal
open Go.ChangeShapes Go.WideShapes Go.ChangeAt Go.RowKit Go.ChangeMaps
set_option linter.unusedVariables false

theorem own : ownKnob Try.prog.godebug = none := by kernel_rfl

def Env (_w : World) : Prop := True

set_option maxHeartbeats 1000000 in
theorem walk (w : World) (a0 b0 : Int) (w0 : (Lit.int .i64 a0).wf = true) (x0 : (Lit.int .i64 b0).wf = true) (a1 : Int) (w1 : (Lit.int .i64 a1).wf = true) (a2 : Int) (w2 : (Lit.int .i64 a2).wf = true) (henv : Env w) :
    Calls Try.prog 3 #[.agg #[.int .i64 a0, .int .i64 b0], .int .i64 a1, .int .i64 a2] w fun e w' => e = .returned (.bool true) ∧ Below w.heap.size w w' := by
  clear w0 x0 w1 w2
  have F1 := Lib.hid (fun w => specNxt_any a0 b0 a1 a2 w)
  have F2 := Lib.hid (fun w => implNxt_any a0 b0 a1 a2 w)
  obtain ⟨p, q, r, hz⟩ := nxtV_form a0 b0 a1 a2
  rw [hz] at F1 F2
  clear hz
  go_enter Try.func3, Try.ntmps3
  go_wp2_with fail
  refine (toMoment_any _ _ _).mono ?_
  rintro e w1 ⟨rfl, hb⟩
  obtain ⟨hcw1, hfw1⟩ := bcell hb
  have HBw1 : Hid (Below w.heap.size w w1) := by
    apply Lib.hid
    refine Below.trans ?_ (hb.mono ?_)
    · repeat (first | exact Below.refl _ _ | refine Below.setCell ?_ (by first | (simp; done) | omega | (simp; omega)) _ | refine Below.alloc ?_ (by first | (simp; done) | omega | (simp; omega)) _)
    · first | (simp; done) | omega | (simp; omega)
  have hzw1 : w.heap.size < w1.heap.size := by have := hb.size; (try simp at this); omega
  clear hb
  go_wp2_with fail
  refine (F1.out _).mono ?_
  rintro e w2 ⟨rfl, hb⟩
  obtain ⟨hcw2, hfw2⟩ := bcell hb
  have HBw2 : Hid (Below w.heap.size w w2) := by
    apply Lib.hid
    refine Below.trans ?_ (hb.mono ?_)
    · repeat (first | exact Below.refl _ _ | exact HBw1.out | refine Below.setCell ?_ (by first | (simp; done) | omega | (simp; omega)) _ | refine Below.alloc ?_ (by first | (simp; done) | omega | (simp; omega)) _)
    · first | (simp; done) | omega | (simp; omega)
  have hzw2 : w.heap.size < w2.heap.size := by have := hb.size; (try simp at this); omega
  clear hb
  go_wp2_with fail
  refine (toMoment_any _ _ _).mono ?_
  rintro e w3 ⟨rfl, hb⟩
  obtain ⟨hcw3, hfw3⟩ := bcell hb
  have HBw3 : Hid (Below w.heap.size w w3) := by
    apply Lib.hid
    refine Below.trans ?_ (hb.mono ?_)
    · repeat (first | exact Below.refl _ _ | exact HBw2.out | refine Below.setCell ?_ (by first | (simp; done) | omega | (simp; omega)) _ | refine Below.alloc ?_ (by first | (simp; done) | omega | (simp; omega)) _)
    · first | (simp; done) | omega | (simp; omega)
  have hzw3 : w.heap.size < w3.heap.size := by have := hb.size; (try simp at this); omega
  have rw3w2 : w2.heap.size < w3.heap.size := by have := hb.size; (try simp at this); omega
  clear hb
  go_wp2_with fail
  refine (F2.out _).mono ?_
  rintro e w4 ⟨rfl, hb⟩
  obtain ⟨hcw4, hfw4⟩ := bcell hb
  have HBw4 : Hid (Below w.heap.size w w4) := by
    apply Lib.hid
    refine Below.trans ?_ (hb.mono ?_)
    · repeat (first | exact Below.refl _ _ | exact HBw3.out | refine Below.setCell ?_ (by first | (simp; done) | omega | (simp; omega)) _ | refine Below.alloc ?_ (by first | (simp; done) | omega | (simp; omega)) _)
    · first | (simp; done) | omega | (simp; omega)
  have hzw4 : w.heap.size < w4.heap.size := by have := hb.size; (try simp at this); omega
  have rw4w2 : w2.heap.size < w4.heap.size := by have := hb.size; (try simp at this); omega
  clear hb
  go_wp2_with fail
  refine (eqMoment_same _ _ _).mono ?_
  rintro e w5 ⟨rfl, hb⟩
  obtain ⟨hcw5, hfw5⟩ := bcell hb
  have HBw5 : Hid (Below w.heap.size w w5) := by
    apply Lib.hid
    refine Below.trans ?_ (hb.mono ?_)
    · repeat (first | exact Below.refl _ _ | exact HBw4.out | refine Below.setCell ?_ (by first | (simp; done) | omega | (simp; omega)) _ | refine Below.alloc ?_ (by first | (simp; done) | omega | (simp; omega)) _)
    · first | (simp; done) | omega | (simp; omega)
  have hzw5 : w.heap.size < w5.heap.size := by have := hb.size; (try simp at this); omega
  have rw5w2 : w2.heap.size < w5.heap.size := by have := hb.size; (try simp at this); omega
  have rw5w4 : w4.heap.size < w5.heap.size := by have := hb.size; (try simp at this); omega
  clear hb
  go_wp2_with fail
  go_ret
  exact ⟨rfl, HBw5.out⟩

set_option maxRecDepth 100000 in
theorem contract (H : Type) (enc : TypeId × Value → H) (W : World) (base : Nat) (args : Array Value) (ds gs : List (DataW H)) (before : List MemPlace)
    (hval : ∀ (j : Nat) t v, Try.f3.params[j]? = some t → args[j]? = some v → Value.okWide Try.prog W .any base t v)
    (hW : DataW.Whole enc Try.prog Try.f3.params.toList Rows.fnExactNextSiderealSpec.vars false W args.toList ds gs before) (henv : Env W) :
    Calls Try.prog 3 args W fun e W' => ∃ v, e = .returned v ∧ Rows.fnExactNextSiderealSpec.post enc Try.prog Try.f3 false true false false W args v W' := by
  have hW' := hW
  obtain ⟨p, q, hA0, hV, rfl, hfz, hnd⟩ := hW
  have hA : DataW.TrodAll enc Try.prog W 0 (fun _ => true) true Try.f3.params.toList args.toList ds p := hA0
  rw [Try.params3] at hA hval
  obtain ⟨v0, vs0, d0, ds0, p0, q0, hargs0, rfl, rfl, h0, r0⟩ := trodAll_cons hA
  obtain ⟨v1, vs1, d1, ds1, p1, q1, hargs1, rfl, rfl, h1, r1⟩ := trodAll_cons r0
  obtain ⟨v2, vs2, d2, ds2, p2, q2, hargs2, rfl, rfl, h2, r2⟩ := trodAll_cons r1
  obtain ⟨rfl, rfl, rfl⟩ := trodAll_nil r2
  obtain rfl : args = #[v0, v1, v2] := by cases args; simp_all
  obtain ⟨rfl, rfl⟩ := trodVars_none hV
  obtain ⟨va0, vb0, ya0, yb0, n0, rfl, rfl, rfl, ta0, tb0⟩ := Go.Joins.open_agg2 Try.underlying23 (by kernel_rfl) (by kernel_rfl) (hval 0 23 v0 rfl rfl) h0
  obtain ⟨a0, ea0, rfl, w0⟩ := DataW.trod_int Try.underlying2 ta0
  obtain ⟨b0, eb0, rfl, x0⟩ := DataW.trod_int Try.underlying2 tb0
  obtain rfl : va0 = .int .i64 a0 := by simpa using ea0
  obtain rfl : vb0 = .int .i64 b0 := by simpa using eb0
  obtain ⟨a1, rfl, rfl, rfl, w1⟩ := open_int Try.underlying2 (hval 1 2 v1 rfl rfl) h1
  obtain ⟨a2, rfl, rfl, rfl, w2⟩ := open_int Try.underlying2 (hval 2 2 v2 rfl rfl) h2
  clear hA0
  simp only [List.append_nil] at hW'
  refine (walk W a0 b0 w0 x0 a1 w1 a2 w2 henv).mono fun e W' ⟨he, hg⟩ => ?_
  subst he
  exact ⟨_, rfl, post_of_below (pa := []) (pv := []) hW' (fun _ _ _ => (trodAll_cons_mk (shut_bool Try.underlying4 _) trodAll_mk0)) (fun sp _ => (trodAll_cons_mk (Go.Joins.shut_agg2 (y0 := (.lit (.int .i64 a0), [])) (y1 := (.lit (.int .i64 b0), [])) Try.underlying23 (by kernel_rfl) (by kernel_rfl) ⟨1, trod_int_mk 0 Try.underlying2 w0⟩ ⟨1, trod_int_mk 0 Try.underlying2 x0⟩) (trodAll_cons_mk (shut_int Try.underlying2 w1) (trodAll_cons_mk (shut_int Try.underlying2 w2) trodAll_mk0)))) (fun _ _ => rfl) rfl
    hg (ok_one (by kernel_rfl) rfl (okWide_bool_mk Try.underlying4 _))⟩

set_option maxRecDepth 100000 in
theorem lifted (os : Os) (started : os.Started) (H : Type) (enc : TypeId × Value → H) :
    ReturnsInHanded {} Try.checked os 3 .any (Rows.fnExactNextSiderealSpec.pre6 enc Try.prog Try.f3 Rows.fnExactNextSiderealRow.domain false) (Rows.fnExactNextSiderealSpec.post enc Try.prog Try.f3 false true false false) := by
  refine returnsInHanded_of_change (C := Try.checked) own started (by kernel_rfl) Try.func3
    (ChangeSpec.witness6 (enc := enc) (C := Try.checked) false ⟨#[], #[.agg #[.int .i64 0, .int .i64 0], .int .i64 0, .int .i64 0], []⟩ 8 (by kernel_rfl) (by kernel_rfl) (by kernel_rfl) (by kernel_rfl)) ?_
  intro W base args ds gs before hval hW _ _
  exact contract H enc W base args ds gs before hval hW trivial

theorem over : Rows.fnExactNextSiderealRow.holds Try.pinned (OpenSpec.ofChange Rows.fnExactNextSiderealSpec) :=
  OpenClaim.holds_of_wide 3 Try.f3 rfl rfl rfl rfl rfl rfl rfl ⟨rfl, rfl, rfl, rfl, rfl⟩ rfl rfl rfl rfl rfl (by kernel_rfl) Try.func3 (by kernel_rfl)
    (of_decide_eq_true (by kernel_rfl)) (by unfold Func.isWrapper; first | (rw [if_pos (by decide +kernel)]; kernel_rfl) | (rw [if_neg (by decide +kernel)]; exact ⟨rfl, rfl⟩))
    (fun os started H enc _ => lifted os started H enc)

theorem proved : Rows.FnExactNextSiderealSaid :=
  over
#print axioms proved
end Go.Proofs.Ytnadgldgdmppkaa.fnExactNextSidereal
