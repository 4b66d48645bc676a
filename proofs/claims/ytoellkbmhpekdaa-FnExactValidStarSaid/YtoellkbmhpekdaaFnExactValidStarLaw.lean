/-
  The law FnExactValidStar: for every input the call returns true, and each argument reads afterwards as it read before. No condition.
-/
import Derived.Test.YtoellkbmhpekdaaRows
import Derived.Test.YtoellkbmhpekdaaPost0
import Derived.Test.YtoellkbmhpekdaaStar1
import Derived.Test.YtoellkbmhpekdaaPost0
import Derived.WalkKit
import Derived.ProofKit
import Derived.OpenShut
import Derived.ChangeMaps5
import Derived.ChangeSlices
import Derived.Carry
import Derived.Lib.SmallJoins
namespace Go.Proofs.Ytoellkbmhpekdaa.fnExactValidStar
open Go.ChangeShapes Go.WideShapes Go.ChangeAt Go.RowKit Go.ChangeMaps
set_option linter.unusedVariables false

theorem own : ownKnob Try.prog.godebug = none := by kernel_rfl

def Env (_w : World) : Prop := True

set_option maxRecDepth 100000 in
set_option maxHeartbeats 8000000 in
theorem walk (w : World) (s0 : ByteArray) (a0 b0 c0 d0 : Int) (w0 : StarOk s0 a0 b0 c0 d0) (henv : Env w) :
    Calls Try.prog 3 #[.agg #[.string s0, .int .i64 a0, .int .i64 b0, .int .i64 c0, .int .i64 d0]] w fun e w' => e = .returned (.bool true) ∧ Below w.heap.size w w' := by
  have hm : s0.size ≤ maxLen := w0.1
  have Z := Lib.hid (fun w => szStar_any s0 a0 b0 c0 d0 1048576 (by omega) (by omega) hm w)
  have T := Lib.hid (fun w => toStar_any s0 a0 b0 c0 d0 w)
  have F1 := Lib.hid (fun w => specValidStar_any s0 a0 b0 c0 d0 w)
  have F2 := Lib.hid (fun w => validStar_any s0 a0 b0 c0 d0 hm w)
  generalize starB s0 a0 b0 c0 d0 = q at *
  clear w0 hm
  by_cases hz : szN s0 1048576 < 0
  · generalize szN s0 1048576 = z at *
    go_enter Try.func3, Try.ntmps3
    go_wp2_with fail
    refine (Z.out _).mono ?_
    rintro e w1 ⟨rfl, hb⟩
    have hsw1 := hb.size
    try simp at hsw1
    obtain ⟨hcw1, hfw1⟩ := bcell hb
    have HBw1 : Hid (Below w.heap.size w w1) := by
      apply Lib.hid
      refine Below.trans ?_ (hb.mono ?_)
      · repeat (first | exact Below.refl _ _ | refine Below.setCell ?_ (by first | (simp; done) | omega | (simp; omega)) _ | refine Below.alloc ?_ (by first | (simp; done) | omega | (simp; omega)) _)
      · first | (simp; done) | omega | (simp; omega)
    have hzw1 : w.heap.size < w1.heap.size := by have := hb.size; (try simp at this); omega
    clear hb
    go_wp2_with fail
    go_ret
    refine ⟨rfl, ?_⟩
    repeat (first | exact Below.refl _ _ | exact HBw1.out | refine Below.setCell ?_ (by first | (simp; done) | omega | (simp; omega)) _ | refine Below.alloc ?_ (by first | (simp; done) | omega | (simp; omega)) _ | refine bel_drew ?_)
  · generalize szN s0 1048576 = z at *
    go_enter Try.func3, Try.ntmps3
    go_wp2_with fail
    refine (Z.out _).mono ?_
    rintro e w1 ⟨rfl, hb⟩
    have hsw1 := hb.size
    try simp at hsw1
    obtain ⟨hcw1, hfw1⟩ := bcell hb
    have HBw1 : Hid (Below w.heap.size w w1) := by
      apply Lib.hid
      refine Below.trans ?_ (hb.mono ?_)
      · repeat (first | exact Below.refl _ _ | refine Below.setCell ?_ (by first | (simp; done) | omega | (simp; omega)) _ | refine Below.alloc ?_ (by first | (simp; done) | omega | (simp; omega)) _)
      · first | (simp; done) | omega | (simp; omega)
    have hzw1 : w.heap.size < w1.heap.size := by have := hb.size; (try simp at this); omega
    clear hb
    go_wp2_with fail
    refine (T.out _).mono ?_
    rintro e w2 ⟨rfl, hb⟩
    have hsw2 := hb.size
    try simp at hsw2
    obtain ⟨hcw2, hfw2⟩ := bcell hb
    have HBw2 : Hid (Below w.heap.size w w2) := by
      apply Lib.hid
      refine Below.trans ?_ (hb.mono ?_)
      · repeat (first | exact Below.refl _ _ | exact HBw1.out | refine Below.setCell ?_ (by first | (simp; done) | omega | (simp; omega)) _ | refine Below.alloc ?_ (by first | (simp; done) | omega | (simp; omega)) _)
      · first | (simp; done) | omega | (simp; omega)
    have hzw2 : w.heap.size < w2.heap.size := by have := hb.size; (try simp at this); omega
    clear hb
    first | (have gsw2w1 : w1.heap.size < w2.heap.size := by omega) | skip
    go_wp2_with fail
    refine (F1.out _).mono ?_
    rintro e w3 ⟨rfl, hb⟩
    have hsw3 := hb.size
    try simp at hsw3
    obtain ⟨hcw3, hfw3⟩ := bcell hb
    have HBw3 : Hid (Below w.heap.size w w3) := by
      apply Lib.hid
      refine Below.trans ?_ (hb.mono ?_)
      · repeat (first | exact Below.refl _ _ | exact HBw2.out | refine Below.setCell ?_ (by first | (simp; done) | omega | (simp; omega)) _ | refine Below.alloc ?_ (by first | (simp; done) | omega | (simp; omega)) _)
      · first | (simp; done) | omega | (simp; omega)
    have hzw3 : w.heap.size < w3.heap.size := by have := hb.size; (try simp at this); omega
    clear hb
    first | (have gsw3w1 : w1.heap.size < w3.heap.size := by omega) | skip
    first | (have gsw3w2 : w2.heap.size < w3.heap.size := by omega) | skip
    go_wp2_with fail
    refine (T.out _).mono ?_
    rintro e w4 ⟨rfl, hb⟩
    have hsw4 := hb.size
    try simp at hsw4
    obtain ⟨hcw4, hfw4⟩ := bcell hb
    have HBw4 : Hid (Below w.heap.size w w4) := by
      apply Lib.hid
      refine Below.trans ?_ (hb.mono ?_)
      · repeat (first | exact Below.refl _ _ | exact HBw3.out | refine Below.setCell ?_ (by first | (simp; done) | omega | (simp; omega)) _ | refine Below.alloc ?_ (by first | (simp; done) | omega | (simp; omega)) _)
      · first | (simp; done) | omega | (simp; omega)
    have hzw4 : w.heap.size < w4.heap.size := by have := hb.size; (try simp at this); omega
    clear hb
    first | (have gsw4w1 : w1.heap.size < w4.heap.size := by omega) | skip
    first | (have gsw4w2 : w2.heap.size < w4.heap.size := by omega) | skip
    first | (have gsw4w3 : w3.heap.size < w4.heap.size := by omega) | skip
    go_wp2_with fail
    refine (F2.out _).mono ?_
    rintro e w5 ⟨rfl, hb⟩
    have hsw5 := hb.size
    try simp at hsw5
    obtain ⟨hcw5, hfw5⟩ := bcell hb
    have HBw5 : Hid (Below w.heap.size w w5) := by
      apply Lib.hid
      refine Below.trans ?_ (hb.mono ?_)
      · repeat (first | exact Below.refl _ _ | exact HBw4.out | refine Below.setCell ?_ (by first | (simp; done) | omega | (simp; omega)) _ | refine Below.alloc ?_ (by first | (simp; done) | omega | (simp; omega)) _)
      · first | (simp; done) | omega | (simp; omega)
    have hzw5 : w.heap.size < w5.heap.size := by have := hb.size; (try simp at this); omega
    clear hb
    first | (have gsw5w1 : w1.heap.size < w5.heap.size := by omega) | skip
    first | (have gsw5w2 : w2.heap.size < w5.heap.size := by omega) | skip
    first | (have gsw5w3 : w3.heap.size < w5.heap.size := by omega) | skip
    first | (have gsw5w4 : w4.heap.size < w5.heap.size := by omega) | skip
    go_wp2_with fail
    go_ret
    refine ⟨rfl, ?_⟩
    repeat (first | exact Below.refl _ _ | exact HBw5.out | refine Below.setCell ?_ (by first | (simp; done) | omega | (simp; omega)) _ | refine Below.alloc ?_ (by first | (simp; done) | omega | (simp; omega)) _ | refine bel_drew ?_)

set_option maxRecDepth 100000 in
set_option maxHeartbeats 2000000 in
theorem contract (H : Type) (enc : TypeId × Value → H) (W : World) (base : Nat) (args : Array Value) (ds gs : List (DataW H)) (before : List MemPlace)
    (hval : ∀ (j : Nat) t v, Try.f3.params[j]? = some t → args[j]? = some v → Value.okWide Try.prog W .any base t v)
    (hW : DataW.Whole enc Try.prog Try.f3.params.toList Rows.fnExactValidStarSpec.vars false W args.toList ds gs before) (henv : Env W) :
    Calls Try.prog 3 args W fun e W' => ∃ v, e = .returned v ∧ Rows.fnExactValidStarSpec.post enc Try.prog Try.f3 false true false false W args v W' := by
  have hW' := hW
  obtain ⟨p, q, hA0, hV, rfl, hfz, hnd⟩ := hW
  have hA : DataW.TrodAll enc Try.prog W 0 (fun _ => true) true Try.f3.params.toList args.toList ds p := hA0
  rw [Try.params3] at hA hval
  obtain ⟨v0, vs0, d0, ds0, p0, q0, hargs0, rfl, rfl, h0, r0⟩ := trodAll_cons hA
  obtain ⟨rfl, rfl, rfl⟩ := trodAll_nil r0
  obtain rfl : args = #[v0] := by cases args; simp_all
  obtain ⟨rfl, rfl⟩ := trodVars_none hV
  have h0k := h0
  obtain ⟨s0, a0, b0, c0, d0, rfl, w0⟩ := star_open (hval 0 23 v0 rfl rfl) h0
  clear hA0
  have hltp : ∀ x ∈ p0 ++ [] ++ [], x.block < W.heap.size := fun x hx => hW'.lt x hx
  refine (walk W s0 a0 b0 c0 d0 w0 henv).mono fun e W' ⟨he, hg⟩ => ?_
  subst he
  exact ⟨_, rfl, post_of_below (pa := p0 ++ []) (pv := []) hW' (fun _ _ _ => (trodAll_cons_mk (shut_bool Try.underlying4 _) trodAll_mk0)) (fun sp hsp => (trodAll_cons_mk (WideElems.Trod_stays (by kernel_rfl) (by kernel_rfl) (of_decide_eq_true (by kernel_rfl)) h0k (fun x hx => hg.same (hltp x (by simp [hx]))) (fun x hx => hsp x (by simp [hx]))) trodAll_mk0)) (fun _ _ => rfl) rfl
    hg (ok_one (by kernel_rfl) rfl (okWide_bool_mk Try.underlying4 _))⟩

set_option maxRecDepth 100000 in
theorem lifted (os : Os) (started : os.Started) (H : Type) (enc : TypeId × Value → H) :
    ReturnsInHanded {} Try.checked os 3 .any (Rows.fnExactValidStarSpec.pre6 enc Try.prog Try.f3 Rows.fnExactValidStarRow.domain false) (Rows.fnExactValidStarSpec.post enc Try.prog Try.f3 false true false false) := by
  refine returnsInHanded_of_change (C := Try.checked) own started (by kernel_rfl) Try.func3
    (ChangeSpec.witness6 (enc := enc) (C := Try.checked) false ⟨#[], #[.agg #[.string ByteArray.empty, .int .i64 0, .int .i64 0, .int .i64 0, .int .i64 0]], []⟩ 8 (by kernel_rfl) (by kernel_rfl) (by kernel_rfl) (by kernel_rfl)) ?_
  intro W base args ds gs before hval hW _ _
  exact contract H enc W base args ds gs before hval hW trivial

theorem over : Rows.fnExactValidStarRow.holds Try.pinned (OpenSpec.ofChange Rows.fnExactValidStarSpec) :=
  OpenClaim.holds_of_wide 3 Try.f3 rfl rfl rfl rfl rfl rfl rfl ⟨rfl, rfl, rfl, rfl, rfl⟩ rfl rfl rfl rfl rfl (by kernel_rfl) Try.func3 (by kernel_rfl)
    (of_decide_eq_true (by kernel_rfl)) (by unfold Func.isWrapper; first | (rw [if_pos (by decide +kernel)]; kernel_rfl) | (rw [if_neg (by decide +kernel)]; exact ⟨rfl, rfl⟩))
    (fun os started H enc _ => lifted os started H enc)

theorem proved : Rows.FnExactValidStarSaid :=
  over
#print axioms proved
end Go.Proofs.Ytoellkbmhpekdaa.fnExactValidStar
