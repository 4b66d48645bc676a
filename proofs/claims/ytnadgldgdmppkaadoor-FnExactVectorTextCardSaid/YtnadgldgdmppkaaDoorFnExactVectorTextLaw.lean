/-
  The law FnExactVectorText, with what its package variables hold tied to the program's text: for every input the call returns true, and each argument reads afterwards as it read before. No condition. (The card ties the listed variables to a pruned copy of the project: the packages that this seat's roots load.)
-/
import Derived.Test.YtnadgldgdmppkaaDoorCards
import Derived.Test.YtnadgldgdmppkaaDoorTie
import Derived.Test.YtnadgldgdmppkaaDoorPost
import Derived.Test.YtnadgldgdmppkaaDoorVTxt
import Derived.WalkKit
import Derived.ProofKit
import Derived.OpenShut
import Derived.ChangeMaps5
import Derived.Lib.SmallJoins
import Derived.Deep.DeepHandedRow
import Derived.Deep.DeepWitnessRowRef
import Derived.Lay
import Derived.Lib.LaidTab
import Derived.Stop.LaidErr
import Derived.MakeChecks
import Derived.Lib.LaidU8
namespace Go.Proofs.YtnadgldgdmppkaaDoor.fnExactVectorText
open Go.ChangeShapes Go.WideShapes Go.ChangeAt Go.RowKit Go.ChangeMaps
set_option linter.unusedVariables false

theorem own : ownKnob Tryd.prog.godebug = none := by kernel_rfl

def Env (w : World) : Prop := TabOK w
theorem gPowType : (Tryd.prog.globals[5]?).map (·.type) = some 171 := by kernel_rfl
theorem env_of {W : World} (hL : laidMet Tryd.prog Rows.fnExactVectorTextRow.laid W) (_hS : W.ShapedOpen Tryd.prog) : Env W :=
  Lib.tabIs_of_head (rest := []) gPow gPowType Tryd.underlying171 Tryd.underlying119 (by kernel_rfl) (by kernel_rfl) hL.tail.tail

set_option maxHeartbeats 1000000 in
theorem walk (w : World) (a0 b0 c0 : Int) (w0 : (Lit.int .i64 a0).wf = true) (x0 : (Lit.int .i64 b0).wf = true) (y0 : (Lit.int .i64 c0).wf = true) (henv : Env w) :
    Calls Tryd.prog 8 #[.agg #[.int .i64 a0, .int .i64 b0, .int .i64 c0]] w fun e w' => e = .returned (.bool true) ∧ Below w.heap.size w w' := by
  clear w0 x0 y0
  have F1 := Lib.hid (fun w => specVText_any a0 b0 c0 w)
  have F2 := Lib.hid (fun w ht => implVText_any a0 b0 c0 w ht)
  have E : Hid (TabOK w) := Lib.hid henv
  clear henv
  generalize vtxt a0 b0 c0 = r at *
  go_enter Tryd.func8, Tryd.ntmps8
  go_wp2_with fail
  refine (toVector_any a0 b0 c0 _).mono ?_
  rintro e w1w ⟨rfl, hb⟩
  have hsw1w := hb.size
  try simp at hsw1w
  obtain ⟨hcw1w, hfw1w⟩ := bcell hb
  have HBw1w : Hid (Below w.heap.size w w1w) := by
    apply Lib.hid
    refine Below.trans ?_ (hb.mono ?_)
    · repeat (first | exact Below.refl _ _ | refine Below.setCell ?_ (by first | (simp; done) | omega | (simp; omega)) _ | refine Below.alloc ?_ (by first | (simp; done) | omega | (simp; omega)) _)
    · first | (simp; done) | omega | (simp; omega)
  have hzw1w : w.heap.size < w1w.heap.size := by have := hb.size; (try simp at this); omega
  clear hb
  go_wp2_with fail
  refine (F1.out _).mono ?_
  rintro e w2w ⟨rfl, hb⟩
  have hsw2w := hb.size
  try simp at hsw2w
  obtain ⟨hcw2w, hfw2w⟩ := bcell hb
  have HBw2w : Hid (Below w.heap.size w w2w) := by
    apply Lib.hid
    refine Below.trans ?_ (hb.mono ?_)
    · repeat (first | exact Below.refl _ _ | exact HBw1w.out | refine Below.setCell ?_ (by first | (simp; done) | omega | (simp; omega)) _ | refine Below.alloc ?_ (by first | (simp; done) | omega | (simp; omega)) _)
    · first | (simp; done) | omega | (simp; omega)
  have hzw2w : w.heap.size < w2w.heap.size := by have := hb.size; (try simp at this); omega
  clear hb
  first | (have gsw2ww1w : w1w.heap.size < w2w.heap.size := by omega) | skip
  go_wp2_with fail
  refine (toVector_any a0 b0 c0 _).mono ?_
  rintro e w3w ⟨rfl, hb⟩
  have hsw3w := hb.size
  try simp at hsw3w
  obtain ⟨hcw3w, hfw3w⟩ := bcell hb
  have HBw3w : Hid (Below w.heap.size w w3w) := by
    apply Lib.hid
    refine Below.trans ?_ (hb.mono ?_)
    · repeat (first | exact Below.refl _ _ | exact HBw2w.out | refine Below.setCell ?_ (by first | (simp; done) | omega | (simp; omega)) _ | refine Below.alloc ?_ (by first | (simp; done) | omega | (simp; omega)) _)
    · first | (simp; done) | omega | (simp; omega)
  have hzw3w : w.heap.size < w3w.heap.size := by have := hb.size; (try simp at this); omega
  clear hb
  first | (have gsw3ww1w : w1w.heap.size < w3w.heap.size := by omega) | skip
  first | (have gsw3ww2w : w2w.heap.size < w3w.heap.size := by omega) | skip
  go_wp2_with fail
  refine (F2.out _ (E.out.below HBw3w.out)).mono ?_
  rintro e w4w ⟨rfl, hb⟩
  have HB4 := Lib.hid (HBw3w.out.trans (hb.mono HBw3w.out.size))
  clear hb
  go_wp2_with fail
  go_ret
  exact ⟨rfl, HB4.out⟩

set_option maxRecDepth 100000 in
theorem contract (H : Type) (enc : TypeId × Value → H) (W : World) (base : Nat) (args : Array Value) (ds gs : List (DataW H)) (before : List MemPlace)
    (hval : ∀ (j : Nat) t v, Tryd.f8.params[j]? = some t → args[j]? = some v → Value.okWide Tryd.prog W .any base t v)
    (hW : DataW.Whole enc Tryd.prog Tryd.f8.params.toList Rows.fnExactVectorTextSpec.vars false W args.toList ds gs before) (henv : Env W) :
    Calls Tryd.prog 8 args W fun e W' => ∃ v, e = .returned v ∧ Rows.fnExactVectorTextSpec.post enc Tryd.prog Tryd.f8 false true false false W args v W' := by
  have hW' := hW
  obtain ⟨p, q, hA0, hV, rfl, hfz, hnd⟩ := hW
  have hA : DataW.TrodAll enc Tryd.prog W 0 (fun _ => true) true Tryd.f8.params.toList args.toList ds p := hA0
  rw [Tryd.params8] at hA hval
  obtain ⟨v0, vs0, d0, ds0, p0, q0, hargs0, rfl, rfl, h0, r0⟩ := trodAll_cons hA
  obtain ⟨rfl, rfl, rfl⟩ := trodAll_nil r0
  obtain rfl : args = #[v0] := by cases args; simp_all
  obtain ⟨rfl, rfl⟩ := trodVars_none hV
  obtain ⟨va0, vb0, vc0, ya0, yb0, yc0, n0, rfl, rfl, rfl, ta0, tb0, tc0⟩ := Go.Joins.open_agg3 Tryd.underlying35 (by kernel_rfl) (by kernel_rfl) (hval 0 35 v0 rfl rfl) h0
  obtain ⟨a0, ea0, rfl, w0⟩ := DataW.trod_int Tryd.underlying2 ta0
  obtain ⟨b0, eb0, rfl, x0⟩ := DataW.trod_int Tryd.underlying2 tb0
  obtain ⟨c0, ec0, rfl, y0⟩ := DataW.trod_int Tryd.underlying2 tc0
  obtain rfl : va0 = .int .i64 a0 := by simpa using ea0
  obtain rfl : vb0 = .int .i64 b0 := by simpa using eb0
  obtain rfl : vc0 = .int .i64 c0 := by simpa using ec0
  clear hA0
  simp only [List.append_nil] at hW'
  refine (walk W a0 b0 c0 w0 x0 y0 henv).mono fun e W' ⟨he, hg⟩ => ?_
  subst he
  exact ⟨_, rfl, post_of_below (pa := []) (pv := []) hW' (fun _ _ _ => (trodAll_cons_mk (shut_bool Tryd.underlying4 _) trodAll_mk0)) (fun sp _ => (trodAll_cons_mk (Go.Joins.shut_agg3 (y0 := (.lit (.int .i64 a0), [])) (y1 := (.lit (.int .i64 b0), [])) (y2 := (.lit (.int .i64 c0), [])) Tryd.underlying35 (by kernel_rfl) (by kernel_rfl) ⟨1, trod_int_mk 0 Tryd.underlying2 w0⟩ ⟨1, trod_int_mk 0 Tryd.underlying2 x0⟩ ⟨1, trod_int_mk 0 Tryd.underlying2 y0⟩) trodAll_mk0)) (fun _ _ => rfl) rfl
    hg (ok_one (by kernel_rfl) rfl (okWide_bool_mk Tryd.underlying4 _))⟩

set_option maxRecDepth 100000 in
theorem laid_met (os : Os) : laidMetH Tryd.prog Rows.fnExactVectorTextRow.laid ((World.laidAll Tryd.prog os Rows.fnExactVectorTextRow.laid).forCall (fun _ _ => 0) ⟨#[], #[.agg #[.int .i64 0, .int .i64 0, .int .i64 0]], []⟩).memory := by
  rw [MakeChecks.laidMetH_plain _ _ _ (by kernel_rfl)]
  exact laidMet_laidAll _ (by kernel_rfl) (by kernel_rfl)
set_option maxRecDepth 100000 in
theorem reads (os : Os) {H : Type} (enc : TypeId × Value → H) : ∃ places, DataW.whole enc Tryd.prog ((World.laidAll Tryd.prog os Rows.fnExactVectorTextRow.laid).forCall (fun _ _ => 0) ⟨#[], #[.agg #[.int .i64 0, .int .i64 0, .int .i64 0]], []⟩).memory Tryd.f8.params.toList Rows.fnExactVectorTextSpec.vars false #[.agg #[.int .i64 0, .int .i64 0, .int .i64 0]].toList 8 = some ([.agg [.lit (.int .i64 0), .lit (.int .i64 0), .lit (.int .i64 0)]], [], places) :=
  ⟨[], by kernel_rfl⟩

set_option maxRecDepth 100000 in
theorem lifted (os : Os) (started : os.Started) (H : Type) (enc : TypeId × Value → H) (F : Stop.Interp) :
    ReturnsInHanded {} Tryd.checked os 8 .any ((OpenSpec.ofChange Rows.fnExactVectorTextSpec).preRow enc Tryd.prog Tryd.f8 Rows.fnExactVectorTextRow.domain false Rows.fnExactVectorTextRow.laid) (((OpenSpec.ofChange Rows.fnExactVectorTextSpec).at F).post enc Tryd.prog Tryd.f8 false true false false) := by
  obtain ⟨places, hx⟩ := reads os enc
  refine returnsInHanded_of_row (C := Tryd.checked) (s := OpenSpec.ofChange Rows.fnExactVectorTextSpec) own started (by kernel_rfl) Tryd.func8
    (witness_row_at (enc := enc) (C := Tryd.checked) false (World.laidAll Tryd.prog os Rows.fnExactVectorTextRow.laid) #[.agg #[.int .i64 0, .int .i64 0, .int .i64 0]] (World.laidAll_os _ _ _) (by kernel_rfl) (by kernel_rfl) (by kernel_rfl)
      (OpenSpec.preRow_of_cond 8 hx (by kernel_rfl) (fun k hk => by cases hk) (by kernel_rfl) (laid_met os))) ?_
  intro W base args ds gs before hval hW _ _ _ hL hS _
  rw [MakeChecks.laidMetH_plain _ _ _ (by kernel_rfl)] at hL
  exact contract H enc W base args ds gs before hval hW (env_of hL hS)

theorem said : Rows.FnExactVectorTextSaid :=
  OpenClaim.holds_of_cond 8 Tryd.f8 rfl rfl rfl rfl rfl rfl rfl ⟨rfl, rfl, rfl, rfl, rfl⟩ rfl rfl rfl rfl rfl (by kernel_rfl) Tryd.func8 (by kernel_rfl)
    (of_decide_eq_true (by kernel_rfl)) (by unfold Func.isWrapper; first | (rw [if_pos (by decide +kernel)]; kernel_rfl) | (rw [if_neg (by decide +kernel)]; exact ⟨rfl, rfl⟩))
    (fun os started H enc _ F => by rw [OpenClaim.pre_eq_preRow]; exact lifted os started H enc F)

theorem plain (f : FuncId) (fn : Func) (hf : Tryd.pinned.checked.prog.funcNamed "loop.example/g00955/laws.FnExactVectorText" = some f) (hfn : Tryd.pinned.checked.prog.funcs[f]? = some fn) :
    true = Tryd.pinned.checked.prog.looks [] ∧ ∀ (j : Nat) t, fn.params[j]? = some t → Tryd.pinned.checked.prog.wantsStandIn t = false := by
  obtain rfl : f = 8 := Option.some.inj ((show Tryd.prog.funcNamed "loop.example/g00955/laws.FnExactVectorText" = some 8 by kernel_rfl).symm.trans hf) |>.symm
  obtain rfl : fn = Tryd.f8 := (Option.some.inj (Tryd.func8.symm.trans hfn)).symm
  refine ⟨by kernel_rfl, fun j t ht => ?_⟩
  rw [Tryd.params8] at ht
  have hm : t ∈ [35] := by simpa using Array.mem_of_getElem? ht
  have hall : ([35].all fun u => !Tryd.prog.wantsStandIn u) = true := by kernel_rfl
  exact (show Tryd.prog.wantsStandIn t = false by simpa using List.all_eq_true.1 hall t hm)

theorem card : Rows.FnExactVectorTextCardSaid :=
  Claim7.holds_tied_plain_at .later [] _ _ _ _ said (fun _ h => by cases h) (by kernel_rfl) (fun _ h => by cases h) fnExactVectorText_row_tie rfl ⟨rfl, rfl⟩ (by kernel_rfl) rfl plain (by kernel_rfl)
#print axioms card
end Go.Proofs.YtnadgldgdmppkaaDoor.fnExactVectorText
