/-
  The law FnExactStarText, with what its package variables hold tied to the program's text: for every input the call returns true, and each argument reads afterwards as it read before. No condition. (The card ties the listed variables to a pruned copy of the project: the packages that this seat's roots load.)
-/
import Derived.Test.YtjghopepgfgebaaDoorCards
import Derived.Test.YtjghopepgfgebaaDoorTie
import Derived.Test.YtjghopepgfgebaaDoorPost
import Derived.Test.YtjghopepgfgebaaDoorStTxt
import Derived.WalkKit
import Derived.ProofKit
import Derived.OpenShut
import Derived.ChangeMaps5
import Derived.ChangeSlices
import Derived.Carry
import Derived.Lib.SmallJoins
import Derived.Deep.DeepHandedRow
import Derived.Deep.DeepWitnessRowRef
import Derived.Lay
import Derived.Lib.LaidTab
import Derived.Stop.LaidErr
import Derived.MakeChecks
import Derived.Lib.LaidU8
namespace Go.Proofs.YtjghopepgfgebaaDoor.fnExactStarText
open Go.ChangeShapes Go.WideShapes Go.ChangeAt Go.RowKit Go.ChangeMaps
set_option linter.unusedVariables false

theorem own : ownKnob Tryd.prog.godebug = none := by kernel_rfl

def Env (w : World) : Prop := TabOK w
theorem gPowType : (Tryd.prog.globals[2]?).map (·.type) = some 161 := by kernel_rfl
theorem env_of {W : World} (hL : laidMet Tryd.prog Rows.fnExactStarTextRow.laid W) (_hS : W.ShapedOpen Tryd.prog) : Env W :=
  Lib.tabIs_of_head (rest := []) gPow gPowType Tryd.underlying161 Tryd.underlying84 (by kernel_rfl) (by kernel_rfl) hL.tail.tail

set_option maxRecDepth 100000 in
set_option maxHeartbeats 8000000 in
theorem walk (w : World) (s0 : ByteArray) (a0 b0 c0 d0 : Int) (w0 : StarOk s0 a0 b0 c0 d0) (henv : Env w) :
    Calls Tryd.prog 6 #[.agg #[.string s0, .int .i64 a0, .int .i64 b0, .int .i64 c0, .int .i64 d0]] w fun e w' => e = .returned (.bool true) ∧ Below w.heap.size w w' := by
  have hm0 : s0.size ≤ maxLen := w0.1
  have F1 := Lib.hid (fun w => specStT_any s0 a0 b0 c0 d0  w)
  have F2 := Lib.hid (fun w hs => implStT_any s0 a0 b0 c0 d0 hm0 w hs)
  have E : Hid (TabOK w) := Lib.hid henv
  clear henv
  generalize sttxt s0 a0 b0 c0 d0 = q at *
  clear w0
  have Z0 := Lib.hid (fun w => szStar_any s0 a0 b0 c0 d0 1048576 (by omega) (by omega) hm0 w)
  have lz0 := szN_le s0 1048576 (by omega)
  by_cases hz0 : szN s0 1048576 < 0
  · generalize szN s0 1048576 = z0 at *
    go_enter Tryd.func6, Tryd.ntmps6
    go_wp2_with fail
    refine (Z0.out _).mono ?_
    rintro e w1w ⟨rfl, hb⟩
    have hsw1w := hb.size
    try simp at hsw1w
    obtain ⟨hcw1w, hfw1w⟩ := bcell hb
    have HBw1w : Hid (Below w.heap.size w w1w) := by
      apply Lib.hid
      refine Below.trans ?_ (hb.mono ?_)
      · repeat (first | exact Below.refl _ _ | refine Below.setCell ?_ (by first | (simp; done) | omega | (simp; omega)) _ | refine Below.alloc ?_ (by first | (simp; done) | omega | (simp; omega)) _)
      · first | (simp; done) | omega | (simp; omega)
    have hzw1w : w.heap.size < w1w.heap.size := by have := hb.size; (try simp at this); omega
    clear hb
    go_wp2_with fail
    go_ret
    refine ⟨rfl, ?_⟩
    repeat (first | exact Below.refl _ _ | exact HBw1w.out | refine Below.setCell ?_ (by first | (simp; done) | omega | (simp; omega)) _ | refine Below.alloc ?_ (by first | (simp; done) | omega | (simp; omega)) _ | refine bel_drew ?_)
  · generalize szN s0 1048576 = z0 at *
    go_enter Tryd.func6, Tryd.ntmps6
    go_wp2_with fail
    refine (Z0.out _).mono ?_
    rintro e w1w ⟨rfl, hb⟩
    have hsw1w := hb.size
    try simp at hsw1w
    obtain ⟨hcw1w, hfw1w⟩ := bcell hb
    have HBw1w : Hid (Below w.heap.size w w1w) := by
      apply Lib.hid
      refine Below.trans ?_ (hb.mono ?_)
      · repeat (first | exact Below.refl _ _ | refine Below.setCell ?_ (by first | (simp; done) | omega | (simp; omega)) _ | refine Below.alloc ?_ (by first | (simp; done) | omega | (simp; omega)) _)
      · first | (simp; done) | omega | (simp; omega)
    have hzw1w : w.heap.size < w1w.heap.size := by have := hb.size; (try simp at this); omega
    clear hb
    go_wp2_with fail
    refine (toStar_any s0 a0 b0 c0 d0 _).mono ?_
    rintro e w2w ⟨rfl, hb⟩
    have hsw2w := hb.size
    try simp at hsw2w
    obtain ⟨hcw2w, hfw2w⟩ := bcell hb
    have HBw2w : Hid (Below w.heap.size w w2w) := by
      apply Lib.hid
      refine Below.trans ?_ (hb.mono ?_)
      · repeat (first | exact Below.refl _ _ | exact HBw1w.out | refine Below.setCell ?_ (by first | (simp; done) | omega | (simp; omega)) _ | refine Below.alloc ?_ (by first | (simp; done) | omega | (simp; omega)) _)
      · first | (simp; done) | omega | (simp; omega)
    have hzw2w : w.heap.size < w2w.heap.size := by have := hb.size; (try simp at this); omega
    clear hb
    first | (have gsw2ww1w : w1w.heap.size < w2w.heap.size := by omega) | skip
    go_wp2_with fail
    refine (F1.out _).mono ?_
    rintro e w3w ⟨rfl, hb⟩
    have hsw3w := hb.size
    try simp at hsw3w
    obtain ⟨hcw3w, hfw3w⟩ := bcell hb
    have HBw3w : Hid (Below w.heap.size w w3w) := by
      apply Lib.hid
      refine Below.trans ?_ (hb.mono ?_)
      · repeat (first | exact Below.refl _ _ | exact HBw2w.out | refine Below.setCell ?_ (by first | (simp; done) | omega | (simp; omega)) _ | refine Below.alloc ?_ (by first | (simp; done) | omega | (simp; omega)) _)
      · first | (simp; done) | omega | (simp; omega)
    have hzw3w : w.heap.size < w3w.heap.size := by have := hb.size; (try simp at this); omega
    clear hb
    first | (have gsw3ww1w : w1w.heap.size < w3w.heap.size := by omega) | skip
    first | (have gsw3ww2w : w2w.heap.size < w3w.heap.size := by omega) | skip
    go_wp2_with fail
    refine (toStar_any s0 a0 b0 c0 d0 _).mono ?_
    rintro e w4w ⟨rfl, hb⟩
    have hsw4w := hb.size
    try simp at hsw4w
    obtain ⟨hcw4w, hfw4w⟩ := bcell hb
    have HBw4w : Hid (Below w.heap.size w w4w) := by
      apply Lib.hid
      refine Below.trans ?_ (hb.mono ?_)
      · repeat (first | exact Below.refl _ _ | exact HBw3w.out | refine Below.setCell ?_ (by first | (simp; done) | omega | (simp; omega)) _ | refine Below.alloc ?_ (by first | (simp; done) | omega | (simp; omega)) _)
      · first | (simp; done) | omega | (simp; omega)
    have hzw4w : w.heap.size < w4w.heap.size := by have := hb.size; (try simp at this); omega
    clear hb
    first | (have gsw4ww1w : w1w.heap.size < w4w.heap.size := by omega) | skip
    first | (have gsw4ww2w : w2w.heap.size < w4w.heap.size := by omega) | skip
    first | (have gsw4ww3w : w3w.heap.size < w4w.heap.size := by omega) | skip
    go_wp2_with fail
    refine (F2.out _ (E.out.below (by repeat (first | exact Below.refl _ _ | exact HBw4w.out | refine Below.setCell ?_ (by first | (simp; done) | omega | (simp; omega)) _ | refine Below.alloc ?_ (by first | (simp; done) | omega | (simp; omega)) _ | refine bel_drew ?_)))).mono ?_
    rintro e w5w ⟨rfl, hb⟩
    have hsw5w := hb.size
    try simp at hsw5w
    obtain ⟨hcw5w, hfw5w⟩ := bcell hb
    have HBw5w : Hid (Below w.heap.size w w5w) := by
      apply Lib.hid
      refine Below.trans ?_ (hb.mono ?_)
      · repeat (first | exact Below.refl _ _ | exact HBw4w.out | refine Below.setCell ?_ (by first | (simp; done) | omega | (simp; omega)) _ | refine Below.alloc ?_ (by first | (simp; done) | omega | (simp; omega)) _)
      · first | (simp; done) | omega | (simp; omega)
    have hzw5w : w.heap.size < w5w.heap.size := by have := hb.size; (try simp at this); omega
    clear hb
    first | (have gsw5ww1w : w1w.heap.size < w5w.heap.size := by omega) | skip
    first | (have gsw5ww2w : w2w.heap.size < w5w.heap.size := by omega) | skip
    first | (have gsw5ww3w : w3w.heap.size < w5w.heap.size := by omega) | skip
    first | (have gsw5ww4w : w4w.heap.size < w5w.heap.size := by omega) | skip
    go_wp2_with fail
    go_ret
    refine ⟨rfl, ?_⟩
    repeat (first | exact Below.refl _ _ | exact HBw5w.out | refine Below.setCell ?_ (by first | (simp; done) | omega | (simp; omega)) _ | refine Below.alloc ?_ (by first | (simp; done) | omega | (simp; omega)) _ | refine bel_drew ?_)

set_option maxRecDepth 100000 in
set_option maxHeartbeats 2000000 in
theorem contract (H : Type) (enc : TypeId × Value → H) (W : World) (base : Nat) (args : Array Value) (ds gs : List (DataW H)) (before : List MemPlace)
    (hval : ∀ (j : Nat) t v, Tryd.f6.params[j]? = some t → args[j]? = some v → Value.okWide Tryd.prog W .any base t v)
    (hW : DataW.Whole enc Tryd.prog Tryd.f6.params.toList Rows.fnExactStarTextSpec.vars false W args.toList ds gs before) (henv : Env W) :
    Calls Tryd.prog 6 args W fun e W' => ∃ v, e = .returned v ∧ Rows.fnExactStarTextSpec.post enc Tryd.prog Tryd.f6 false true false false W args v W' := by
  have hW' := hW
  obtain ⟨p, q, hA0, hV, rfl, hfz, hnd⟩ := hW
  have hA : DataW.TrodAll enc Tryd.prog W 0 (fun _ => true) true Tryd.f6.params.toList args.toList ds p := hA0
  rw [Tryd.params6] at hA hval
  obtain ⟨v0, vs0, d0, ds0, p0, q0, hargs0, rfl, rfl, h0, r0⟩ := trodAll_cons hA
  obtain ⟨rfl, rfl, rfl⟩ := trodAll_nil r0
  obtain rfl : args = #[v0] := by cases args; simp_all
  obtain ⟨rfl, rfl⟩ := trodVars_none hV
  have h0k := h0
  obtain ⟨s0, a0, b0, c0, d0, rfl, w0⟩ := star_open (hval 0 42 v0 rfl rfl) h0
  clear hA0
  have hltp : ∀ x ∈ p0 ++ [] ++ [], x.block < W.heap.size := fun x hx => hW'.lt x hx
  refine (walk W s0 a0 b0 c0 d0 w0 henv).mono fun e W' ⟨he, hg⟩ => ?_
  subst he
  exact ⟨_, rfl, post_of_below (pa := p0 ++ []) (pv := []) hW' (fun _ _ _ => (trodAll_cons_mk (shut_bool Tryd.underlying4 _) trodAll_mk0)) (fun sp hsp => (trodAll_cons_mk (WideElems.Trod_stays (by kernel_rfl) (by kernel_rfl) (of_decide_eq_true (by kernel_rfl)) h0k (fun x hx => hg.same (hltp x (by simp [hx]))) (fun x hx => hsp x (by simp [hx]))) trodAll_mk0)) (fun _ _ => rfl) rfl
    hg (ok_one (by kernel_rfl) rfl (okWide_bool_mk Tryd.underlying4 _))⟩

set_option maxRecDepth 100000 in
theorem laid_met (os : Os) : laidMetH Tryd.prog Rows.fnExactStarTextRow.laid ((World.laidAll Tryd.prog os Rows.fnExactStarTextRow.laid).forCall (fun _ _ => 0) ⟨#[], #[.agg #[.string ByteArray.empty, .int .i64 0, .int .i64 0, .int .i64 0, .int .i64 0]], []⟩).memory := by
  rw [MakeChecks.laidMetH_plain _ _ _ (by kernel_rfl)]
  exact laidMet_laidAll _ (by kernel_rfl) (by kernel_rfl)
set_option maxRecDepth 100000 in
theorem reads (os : Os) {H : Type} (enc : TypeId × Value → H) : ∃ places, DataW.whole enc Tryd.prog ((World.laidAll Tryd.prog os Rows.fnExactStarTextRow.laid).forCall (fun _ _ => 0) ⟨#[], #[.agg #[.string ByteArray.empty, .int .i64 0, .int .i64 0, .int .i64 0, .int .i64 0]], []⟩).memory Tryd.f6.params.toList Rows.fnExactStarTextSpec.vars false #[.agg #[.string ByteArray.empty, .int .i64 0, .int .i64 0, .int .i64 0, .int .i64 0]].toList 8 = some ([.agg [.lit (.string []), .lit (.int .i64 0), .lit (.int .i64 0), .lit (.int .i64 0), .lit (.int .i64 0)]], [], places) :=
  ⟨[], by kernel_rfl⟩

set_option maxRecDepth 100000 in
theorem lifted (os : Os) (started : os.Started) (H : Type) (enc : TypeId × Value → H) (F : Stop.Interp) :
    ReturnsInHanded {} Tryd.checked os 6 .any ((OpenSpec.ofChange Rows.fnExactStarTextSpec).preRow enc Tryd.prog Tryd.f6 Rows.fnExactStarTextRow.domain false Rows.fnExactStarTextRow.laid) (((OpenSpec.ofChange Rows.fnExactStarTextSpec).at F).post enc Tryd.prog Tryd.f6 false true false false) := by
  obtain ⟨places, hx⟩ := reads os enc
  refine returnsInHanded_of_row (C := Tryd.checked) (s := OpenSpec.ofChange Rows.fnExactStarTextSpec) own started (by kernel_rfl) Tryd.func6
    (witness_row_at (enc := enc) (C := Tryd.checked) false (World.laidAll Tryd.prog os Rows.fnExactStarTextRow.laid) #[.agg #[.string ByteArray.empty, .int .i64 0, .int .i64 0, .int .i64 0, .int .i64 0]] (World.laidAll_os _ _ _) (by kernel_rfl) (by kernel_rfl) (by kernel_rfl)
      (OpenSpec.preRow_of_cond 8 hx (by kernel_rfl) (fun k hk => by cases hk) (by kernel_rfl) (laid_met os))) ?_
  intro W base args ds gs before hval hW _ _ _ hL hS _
  rw [MakeChecks.laidMetH_plain _ _ _ (by kernel_rfl)] at hL
  exact contract H enc W base args ds gs before hval hW (env_of hL hS)

theorem said : Rows.FnExactStarTextSaid :=
  OpenClaim.holds_of_cond 6 Tryd.f6 rfl rfl rfl rfl rfl rfl rfl ⟨rfl, rfl, rfl, rfl, rfl⟩ rfl rfl rfl rfl rfl (by kernel_rfl) Tryd.func6 (by kernel_rfl)
    (of_decide_eq_true (by kernel_rfl)) (by unfold Func.isWrapper; first | (rw [if_pos (by decide +kernel)]; kernel_rfl) | (rw [if_neg (by decide +kernel)]; exact ⟨rfl, rfl⟩))
    (fun os started H enc _ F => by rw [OpenClaim.pre_eq_preRow]; exact lifted os started H enc F)

theorem plain (f : FuncId) (fn : Func) (hf : Tryd.pinned.checked.prog.funcNamed "loop.example/g00955/laws.FnExactStarText" = some f) (hfn : Tryd.pinned.checked.prog.funcs[f]? = some fn) :
    true = Tryd.pinned.checked.prog.looks [] ∧ ∀ (j : Nat) t, fn.params[j]? = some t → Tryd.pinned.checked.prog.wantsStandIn t = false := by
  obtain rfl : f = 6 := Option.some.inj ((show Tryd.prog.funcNamed "loop.example/g00955/laws.FnExactStarText" = some 6 by kernel_rfl).symm.trans hf) |>.symm
  obtain rfl : fn = Tryd.f6 := (Option.some.inj (Tryd.func6.symm.trans hfn)).symm
  refine ⟨by kernel_rfl, fun j t ht => ?_⟩
  rw [Tryd.params6] at ht
  have hm : t ∈ [42] := by simpa using Array.mem_of_getElem? ht
  have hall : ([42].all fun u => !Tryd.prog.wantsStandIn u) = true := by kernel_rfl
  exact (show Tryd.prog.wantsStandIn t = false by simpa using List.all_eq_true.1 hall t hm)

theorem card : Rows.FnExactStarTextCardSaid :=
  Claim7.holds_tied_plain_at .later [] _ _ _ _ said (fun _ h => by cases h) (by kernel_rfl) (fun _ h => by cases h) fnExactStarText_row_tie rfl ⟨rfl, rfl⟩ (by kernel_rfl) rfl plain (by kernel_rfl)
#print axioms card
end Go.Proofs.YtjghopepgfgebaaDoor.fnExactStarText
