/-
  The law FnExactFigureText, with what its package variables hold tied to the program's text: for every input the call returns true, and each argument reads afterwards as it read before. No condition. (The card ties the listed variables to a pruned copy of the project: the packages that this seat's roots load.)
-/
import Derived.Test.YtikfcadookimeaaDoorCards
import Derived.Test.YtikfcadookimeaaDoorTie
import Derived.Test.YtikfcadookimeaaDoorPost
import Derived.Test.YtikfcadookimeaaDoorFigT
import Derived.Test.YtikfcadookimeaaDoorKeep
import Derived.WalkKit
import Derived.ProofKit
import Derived.OpenShut
import Derived.ChangeMaps5
import Derived.ChangeSlices
import Derived.Carry
import Derived.Lib.SmallJoins
import Derived.Deep.DeepHandedRow
import Derived.Deep.DeepWitnessRowRef
import Derived.Lay
import Derived.Lib.LaidTab
import Derived.Stop.LaidErr
import Derived.MakeChecks
import Derived.Lib.LaidU8
namespace Go.Proofs.YtikfcadookimeaaDoor.fnExactFigureText
open Go.ChangeShapes Go.WideShapes Go.ChangeAt Go.RowKit Go.ChangeMaps
set_option linter.unusedVariables false

theorem own : ownKnob Tryd.prog.godebug = none := by kernel_rfl

def Env (w : World) : Prop := TabOK w
theorem gPowType : (Tryd.prog.globals[3]?).map (·.type) = some 209 := by kernel_rfl
theorem env_of {W : World} (hL : laidMet Tryd.prog Rows.fnExactFigureTextRow.laid W) (_hS : W.ShapedOpen Tryd.prog) : Env W :=
  Lib.tabIs_of_head (rest := []) gPow gPowType Tryd.underlying209 Tryd.underlying179 (by kernel_rfl) (by kernel_rfl) hL.tail.tail

set_option maxHeartbeats 1000000 in
theorem walk (w : World) (s0 : ByteArray) (u0 : Value) (a0 : List (List Int)) (w0 : s0.size ≤ maxLen) (x0 : LinesIn w u0 a0) (n0 : a0.length ≤ 9223372036854775807) (henv : Env w) :
    Calls Tryd.prog 3 #[.agg #[.string s0, u0]] w fun e w' => e = .returned (.bool true) ∧ Below w.heap.size w w' := by
  have ZF := Lib.hid (fun w h => szFigure_any s0 u0 a0 1048576 (by omega) (by omega) w0 w h n0)
  have X0 := Lib.hid x0
  have FT : Hid (∀ j, (h : j < a0.length) → ∀ x ∈ a0[j], fits x) := Lib.hid (lines_fits x0)
  have W0 := Lib.hid w0
  clear x0 w0
  have E : Hid (TabOK w) := Lib.hid henv
  clear henv
  go_enter Tryd.func3, Tryd.ntmps3
  go_wp2_with fail
  refine (ZF.out _ (X0.out.below ((Below.refl _ w).alloc (Nat.le_refl _) _))).mono ?_
  rintro e w1 ⟨z, rfl, hz0, hz1, hz2, hb1⟩
  have QX1 := Lib.hid (box_keep (box_new w (.string s0) u0 24) hb1)
  have HB1 := Lib.hid (((Below.refl _ w).alloc (Nat.le_refl _) _).trans (hb1.mono (by simp)))
  obtain ⟨_, q0, q1⟩ := QX1.out
  by_cases hz : z < 0
  · clear hz2 hb1
    go_wp2_with fail
    go_ret
    exact ⟨rfl, HB1.out⟩
  · obtain ⟨hl0, hl1⟩ := hz2 (by omega)
    have X1 := Lib.hid (X0.out.below HB1.out)
    have TF := Lib.hid (fun w h => toFigure_any s0 u0 a0 w h hl0 hl1)
    have EF := Lib.hid (fun g g' bs bs' w h h' => eqFigure_any s0 g g' a0 bs bs' w (by omega) (fun j h => by have := hl1 j h; omega) h h')
    have F1 := Lib.hid (fun g bs w cap h => specFigT_any s0 g cap a0 bs w (by omega) (fun j h => by have := hl1 j h; omega) FT.out h)
    have F2 := Lib.hid (fun g bs w cap h ht => implFigT_any s0 W0.out g cap a0 bs w (by omega) (fun j h => by have := hl1 j h; omega) h ht)
    generalize figTxt s0 a0 = r at *
    have rr1 : (r.toList != r.toList) = false := by simp
    have rr2 : (r.toList == r.toList) = true := by simp
    go_wp2_with fail
    refine (TF.out _ X1.out).mono ?_
    rintro e w2 ⟨g1, bs1, rfl, hA, hb2⟩
    have X2 := Lib.hid (X1.out.below hb2)
    have HB2 := Lib.hid (HB1.out.trans (hb2.mono HB1.out.size))
    have QX2 := Lib.hid (box_keep QX1.out hb2)
    clear q0 q1
    obtain ⟨_, q0, q1⟩ := QX2.out
    clear hb2
    have A2 := Lib.hid hA
    clear hA
    go_wp2_with fail
    refine (F1.out _ _ _ _ A2.out).mono ?_
    rintro e w3 ⟨rfl, hb3⟩
    have X3 := Lib.hid (X2.out.below hb3)
    have HB3 := Lib.hid (HB2.out.trans (hb3.mono HB2.out.size))
    have QX3 := Lib.hid (box_keep QX2.out hb3)
    clear q0 q1
    obtain ⟨_, q0, q1⟩ := QX3.out
    clear hb3
    go_wp2_with fail
    refine (TF.out _ X3.out).mono ?_
    rintro e w4 ⟨g2, bs2, rfl, hA, hb4⟩
    have X4 := Lib.hid (X3.out.below hb4)
    have HB4 := Lib.hid (HB3.out.trans (hb4.mono HB3.out.size))
    have QX4 := Lib.hid (box_keep QX3.out hb4)
    clear q0 q1
    obtain ⟨_, q0, q1⟩ := QX4.out
    clear hb4
    have A4 := Lib.hid hA
    clear hA
    go_wp2_with fail
    obtain ⟨w5, hw5⟩ : ∃ W, W = w4.alloc (Obj.cells #[Value.string s0, Value.slice (some { block := g2, off := 0 }) a0.length a0.length] 27) := ⟨_, rfl⟩
    rw [← hw5]
    have hb5 : Below w4.heap.size w4 w5 := by rw [hw5]; exact (Below.refl _ _).alloc (Nat.le_refl _) _
    have QY5 := Lib.hid (box_new w4 (.string s0) (.slice (some ⟨g2, 0, none⟩) a0.length a0.length) 27)
    rw [← hw5] at QY5
    clear hw5
    obtain ⟨_, p0, p1⟩ := QY5.out
    have X5 := Lib.hid (X4.out.below hb5)
    have A5 := Lib.hid (A4.out.below hb5)
    have HB5 := Lib.hid (HB4.out.trans (hb5.mono HB4.out.size))
    have QX5 := Lib.hid (box_keep QX4.out hb5)
    clear q0 q1 hb5
    obtain ⟨_, q0, q1⟩ := QX5.out
    refine (F2.out _ _ _ _ A5.out (E.out.below HB5.out)).mono ?_
    rintro e w6 ⟨rfl, hb6⟩
    have X6 := Lib.hid (X5.out.below hb6)
    have A6 := Lib.hid (A5.out.below hb6)
    have HB6 := Lib.hid (HB5.out.trans (hb6.mono HB5.out.size))
    have QX6 := Lib.hid (box_keep QX5.out hb6)
    clear q0 q1
    obtain ⟨_, q0, q1⟩ := QX6.out
    have QY6 := Lib.hid (box_keep QY5.out hb6)
    clear p0 p1
    obtain ⟨_, p0, p1⟩ := QY6.out
    clear hb6
    have KB : Hid (w6.cell? ⟨w.heap.size, 0, none⟩ = some (.string s0) ∧ w6.cell? ⟨w.heap.size, 1, none⟩ = some u0 ∧ w6.cell? ⟨w4.heap.size, 0, none⟩ = some (.string s0) ∧ w6.cell? ⟨w4.heap.size, 1, none⟩ = some (.slice (some ⟨g2, 0, none⟩) a0.length a0.length) ∧ Below w.heap.size w w6) := Lib.hid ⟨q0, q1, p0, p1, HB6.out⟩
    clear q0 q1 p0 p1
    go_wp2_with fail
    go_region_held3 (fun W => W.cell? ⟨w.heap.size, 0, none⟩ = some (.string s0) ∧ W.cell? ⟨w.heap.size, 1, none⟩ = some u0 ∧ W.cell? ⟨w4.heap.size, 0, none⟩ = some (.string s0) ∧ W.cell? ⟨w4.heap.size, 1, none⟩ = some (.slice (some ⟨g2, 0, none⟩) a0.length a0.length) ∧ Below w.heap.size w W) (first | (exact keepW4 KB.out (drewG w6)) | (exact keepW4 KB.out z2) | (exact keepW4 KB.out z1) | go_keep) ((first
      | (go_at_call 11; refine (TF.out _ (X6.out.below (drewG w6))).mono ?_; rintro e u1 ⟨g3, bs3, rfl, hC, hu1⟩; have z1 := undrewG hu1)
      | (go_at_call 13; refine (EF.out _ _ _ _ _ (A6.out.below z1) hC).mono ?_; rintro e u2 ⟨rfl, hu2⟩; have z2 := z1.trans (hu2.mono z1.size))))
    rename_i held
    have HB7 := Lib.hid held.2.2.2.2
    clear held KB
    go_wp2_with fail
    go_ret
    exact ⟨rfl, HB7.out⟩

set_option maxRecDepth 100000 in
theorem contract (H : Type) (enc : TypeId × Value → H) (W : World) (base : Nat) (args : Array Value) (ds gs : List (DataW H)) (before : List MemPlace)
    (hval : ∀ (j : Nat) t v, Tryd.f3.params[j]? = some t → args[j]? = some v → Value.okWide Tryd.prog W .any base t v)
    (hW : DataW.Whole enc Tryd.prog Tryd.f3.params.toList Rows.fnExactFigureTextSpec.vars false W args.toList ds gs before) (henv : Env W) :
    Calls Tryd.prog 3 args W fun e W' => ∃ v, e = .returned v ∧ Rows.fnExactFigureTextSpec.post enc Tryd.prog Tryd.f3 false true false false W args v W' := by
  have hW' := hW
  obtain ⟨p, q, hA0, hV, rfl, hfz, hnd⟩ := hW
  have hA : DataW.TrodAll enc Tryd.prog W 0 (fun _ => true) true Tryd.f3.params.toList args.toList ds p := hA0
  rw [Tryd.params3] at hA hval
  obtain ⟨v0, vs0, d0, ds0, p0, q0, hargs0, rfl, rfl, h0, r0⟩ := trodAll_cons hA
  obtain ⟨rfl, rfl, rfl⟩ := trodAll_nil r0
  obtain rfl : args = #[v0] := by cases args; simp_all
  obtain ⟨rfl, rfl⟩ := trodVars_none hV
  have h0k := h0
  obtain ⟨s0, u0, a0, rfl, w0, x0, n0⟩ := figure_open (hval 0 24 v0 rfl rfl) h0
  clear hA0
  have hltp : ∀ x ∈ p0 ++ [] ++ [], x.block < W.heap.size := fun x hx => hW'.lt x hx
  refine (walk W s0 u0 a0 w0 x0 n0 henv).mono fun e W' ⟨he, hg⟩ => ?_
  subst he
  exact ⟨_, rfl, post_of_below (pa := p0 ++ []) (pv := []) hW' (fun _ _ _ => (trodAll_cons_mk (shut_bool Tryd.underlying4 _) trodAll_mk0)) (fun sp hsp => (trodAll_cons_mk (WideElems.Trod_stays (by kernel_rfl) (by kernel_rfl) (of_decide_eq_true (by kernel_rfl)) h0k (fun x hx => hg.same (hltp x (by simp [hx]))) (fun x hx => hsp x (by simp [hx]))) trodAll_mk0)) (fun _ _ => rfl) rfl
    hg (ok_one (by kernel_rfl) rfl (okWide_bool_mk Tryd.underlying4 _))⟩

set_option maxRecDepth 100000 in
theorem laid_met (os : Os) : laidMetH Tryd.prog Rows.fnExactFigureTextRow.laid ((World.laidAll Tryd.prog os Rows.fnExactFigureTextRow.laid).forCall (fun _ _ => 0) ⟨#[], #[.agg #[.string ByteArray.empty, .slice none 0 0]], []⟩).memory := by
  rw [MakeChecks.laidMetH_plain _ _ _ (by kernel_rfl)]
  exact laidMet_laidAll _ (by kernel_rfl) (by kernel_rfl)
set_option maxRecDepth 100000 in
theorem reads (os : Os) {H : Type} (enc : TypeId × Value → H) : ∃ places, DataW.whole enc Tryd.prog ((World.laidAll Tryd.prog os Rows.fnExactFigureTextRow.laid).forCall (fun _ _ => 0) ⟨#[], #[.agg #[.string ByteArray.empty, .slice none 0 0]], []⟩).memory Tryd.f3.params.toList Rows.fnExactFigureTextSpec.vars false #[.agg #[.string ByteArray.empty, .slice none 0 0]].toList 8 = some ([.agg [.lit (.string []), .nil]], [], places) :=
  ⟨[], by kernel_rfl⟩

set_option maxRecDepth 100000 in
theorem lifted (os : Os) (started : os.Started) (H : Type) (enc : TypeId × Value → H) (F : Stop.Interp) :
    ReturnsInHanded {} Tryd.checked os 3 .any ((OpenSpec.ofChange Rows.fnExactFigureTextSpec).preRow enc Tryd.prog Tryd.f3 Rows.fnExactFigureTextRow.domain false Rows.fnExactFigureTextRow.laid) (((OpenSpec.ofChange Rows.fnExactFigureTextSpec).at F).post enc Tryd.prog Tryd.f3 false true false false) := by
  obtain ⟨places, hx⟩ := reads os enc
  refine returnsInHanded_of_row (C := Tryd.checked) (s := OpenSpec.ofChange Rows.fnExactFigureTextSpec) own started (by kernel_rfl) Tryd.func3
    (witness_row_at (enc := enc) (C := Tryd.checked) false (World.laidAll Tryd.prog os Rows.fnExactFigureTextRow.laid) #[.agg #[.string ByteArray.empty, .slice none 0 0]] (World.laidAll_os _ _ _) (by kernel_rfl) (by kernel_rfl) (by kernel_rfl)
      (OpenSpec.preRow_of_cond 8 hx (by kernel_rfl) (fun k hk => by cases hk) (by kernel_rfl) (laid_met os))) ?_
  intro W base args ds gs before hval hW _ _ _ hL hS _
  rw [MakeChecks.laidMetH_plain _ _ _ (by kernel_rfl)] at hL
  exact contract H enc W base args ds gs before hval hW (env_of hL hS)

theorem said : Rows.FnExactFigureTextSaid :=
  OpenClaim.holds_of_cond 3 Tryd.f3 rfl rfl rfl rfl rfl rfl rfl ⟨rfl, rfl, rfl, rfl, rfl⟩ rfl rfl rfl rfl rfl (by kernel_rfl) Tryd.func3 (by kernel_rfl)
    (of_decide_eq_true (by kernel_rfl)) (by unfold Func.isWrapper; first | (rw [if_pos (by decide +kernel)]; kernel_rfl) | (rw [if_neg (by decide +kernel)]; exact ⟨rfl, rfl⟩))
    (fun os started H enc _ F => by rw [OpenClaim.pre_eq_preRow]; exact lifted os started H enc F)

theorem plain (f : FuncId) (fn : Func) (hf : Tryd.pinned.checked.prog.funcNamed "loop.example/g00955/laws.FnExactFigureText" = some f) (hfn : Tryd.pinned.checked.prog.funcs[f]? = some fn) :
    true = Tryd.pinned.checked.prog.looks [] ∧ ∀ (j : Nat) t, fn.params[j]? = some t → Tryd.pinned.checked.prog.wantsStandIn t = false := by
  obtain rfl : f = 3 := Option.some.inj ((show Tryd.prog.funcNamed "loop.example/g00955/laws.FnExactFigureText" = some 3 by kernel_rfl).symm.trans hf) |>.symm
  obtain rfl : fn = Tryd.f3 := (Option.some.inj (Tryd.func3.symm.trans hfn)).symm
  refine ⟨by kernel_rfl, fun j t ht => ?_⟩
  rw [Tryd.params3] at ht
  have hm : t ∈ [24] := by simpa using Array.mem_of_getElem? ht
  have hall : ([24].all fun u => !Tryd.prog.wantsStandIn u) = true := by kernel_rfl
  exact (show Tryd.prog.wantsStandIn t = false by simpa using List.all_eq_true.1 hall t hm)

theorem card : Rows.FnExactFigureTextCardSaid :=
  Claim7.holds_tied_plain_at .later [] _ _ _ _ said (fun _ h => by cases h) (by kernel_rfl) (fun _ h => by cases h) fnExactFigureText_row_tie rfl ⟨rfl, rfl⟩ (by kernel_rfl) rfl plain (by kernel_rfl)
#print axioms card
end Go.Proofs.YtikfcadookimeaaDoor.fnExactFigureText
