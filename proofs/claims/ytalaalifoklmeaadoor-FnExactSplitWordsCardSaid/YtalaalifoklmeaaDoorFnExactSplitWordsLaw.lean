/-
  The law FnExactSplitWords, with what its package variables hold tied to the program's text: for every input the call returns true, and each argument reads afterwards as it read before. No condition. (The card ties the listed variables to a pruned copy of the project: the packages that this seat's roots load.)
-/
import Derived.Test.YtalaalifoklmeaaDoorCards
import Derived.Test.YtalaalifoklmeaaDoorTie
import Derived.Test.YtalaalifoklmeaaDoorPost
import Derived.Test.YtalaalifoklmeaaDoorStrS
import Derived.WalkKit
import Derived.ProofKit
import Derived.OpenShut
import Derived.ChangeMaps5
import Derived.Lib.SmallJoins
import Derived.Deep.DeepHandedRow
import Derived.Deep.DeepWitnessRowRef
import Derived.Lay
import Derived.Lib.LaidTab
import Derived.Stop.LaidErr
import Derived.MakeChecks
import Derived.Lib.LaidU8
namespace Go.Proofs.YtalaalifoklmeaaDoor.fnExactSplitWords
open Go.ChangeShapes Go.WideShapes Go.ChangeAt Go.RowKit Go.ChangeMaps
set_option linter.unusedVariables false

theorem own : ownKnob Tryd.prog.godebug = none := by kernel_rfl

def Env (w : World) : Prop := LenOK w
theorem env_of {W : World} (_hL : laidMet Tryd.prog Rows.fnExactSplitWordsRow.laid W) (hS : W.ShapedOpen Tryd.prog) : Env W := Tryd.laysM146.s1_3 W hS

set_option maxHeartbeats 1000000 in
theorem walk (w : World) (a0 : ByteArray) (w0 : a0.size ≤ maxLen) (henv : Env w) :
    Calls Tryd.prog 6 #[.string a0] w fun e w' => e = .returned (.bool true) ∧ Below w.heap.size w w' := by
  have hlen : LenOK w := henv
  clear henv
  by_cases hbig : 1048576 < a0.size
  · have h1 : decide ((1048576 : Int) < (a0.size : Int)) = true := by simp; omega
    go_enter Tryd.func6, Tryd.ntmps6
    go_wp2_with fail
    go_ret
    exact ⟨rfl, Below.refl _ _⟩
  · have h1 : decide ((1048576 : Int) < (a0.size : Int)) = false := by simp; omega
    have hzl := words_len a0 (by omega)
    have IMP := Lib.hid (implWords_any a0)
    go_enter Tryd.func6, Tryd.ntmps6
    go_wp2_with fail
    refine (specWords_any a0 w (by omega)).mono ?_
    rintro e w1 ⟨v, rfl, ho1, hb1⟩
    go_wp2_with fail
    refine (implWords_any a0 w1 (by omega) (hlen.below hb1)).mono ?_
    rintro e w2 ⟨u, rfl, ho2, hb2⟩
    have L1 := Lib.hid (hlen.below hb1)
    clear hlen
    generalize hz : bs (wordsI a0.data.toList) = zs at *
    have HZ := Lib.hid hz
    clear hz
    go_wp2_with fail
    refine (eqS_same (by omega) ho2 (ownsRow_below ho1 hb2)).mono ?_
    rintro e w3 ⟨rfl, q, rfl⟩
    go_wp2_with fail
    refine (markS_any 1 1 rfl (by omega) (by omega) (by omega) (owns_drewN ho2 q) hb2.size).mono ?_
    rintro e w4 ⟨rfl, ho4, hb4⟩
    have hb14 : Below w1.heap.size w1 w4 := (bel_drewN hb2 q).trans hb4
    have hov := ownsRow_below ho1 hb14
    clear ho1 ho2 hb2 hb4
    go_wp2_with fail
    refine (heldS_any 1 1 rfl (by omega) (by omega) (by omega) ho4).mono ?_
    rintro e w5 ⟨rfl, hb5⟩
    have hov5 := ownsRow_below hov hb5
    have ho5 := ownsRow_below ho4 hb5
    have hb15 : Below w1.heap.size w1 w5 := hb14.trans (hb5.mono hb14.size)
    clear hov ho4 hb14 hb5
    go_wp2_with fail
    refine (IMP.out w5 (by omega) (L1.out.below hb15)).mono ?_
    rintro e w6 ⟨u2, rfl, ho6, hb6⟩
    go_wp2_with fail
    refine (eqS_same (by omega) ho6 (ownsRow_below hov5 hb6)).mono ?_
    rintro e w7 ⟨rfl, q2, rfl⟩
    have hou := owns_drewN (ownsRow_below ho5 hb6) q2
    have hb7 : Below w.heap.size w (w6.drewN q2) := bel_drewN (hb1.trans ((hb15.trans (hb6.mono hb15.size)).mono hb1.size)) q2
    clear ho5 ho6 hov5 hb1 hb15 hb6
    go_wp2_with fail
    refine (heldS_any 1 1 rfl (by omega) (by omega) (by omega) hou).mono ?_
    rintro e w8 ⟨rfl, hb8⟩
    have hfin := hb7.trans (hb8.mono hb7.size)
    clear hb7 hb8 hou
    go_wp2_with fail
    go_ret
    exact ⟨rfl, hfin⟩

set_option maxRecDepth 100000 in
theorem contract (H : Type) (enc : TypeId × Value → H) (W : World) (base : Nat) (args : Array Value) (ds gs : List (DataW H)) (before : List MemPlace)
    (hval : ∀ (j : Nat) t v, Tryd.f6.params[j]? = some t → args[j]? = some v → Value.okWide Tryd.prog W .any base t v)
    (hW : DataW.Whole enc Tryd.prog Tryd.f6.params.toList Rows.fnExactSplitWordsSpec.vars false W args.toList ds gs before) (henv : Env W) :
    Calls Tryd.prog 6 args W fun e W' => ∃ v, e = .returned v ∧ Rows.fnExactSplitWordsSpec.post enc Tryd.prog Tryd.f6 false true false false W args v W' := by
  have hW' := hW
  obtain ⟨p, q, hA0, hV, rfl, hfz, hnd⟩ := hW
  have hA : DataW.TrodAll enc Tryd.prog W 0 (fun _ => true) true Tryd.f6.params.toList args.toList ds p := hA0
  rw [Tryd.params6] at hA hval
  obtain ⟨v0, vs0, d0, ds0, p0, q0, hargs0, rfl, rfl, h0, r0⟩ := trodAll_cons hA
  obtain ⟨rfl, rfl, rfl⟩ := trodAll_nil r0
  obtain rfl : args = #[v0] := by cases args; simp_all
  obtain ⟨rfl, rfl⟩ := trodVars_none hV
  obtain ⟨a0, rfl, rfl, rfl, w0⟩ := open_string Tryd.underlying9 (hval 0 9 v0 rfl rfl) h0
  clear hA0
  simp only [List.append_nil] at hW'
  refine (walk W a0 w0 henv).mono fun e W' ⟨he, hg⟩ => ?_
  subst he
  exact ⟨_, rfl, post_of_below (pa := []) (pv := []) hW' (fun _ _ _ => (trodAll_cons_mk (shut_bool Tryd.underlying4 _) trodAll_mk0)) (fun sp _ => (trodAll_cons_mk (shut_string Tryd.underlying9 w0) trodAll_mk0)) (fun _ _ => rfl) rfl
    hg (ok_one (by kernel_rfl) rfl (okWide_bool_mk Tryd.underlying4 _))⟩

set_option maxRecDepth 100000 in
theorem laid_met (os : Os) : laidMetH Tryd.prog Rows.fnExactSplitWordsRow.laid ((World.laidAll Tryd.prog os Rows.fnExactSplitWordsRow.laid).forCall (fun _ _ => 0) ⟨#[], #[.string ByteArray.empty], []⟩).memory := by
  rw [MakeChecks.laidMetH_plain _ _ _ (by kernel_rfl)]
  exact laidMet_laidAll _ (by kernel_rfl) (by kernel_rfl)
set_option maxRecDepth 100000 in
theorem reads (os : Os) {H : Type} (enc : TypeId × Value → H) : ∃ places, DataW.whole enc Tryd.prog ((World.laidAll Tryd.prog os Rows.fnExactSplitWordsRow.laid).forCall (fun _ _ => 0) ⟨#[], #[.string ByteArray.empty], []⟩).memory Tryd.f6.params.toList Rows.fnExactSplitWordsSpec.vars false #[.string ByteArray.empty].toList 8 = some ([.lit (.string [])], [], places) :=
  ⟨[], by kernel_rfl⟩

set_option maxRecDepth 100000 in
theorem lifted (os : Os) (started : os.Started) (H : Type) (enc : TypeId × Value → H) (F : Stop.Interp) :
    ReturnsInHanded {} Tryd.checked os 6 .any ((OpenSpec.ofChange Rows.fnExactSplitWordsSpec).preRow enc Tryd.prog Tryd.f6 Rows.fnExactSplitWordsRow.domain false Rows.fnExactSplitWordsRow.laid) (((OpenSpec.ofChange Rows.fnExactSplitWordsSpec).at F).post enc Tryd.prog Tryd.f6 false true false false) := by
  obtain ⟨places, hx⟩ := reads os enc
  refine returnsInHanded_of_row (C := Tryd.checked) (s := OpenSpec.ofChange Rows.fnExactSplitWordsSpec) own started (by kernel_rfl) Tryd.func6
    (witness_row_at (enc := enc) (C := Tryd.checked) false (World.laidAll Tryd.prog os Rows.fnExactSplitWordsRow.laid) #[.string ByteArray.empty] (World.laidAll_os _ _ _) (by kernel_rfl) (by kernel_rfl) (by kernel_rfl)
      (OpenSpec.preRow_of_cond 8 hx (by kernel_rfl) (fun k hk => by cases hk) (by kernel_rfl) (laid_met os))) ?_
  intro W base args ds gs before hval hW _ _ _ hL hS _
  rw [MakeChecks.laidMetH_plain _ _ _ (by kernel_rfl)] at hL
  exact contract H enc W base args ds gs before hval hW (env_of hL hS)

theorem said : Rows.FnExactSplitWordsSaid :=
  OpenClaim.holds_of_cond 6 Tryd.f6 rfl rfl rfl rfl rfl rfl rfl ⟨rfl, rfl, rfl, rfl, rfl⟩ rfl rfl rfl rfl rfl (by kernel_rfl) Tryd.func6 (by kernel_rfl)
    (of_decide_eq_true (by kernel_rfl)) (by unfold Func.isWrapper; first | (rw [if_pos (by decide +kernel)]; kernel_rfl) | (rw [if_neg (by decide +kernel)]; exact ⟨rfl, rfl⟩))
    (fun os started H enc _ F => by rw [OpenClaim.pre_eq_preRow]; exact lifted os started H enc F)

theorem plain (f : FuncId) (fn : Func) (hf : Tryd.pinned.checked.prog.funcNamed "loop.example/g00955/laws.FnExactSplitWords" = some f) (hfn : Tryd.pinned.checked.prog.funcs[f]? = some fn) :
    true = Tryd.pinned.checked.prog.looks [] ∧ ∀ (j : Nat) t, fn.params[j]? = some t → Tryd.pinned.checked.prog.wantsStandIn t = false := by
  obtain rfl : f = 6 := Option.some.inj ((show Tryd.prog.funcNamed "loop.example/g00955/laws.FnExactSplitWords" = some 6 by kernel_rfl).symm.trans hf) |>.symm
  obtain rfl : fn = Tryd.f6 := (Option.some.inj (Tryd.func6.symm.trans hfn)).symm
  refine ⟨by kernel_rfl, fun j t ht => ?_⟩
  rw [Tryd.params6] at ht
  have hm : t ∈ [9] := by simpa using Array.mem_of_getElem? ht
  have hall : ([9].all fun u => !Tryd.prog.wantsStandIn u) = true := by kernel_rfl
  exact (show Tryd.prog.wantsStandIn t = false by simpa using List.all_eq_true.1 hall t hm)

theorem card : Rows.FnExactSplitWordsCardSaid :=
  Claim7.holds_tied_plain_at .later [] _ _ _ _ said (fun _ h => by cases h) (by kernel_rfl) (fun _ h => by cases h) fnExactSplitWords_row_tie rfl ⟨rfl, rfl⟩ (by kernel_rfl) rfl plain (by kernel_rfl)
#print axioms card
end Go.Proofs.YtalaalifoklmeaaDoor.fnExactSplitWords
