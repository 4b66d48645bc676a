/-
  The law FnExactListText, with what its package variables hold tied to the program's text: for every input the call returns true, and each argument reads afterwards as it read before. No condition. (The card ties the listed variables to a pruned copy of the project: the packages that this seat's roots load.)
-/
import Derived.Test.YtoaceopncdodkaaDoorCards
import Derived.Test.YtoaceopncdodkaaDoorTie
import Derived.Test.YtoaceopncdodkaaDoorPost
import Derived.Test.YtoaceopncdodkaaDoorCopy
import Derived.WalkKit
import Derived.ProofKit
import Derived.OpenShut
import Derived.ChangeMaps5
import Derived.ChangeSlices
import Derived.Carry
import Derived.Deep.DeepHandedRow
import Derived.Deep.DeepWitnessRowRef
import Derived.Lay
import Derived.Lib.LaidTab
import Derived.Stop.LaidErr
import Derived.MakeChecks
import Derived.Lib.LaidU8
namespace Go.Proofs.YtoaceopncdodkaaDoor.fnExactListText
open Go.ChangeShapes Go.WideShapes Go.ChangeAt Go.RowKit Go.ChangeMaps
set_option linter.unusedVariables false

theorem own : ownKnob Tryd.prog.godebug = none := by kernel_rfl

def Env (w : World) : Prop := TabOK w
theorem gPowType : (Tryd.prog.globals[3]?).map (·.type) = some 108 := by kernel_rfl
theorem env_of {W : World} (hL : laidMet Tryd.prog Rows.fnExactListTextRow.laid W) (_hS : W.ShapedOpen Tryd.prog) : Env W :=
  Lib.tabIs_of_head (rest := []) gPow gPowType Tryd.underlying108 Tryd.underlying50 (by kernel_rfl) (by kernel_rfl) hL.tail.tail

set_option maxHeartbeats 1000000 in
theorem walk (w : World) (v0 : Value) (a0 : List Int) (w0 : ListIn w v0 a0) (henv : Env w) :
    Calls Tryd.prog 8 #[v0] w fun e w' => e = .returned (.bool true) ∧ Below w.heap.size w w' := by
  have ht : TabOK w := henv
  clear henv
  have hin := w0
  obtain ⟨sa, sc, rfl⟩ := w0.len
  have IN := Lib.hid hin
  clear hin w0
  by_cases hbig : 1048576 < a0.length
  · have h1 : decide ((1048576 : Int) < (a0.length : Int)) = true := by simp; omega
    go_enter Tryd.func8, Tryd.ntmps8
    go_wp2_with fail
    go_ret
    exact ⟨rfl, Below.refl _ _⟩
  · have h1 : decide ((1048576 : Int) < (a0.length : Int)) = false := by simp; omega
    go_enter Tryd.func8, Tryd.ntmps8
    go_wp2_with fail
    refine (toI_any IN.out (by omega)).mono ?_
    rintro e w1 ⟨rfl, ho1, hb1⟩
    go_wp2_with fail
    refine (specText_any _ _ a0 w1 (ho1.lt _ rfl).2 (by omega) (cells_own ho1)).mono ?_
    rintro e w2 ⟨rfl, hb2⟩
    have hbA : Below w.heap.size w w2 := hb1.trans (hb2.mono hb1.size)
    clear ho1 hb1 hb2
    go_wp2_with fail
    refine (toI_any (IN.out.below hbA) (by omega)).mono ?_
    rintro e w3 ⟨rfl, ho3, hb3⟩
    have hbB : Below w.heap.size w w3 := hbA.trans (hb3.mono hbA.size)
    have T3 := Lib.hid (ht.below hbB)
    clear hb3 hbA ht
    go_wp2_with fail
    refine (implText_any _ _ a0 w3 T3.out (ho3.lt _ rfl).2 (by omega) (cells_own ho3)).mono ?_
    rintro e w4 ⟨rfl, hb4⟩
    have ho4 := ownsRow_below ho3 hb4
    have hbC : Below w.heap.size w w4 := hbB.trans (hb4.mono hbB.size)
    clear ho3 hb4 hbB
    generalize (listT a0).toArray = tx at *
    go_wp2_with fail
    refine (toI_any (IN.out.below hbC) (by omega)).mono ?_
    rintro e w5 ⟨rfl, ho5, hb5⟩
    have ho45 := ownsRow_below ho4 hb5
    have hbD : Below w.heap.size w w5 := hbC.trans (hb5.mono hbC.size)
    clear ho4 hb5 hbC
    go_wp2_with fail
    refine (eqI_same (by omega) ho45 ho5).mono ?_
    rintro e w6 ⟨rfl, q, rfl⟩
    clear ho45 ho5
    go_wp2_with fail
    go_ret
    exact ⟨rfl, bel_drewN hbD q⟩

set_option maxRecDepth 100000 in
theorem contract (H : Type) (enc : TypeId × Value → H) (W : World) (base : Nat) (args : Array Value) (ds gs : List (DataW H)) (before : List MemPlace)
    (hval : ∀ (j : Nat) t v, Tryd.f8.params[j]? = some t → args[j]? = some v → Value.okWide Tryd.prog W .any base t v)
    (hW : DataW.Whole enc Tryd.prog Tryd.f8.params.toList Rows.fnExactListTextSpec.vars false W args.toList ds gs before) (henv : Env W) :
    Calls Tryd.prog 8 args W fun e W' => ∃ v, e = .returned v ∧ Rows.fnExactListTextSpec.post enc Tryd.prog Tryd.f8 false true false false W args v W' := by
  have hW' := hW
  obtain ⟨p, q, hA0, hV, rfl, hfz, hnd⟩ := hW
  have hA : DataW.TrodAll enc Tryd.prog W 0 (fun _ => true) true Tryd.f8.params.toList args.toList ds p := hA0
  rw [Tryd.params8] at hA hval
  obtain ⟨v0, vs0, d0, ds0, p0, q0, hargs0, rfl, rfl, h0, r0⟩ := trodAll_cons hA
  obtain ⟨rfl, rfl, rfl⟩ := trodAll_nil r0
  obtain rfl : args = #[v0] := by cases args; simp_all
  obtain ⟨rfl, rfl⟩ := trodVars_none hV
  have h0k := h0
  obtain ⟨sa0, sn0, sc0, rfl⟩ := okWide_slice Tryd.underlying30 (hval 0 30 v0 rfl rfl)
  have hin0 : ∃ zs : List Int, ListIn W (.slice sa0 sn0 sc0) zs := by
    obtain ⟨fuel, hf⟩ := h0
    rcases open_ints Tryd.underlying30 Tryd.underlying2 (by kernel_rfl) hf with ⟨hcs, hx⟩ | ⟨a, len', cap', zs, hcs, _, hl, hm, hz, hx, hcell, hwz⟩
    · simp [Value.cells] at hcs
      obtain ⟨rfl, rfl, rfl⟩ := hcs
      exact ⟨[], .inl ⟨_, _, rfl, rfl⟩⟩
    · simp [Value.cells] at hcs
      obtain ⟨rfl, rfl, rfl⟩ := hcs
      simp only [if_true] at hz
      by_cases hl0 : sn0 = 0
      · subst hl0
        exact ⟨[], .inl ⟨_, _, rfl, rfl⟩⟩
      · obtain ⟨b, off, spot⟩ := a
        have hspot : spot = none := by simpa [Addr.add] using World.cell?_spot (hcell 0 (by omega))
        subst hspot
        have hlt : (zs.take sn0).length = sn0 := by simp; omega
        have hget : ∀ j, (h : j < (zs.take sn0).length) → W.cell? ⟨b, off + j, none⟩ = some (.int .i64 (zs.take sn0)[j]) := by
          intro j hj
          have h1 := hcell j (by omega)
          rw [add_plain] at h1
          rw [h1]
          simp [List.getD, show j < zs.length by omega]
        exact ⟨zs.take sn0, .inr ⟨b, off, sc0, by rw [hlt], World.block_lt_of_cell? W ⟨b, off + 0, none⟩ (hget 0 (by omega)), hget⟩⟩
  obtain ⟨a0, w0⟩ := hin0
  clear hA0
  have hltp : ∀ x ∈ p0 ++ [] ++ [], x.block < W.heap.size := fun x hx => hW'.lt x hx
  refine (walk W _ a0 w0 henv).mono fun e W' ⟨he, hg⟩ => ?_
  subst he
  exact ⟨_, rfl, post_of_below (pa := p0 ++ []) (pv := []) hW' (fun _ _ _ => (trodAll_cons_mk (shut_bool Tryd.underlying4 _) trodAll_mk0)) (fun sp hsp => (trodAll_cons_mk (WideElems.Trod_stays (by kernel_rfl) (by kernel_rfl) (of_decide_eq_true (by kernel_rfl)) h0k (fun x hx => hg.same (hltp x (by simpa using hx))) (fun x hx => hsp x (by simpa using hx))) trodAll_mk0)) (fun _ _ => rfl) rfl
    hg (ok_one (by kernel_rfl) rfl (okWide_bool_mk Tryd.underlying4 _))⟩

set_option maxRecDepth 100000 in
theorem laid_met (os : Os) : laidMetH Tryd.prog Rows.fnExactListTextRow.laid ((World.laidAll Tryd.prog os Rows.fnExactListTextRow.laid).forCall (fun _ _ => 0) ⟨#[], #[.slice none 0 0], []⟩).memory := by
  rw [MakeChecks.laidMetH_plain _ _ _ (by kernel_rfl)]
  exact laidMet_laidAll _ (by kernel_rfl) (by kernel_rfl)
set_option maxRecDepth 100000 in
theorem reads (os : Os) {H : Type} (enc : TypeId × Value → H) : ∃ places, DataW.whole enc Tryd.prog ((World.laidAll Tryd.prog os Rows.fnExactListTextRow.laid).forCall (fun _ _ => 0) ⟨#[], #[.slice none 0 0], []⟩).memory Tryd.f8.params.toList Rows.fnExactListTextSpec.vars false #[.slice none 0 0].toList 8 = some ([.nil], [], places) :=
  ⟨[], by kernel_rfl⟩

set_option maxRecDepth 100000 in
theorem lifted (os : Os) (started : os.Started) (H : Type) (enc : TypeId × Value → H) (F : Stop.Interp) :
    ReturnsInHanded {} Tryd.checked os 8 .any ((OpenSpec.ofChange Rows.fnExactListTextSpec).preRow enc Tryd.prog Tryd.f8 Rows.fnExactListTextRow.domain false Rows.fnExactListTextRow.laid) (((OpenSpec.ofChange Rows.fnExactListTextSpec).at F).post enc Tryd.prog Tryd.f8 false true false false) := by
  obtain ⟨places, hx⟩ := reads os enc
  refine returnsInHanded_of_row (C := Tryd.checked) (s := OpenSpec.ofChange Rows.fnExactListTextSpec) own started (by kernel_rfl) Tryd.func8
    (witness_row_at (enc := enc) (C := Tryd.checked) false (World.laidAll Tryd.prog os Rows.fnExactListTextRow.laid) #[.slice none 0 0] (World.laidAll_os _ _ _) (by kernel_rfl) (by kernel_rfl) (by kernel_rfl)
      (OpenSpec.preRow_of_cond 8 hx (by kernel_rfl) (fun k hk => by cases hk) (by kernel_rfl) (laid_met os))) ?_
  intro W base args ds gs before hval hW _ _ _ hL hS _
  rw [MakeChecks.laidMetH_plain _ _ _ (by kernel_rfl)] at hL
  exact contract H enc W base args ds gs before hval hW (env_of hL hS)

theorem said : Rows.FnExactListTextSaid :=
  OpenClaim.holds_of_cond 8 Tryd.f8 rfl rfl rfl rfl rfl rfl rfl ⟨rfl, rfl, rfl, rfl, rfl⟩ rfl rfl rfl rfl rfl (by kernel_rfl) Tryd.func8 (by kernel_rfl)
    (of_decide_eq_true (by kernel_rfl)) (by unfold Func.isWrapper; first | (rw [if_pos (by decide +kernel)]; kernel_rfl) | (rw [if_neg (by decide +kernel)]; exact ⟨rfl, rfl⟩))
    (fun os started H enc _ F => by rw [OpenClaim.pre_eq_preRow]; exact lifted os started H enc F)

theorem plain (f : FuncId) (fn : Func) (hf : Tryd.pinned.checked.prog.funcNamed "loop.example/g00955/laws.FnExactListText" = some f) (hfn : Tryd.pinned.checked.prog.funcs[f]? = some fn) :
    true = Tryd.pinned.checked.prog.looks [] ∧ ∀ (j : Nat) t, fn.params[j]? = some t → Tryd.pinned.checked.prog.wantsStandIn t = false := by
  obtain rfl : f = 8 := Option.some.inj ((show Tryd.prog.funcNamed "loop.example/g00955/laws.FnExactListText" = some 8 by kernel_rfl).symm.trans hf) |>.symm
  obtain rfl : fn = Tryd.f8 := (Option.some.inj (Tryd.func8.symm.trans hfn)).symm
  refine ⟨by kernel_rfl, fun j t ht => ?_⟩
  rw [Tryd.params8] at ht
  have hm : t ∈ [30] := by simpa using Array.mem_of_getElem? ht
  have hall : ([30].all fun u => !Tryd.prog.wantsStandIn u) = true := by kernel_rfl
  exact (show Tryd.prog.wantsStandIn t = false by simpa using List.all_eq_true.1 hall t hm)

theorem card : Rows.FnExactListTextCardSaid :=
  Claim7.holds_tied_plain_at .later [] _ _ _ _ said (fun _ h => by cases h) (by kernel_rfl) (fun _ h => by cases h) fnExactListText_row_tie rfl ⟨rfl, rfl⟩ (by kernel_rfl) rfl plain (by kernel_rfl)
#print axioms card
end Go.Proofs.YtoaceopncdodkaaDoor.fnExactListText
