/-
  The law FnWeights, with what its package variables hold tied to the program's text: for every input the call returns true, and each argument reads afterwards as it read before. No condition. (The card ties the listed variables to a pruned copy of the project: the packages that this seat's roots load.)
-/
import Derived.Test.YtlklcpnnaolbeaaGreatDoorCards
import Derived.Test.YtlklcpnnaolbeaaGreatDoorTie
import Derived.Test.YtlklcpnnaolbeaaGreatDoorPost0
import Derived.Test.YtlklcpnnaolbeaaGreatDoorFnW
import Derived.Test.YtlklcpnnaolbeaaGreatDoorPost0
import Derived.WalkKit
import Derived.ProofKit
import Derived.OpenShut
import Derived.ChangeMaps5
import Derived.ChangeSlices
import Derived.Carry
import Derived.Lib.SmallJoins
import Derived.Deep.DeepHandedRow
import Derived.Deep.DeepWitnessRowRef
import Derived.Lay
import Derived.Lib.LaidTab
import Derived.Stop.LaidErr
import Derived.MakeChecks
import Derived.Lib.LaidU8
namespace Go.Proofs.YtlklcpnnaolbeaaGreatDoor.fnWeights
open Go.ChangeShapes Go.WideShapes Go.ChangeAt Go.RowKit Go.ChangeMaps
set_option linter.unusedVariables false

theorem own : ownKnob Tryz.prog.godebug = none := by kernel_rfl

-- DATUM .agg (sinT.map fun z => .lit (.int .i64 z)) SIZE 91 G 8
def Env (w : World) : Prop := SinesOK w
theorem gSn : Tryz.prog.globalNamed "loop.example/g00955/impl.sines" = some 8 := by kernel_rfl
theorem gSnType : (Tryz.prog.globals[8]?).map (·.type) = some 215 := by kernel_rfl
theorem cellsI : Tryz.prog.cellsOf 2 = 1 := by kernel_rfl
theorem listed : Rows.fnWeightsRow.laid = [("loop.example/g00955/impl.sines", .agg (sinT.map fun z => .lit (.int .i64 z)))] := rfl
theorem env_of {W : World} (hL : laidMet Tryz.prog Rows.fnWeightsRow.laid W) (_hS : W.ShapedOpen Tryz.prog) : Env W := by
  rw [listed] at hL
  obtain ⟨ps, ⟨g, t, cs, fuel, p, q, hg, ht, hv, hd, _, _⟩, _, _⟩ := hL
  obtain rfl := Option.some.inj (gSn.symm.trans hg)
  obtain rfl := Option.some.inj (gSnType.symm.trans ht)
  refine ⟨lt_of_var gSn hv, fun j hj => ?_⟩
  obtain ⟨xs, m, _, ex, _, hl, hel⟩ := DataW.trod_array Tryz.underlying215 hd
  have hE := hel j hj
  rw [cellsI, Nat.mul_one, List.getElem?_eq_getElem (by omega)] at hE
  obtain ⟨z, e1, e2, _⟩ := DataW.trod_int Tryz.underlying2 hE
  have hlen : sinT.length = 91 := rfl
  have e3 : (xs.map (·.1)) = sinT.map fun z => .lit (.int .i64 z) := (DataW.agg.inj (Prod.mk.inj ex).1).symm
  have e4 : (xs.map (·.1))[j]? = (sinT.map fun z => (DataW.lit (.int .i64 z) : DataW Unit))[j]? := by rw [e3]
  rw [List.getElem?_map, List.getElem?_map, List.getElem?_eq_getElem (by omega : j < xs.length), List.getElem?_eq_getElem (by omega : j < sinT.length), e2] at e4
  have hz : z = tab j := by
    simp only [Option.map_some, Option.some.injEq, DataW.lit.injEq, Lit.int.injEq, true_and] at e4
    rw [e4]; unfold tab; rw [List.getD, List.getElem?_eq_getElem (by omega : j < sinT.length)]; rfl
  rw [World.var?_cell hg hv j, ← hz]
  have h0 : ((cs.toList.drop j).take 1)[0]? = some (.int .i64 z) := by rw [e1]; rfl
  simpa using h0
/-- The named variable reads as it did where below the heap's old size nothing has turned. -/
theorem vars_stay {H : Type} {enc : TypeId × Value → H} {W W' : World} (hb : Below W.heap.size W W') {g : Nat} {t : TypeId} {cs : Array Value} {fuel : Nat} {d : DataW H} {p : List MemPlace}
    (h1 : Tryz.prog.globalNamed "loop.example/g00955/impl.sines" = some g) (h2 : (Tryz.prog.globals[g]?).map (·.type) = some t) (h3 : W.var? Tryz.prog "loop.example/g00955/impl.sines" = some cs)
    (h4 : DataW.trod enc Tryz.prog W 0 (fun _ => true) true fuel t cs.toList = some (d, p)) (hp : ∀ x ∈ p, x.block < W.heap.size) (sp : Nat → Bool) (hsp : ∀ x ∈ p, sp x.block = true) :
    DataW.TrodVars enc Tryz.prog W' sp ["loop.example/g00955/impl.sines"] [d] (MemPlace.row ⟨g, 0, none⟩ cs.size ++ p) := by
  obtain rfl := Option.some.inj (gSn.symm.trans h1)
  obtain rfl := Option.some.inj (gSnType.symm.trans h2)
  have hr : Tryz.prog.readableRec 215 = true := by kernel_rfl
  have hl : laidOutB Tryz.prog = true := by kernel_rfl
  exact trodVars_mk1 h1 h2 (var?_below hb h1 (lt_of_var h1 h3) h3)
    (DataW.trod_stays (kids_book hl hr) (book_sized hr) (fun h => by cases h) ⟨of_decide_eq_true (by kernel_rfl), book_self _⟩ h4 (fun x hx => hb.same (hp x hx)) hsp)

theorem fit8 {a : Int} (h : (Lit.int .u8 a).wf = true) : 0 ≤ a ∧ a ≤ 255 := by
  simpa [Lit.wf, IntKind.min, IntKind.max, IntKind.signed, IntKind.bits] using h

set_option maxHeartbeats 1000000 in
theorem walk (w : World) (v0 : Value) (a0 : List Int) (w0 : BytesIn w v0 a0) (henv : Env w) :
    Calls Tryz.prog 6 #[v0] w fun e w' => e = .returned (.bool true) ∧ Below w.heap.size w w' := by
  exact weights_walk w v0 a0 w0 henv

set_option maxRecDepth 100000 in
theorem contract (H : Type) (enc : TypeId × Value → H) (W : World) (base : Nat) (args : Array Value) (ds gs : List (DataW H)) (before : List MemPlace)
    (hval : ∀ (j : Nat) t v, Tryz.f6.params[j]? = some t → args[j]? = some v → Value.okWide Tryz.prog W .any base t v)
    (hW : DataW.Whole enc Tryz.prog Tryz.f6.params.toList Rows.fnWeightsSpec.vars false W args.toList ds gs before) (henv : Env W) :
    Calls Tryz.prog 6 args W fun e W' => ∃ v, e = .returned v ∧ Rows.fnWeightsSpec.post enc Tryz.prog Tryz.f6 false true false false W args v W' := by
  have hW' := hW
  obtain ⟨p, q, hA0, hV, rfl, hfz, hnd⟩ := hW
  have hA : DataW.TrodAll enc Tryz.prog W 0 (fun _ => true) true Tryz.f6.params.toList args.toList ds p := hA0
  rw [Tryz.params6] at hA hval
  obtain ⟨v0, vs0, d0, ds0, p0, q0, hargs0, rfl, rfl, h0, r0⟩ := trodAll_cons hA
  obtain ⟨rfl, rfl, rfl⟩ := trodAll_nil r0
  obtain rfl : args = #[v0] := by cases args; simp_all
  have hlt : ∀ x ∈ q, x.block < W.heap.size := hV.lt
  obtain ⟨gv, tv, cs, fuel, dv, pv, rfl, hg1, hg2, hg3, hg4, rfl⟩ := trodVars_one hV
  have h0k := h0
  obtain ⟨sa0, sn0, sc0, rfl⟩ := okWide_slice Tryz.underlying42 (hval 0 42 v0 rfl rfl)
  have hin0 : ∃ zs : List Int, BytesIn W (.slice sa0 sn0 sc0) zs := by
    obtain ⟨fuel, hf⟩ := h0
    rcases open_ints Tryz.underlying42 Tryz.underlying5 (by kernel_rfl) hf with ⟨hcs, hx⟩ | ⟨a, len', cap', zs, hcs, _, hl, hm, hz, hx, hcell, hwz⟩
    · simp [Value.cells] at hcs
      obtain ⟨rfl, rfl, rfl⟩ := hcs
      exact ⟨[], .inl ⟨_, _, rfl, rfl⟩⟩
    · simp [Value.cells] at hcs
      obtain ⟨rfl, rfl, rfl⟩ := hcs
      simp only [if_true] at hz
      by_cases hl0 : sn0 = 0
      · subst hl0
        exact ⟨[], .inl ⟨_, _, rfl, rfl⟩⟩
      · obtain ⟨b, off, spot⟩ := a
        have hspot : spot = none := by simpa [Addr.add] using World.cell?_spot (hcell 0 (by omega))
        subst hspot
        have hlt : (zs.take sn0).length = sn0 := by simp; omega
        have hget : ∀ j, (h : j < (zs.take sn0).length) → W.cell? ⟨b, off + j, none⟩ = some (.int .u8 (zs.take sn0)[j]) := by
          intro j hj
          have h1 := hcell j (by omega)
          rw [add_plain] at h1
          rw [h1]
          simp [List.getD, show j < zs.length by omega]
        exact ⟨zs.take sn0, .inr ⟨b, off, sc0, by rw [hlt], World.block_lt_of_cell? W ⟨b, off + 0, none⟩ (hget 0 (by omega)), fun j hj => ⟨hget j hj, fit8 (hwz _ (List.mem_of_mem_take (List.getElem_mem hj)))⟩⟩⟩
  obtain ⟨a0, w0⟩ := hin0
  clear hA0
  have hltp : ∀ x ∈ p0 ++ [] ++ (MemPlace.row ⟨gv, 0, none⟩ cs.size ++ pv), x.block < W.heap.size := fun x hx => hW'.lt x hx
  refine (walk W _ a0 w0 henv).mono fun e W' ⟨he, hg⟩ => ?_
  subst he
  exact ⟨_, rfl, post_of_below (pa := p0 ++ []) (pv := MemPlace.row ⟨gv, 0, none⟩ cs.size ++ pv) hW' (fun _ _ _ => (trodAll_cons_mk (shut_bool Tryz.underlying4 _) trodAll_mk0)) (fun sp hsp => (trodAll_cons_mk (WideElems.Trod_stays (by kernel_rfl) (by kernel_rfl) (of_decide_eq_true (by kernel_rfl)) h0k (fun x hx => hg.same (hltp x (by simp [hx]))) (fun x hx => hsp x (by simp [hx]))) trodAll_mk0)) (fun sp hsp => vars_stay hg hg1 hg2 hg3 hg4 (fun x hx => hlt x (List.mem_append_right _ hx)) sp (fun x hx => hsp x (List.mem_append_right _ (List.mem_append_right _ hx)))) rfl
    hg (ok_one (by kernel_rfl) rfl (okWide_bool_mk Tryz.underlying4 _))⟩

set_option maxRecDepth 100000 in
theorem laid_met (os : Os) : laidMetH Tryz.prog Rows.fnWeightsRow.laid ((World.laidAll Tryz.prog os Rows.fnWeightsRow.laid).forCall (fun _ _ => 0) ⟨#[], #[.slice none 0 0], []⟩).memory := by
  rw [MakeChecks.laidMetH_plain _ _ _ (by kernel_rfl)]
  exact laidMet_laidAll _ (by kernel_rfl) (by kernel_rfl)
set_option maxRecDepth 100000 in
theorem reads (os : Os) {H : Type} (enc : TypeId × Value → H) : ∃ places, DataW.whole enc Tryz.prog ((World.laidAll Tryz.prog os Rows.fnWeightsRow.laid).forCall (fun _ _ => 0) ⟨#[], #[.slice none 0 0], []⟩).memory Tryz.f6.params.toList Rows.fnWeightsSpec.vars false #[.slice none 0 0].toList 8 = some ([.nil], [.agg (sinT.map fun z => .lit (.int .i64 z))], places) :=
  ⟨MemPlace.row ⟨8, 0, none⟩ 91, by kernel_rfl⟩

set_option maxRecDepth 100000 in
theorem lifted (os : Os) (started : os.Started) (H : Type) (enc : TypeId × Value → H) (F : Stop.Interp) :
    ReturnsInHanded {} Tryz.checked os 6 .any ((OpenSpec.ofChange Rows.fnWeightsSpec).preRow enc Tryz.prog Tryz.f6 Rows.fnWeightsRow.domain false Rows.fnWeightsRow.laid) (((OpenSpec.ofChange Rows.fnWeightsSpec).at F).post enc Tryz.prog Tryz.f6 false true false false) := by
  obtain ⟨places, hx⟩ := reads os enc
  refine returnsInHanded_of_row (C := Tryz.checked) (s := OpenSpec.ofChange Rows.fnWeightsSpec) own started (by kernel_rfl) Tryz.func6
    (witness_row_at (enc := enc) (C := Tryz.checked) false (World.laidAll Tryz.prog os Rows.fnWeightsRow.laid) #[.slice none 0 0] (World.laidAll_os _ _ _) (by kernel_rfl) (by kernel_rfl) (by kernel_rfl)
      (OpenSpec.preRow_of_cond 8 hx (by kernel_rfl) (fun k hk => by cases hk) (by kernel_rfl) (laid_met os))) ?_
  intro W base args ds gs before hval hW _ _ _ hL hS _
  rw [MakeChecks.laidMetH_plain _ _ _ (by kernel_rfl)] at hL
  exact contract H enc W base args ds gs before hval hW (env_of hL hS)

theorem said : Rows.FnWeightsSaid :=
  OpenClaim.holds_of_cond 6 Tryz.f6 rfl rfl rfl rfl rfl rfl rfl ⟨rfl, rfl, rfl, rfl, rfl⟩ rfl rfl rfl rfl rfl (by kernel_rfl) Tryz.func6 (by kernel_rfl)
    (of_decide_eq_true (by kernel_rfl)) (by unfold Func.isWrapper; first | (rw [if_pos (by decide +kernel)]; kernel_rfl) | (rw [if_neg (by decide +kernel)]; exact ⟨rfl, rfl⟩))
    (fun os started H enc _ F => by rw [OpenClaim.pre_eq_preRow]; exact lifted os started H enc F)

theorem plain (f : FuncId) (fn : Func) (hf : Tryz.pinned.checked.prog.funcNamed "loop.example/g00955/laws.FnWeights" = some f) (hfn : Tryz.pinned.checked.prog.funcs[f]? = some fn) :
    true = Tryz.pinned.checked.prog.looks [] ∧ ∀ (j : Nat) t, fn.params[j]? = some t → Tryz.pinned.checked.prog.wantsStandIn t = false := by
  obtain rfl : f = 6 := Option.some.inj ((show Tryz.prog.funcNamed "loop.example/g00955/laws.FnWeights" = some 6 by kernel_rfl).symm.trans hf) |>.symm
  obtain rfl : fn = Tryz.f6 := (Option.some.inj (Tryz.func6.symm.trans hfn)).symm
  refine ⟨by kernel_rfl, fun j t ht => ?_⟩
  rw [Tryz.params6] at ht
  have hm : t ∈ [42] := by simpa using Array.mem_of_getElem? ht
  have hall : ([42].all fun u => !Tryz.prog.wantsStandIn u) = true := by kernel_rfl
  exact (show Tryz.prog.wantsStandIn t = false by simpa using List.all_eq_true.1 hall t hm)

theorem card : Rows.FnWeightsCardSaid :=
  Claim7.holds_tied_plain_at .later [] _ _ _ _ said (fun _ h => by cases h) (by kernel_rfl) (fun _ h => by cases h) fnWeights_row_tie rfl ⟨rfl, rfl⟩ (by kernel_rfl) rfl plain (by kernel_rfl)
#print axioms card
end Go.Proofs.YtlklcpnnaolbeaaGreatDoor.fnWeights
