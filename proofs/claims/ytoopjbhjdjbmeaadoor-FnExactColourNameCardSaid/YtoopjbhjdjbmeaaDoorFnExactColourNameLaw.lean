/-
  The law FnExactColourName, with what its package variables hold tied to the program's text: for every input the call returns true, and each argument reads afterwards as it read before. No condition. (The card ties the listed variables to a pruned copy of the project: the packages that this seat's roots load.)
-/
import Derived.Test.YtoopjbhjdjbmeaaDoorCards
import Derived.Test.YtoopjbhjdjbmeaaDoorTie
import Derived.Test.YtoopjbhjdjbmeaaDoorPost0
import Derived.Test.YtoopjbhjdjbmeaaDoorCol
import Derived.WalkKit
import Derived.ProofKit
import Derived.OpenShut
import Derived.ChangeMaps5
import Derived.Lib.SmallJoins
import Derived.Deep.DeepHandedRow
import Derived.Deep.DeepWitnessRowRef
import Derived.Lay
import Derived.Lib.LaidTab
import Derived.Stop.LaidErr
import Derived.MakeChecks
import Derived.Lib.LaidU8
namespace Go.Proofs.YtoopjbhjdjbmeaaDoor.fnExactColourName
open Go.ChangeShapes Go.WideShapes Go.ChangeAt Go.RowKit Go.ChangeMaps
set_option linter.unusedVariables false

theorem own : ownKnob Tryd.prog.godebug = none := by kernel_rfl

-- DATUM .agg (colR.map fun z => .agg [.lit (.int .i64 z.1), .lit (.string z.2)]) SIZE 12 G 0
def colR : List (Int × List UInt8) := [(0, [98, 108, 117, 101]), (30, [119, 104, 105, 116, 101]), (60, [99, 114, 101, 97, 109]), (90, [121, 101, 108, 108, 111, 119]), (140, [111, 114, 97, 110, 103, 101]), (251, [114, 101, 100])]
theorem colR_at : ∀ j, j < 6 → (colR.getD j (0, [])).1 = cE j ∧ (colR.getD j (0, [])).2 = colT.getD j [] := by decide
def Env (w : World) : Prop := ColOK w
theorem gCo : Tryd.prog.globalNamed "loop.example/g00955/impl.colourRanges" = some 0 := by kernel_rfl
theorem gCoType : (Tryd.prog.globals[0]?).map (·.type) = some 56 := by kernel_rfl
theorem cellsR : Tryd.prog.cellsOf 55 = 2 := by kernel_rfl
theorem listed : Rows.fnExactColourNameRow.laid = [("loop.example/g00955/impl.colourRanges", .agg (colR.map fun z => .agg [.lit (.int .i64 z.1), .lit (.string z.2)]))] := rfl
theorem env_of {W : World} (hL : laidMet Tryd.prog Rows.fnExactColourNameRow.laid W) (_hS : W.ShapedOpen Tryd.prog) : Env W := by
  rw [listed] at hL
  obtain ⟨ps, ⟨g, t, cs, fuel, p, q, hg, ht, hv, hd, _, _⟩, _, _⟩ := hL
  obtain rfl := Option.some.inj (gCo.symm.trans hg)
  obtain rfl := Option.some.inj (gCoType.symm.trans ht)
  refine ⟨lt_of_var gCo hv, fun j hj => ?_⟩
  obtain ⟨xs, m, _, ex, _, hl, hel⟩ := DataW.trod_array Tryd.underlying56 hd
  have hE := hel j hj
  rw [cellsR, List.getElem?_eq_getElem (by omega)] at hE
  obtain ⟨y0, y1, n, hx, hl2, h0, h1⟩ := trod_struct2 Tryd.underlying55 hE
  obtain ⟨z, e1, e2, _⟩ := DataW.trod_int Tryd.underlying2 h0
  obtain ⟨s, f1, f2, _⟩ := DataW.trod_string Tryd.underlying9 h1
  have hlen : colR.length = 6 := rfl
  have e3 : (xs.map (·.1)) = colR.map fun z => .agg [.lit (.int .i64 z.1), .lit (.string z.2)] := (DataW.agg.inj (Prod.mk.inj ex).1).symm
  have e4 : (xs.map (·.1))[j]? = (colR.map fun z => (.agg [.lit (.int .i64 z.1), .lit (.string z.2)] : DataW Unit))[j]? := by rw [e3]
  rw [List.getElem?_map, List.getElem?_map, List.getElem?_eq_getElem (by omega : j < xs.length), List.getElem?_eq_getElem (by omega : j < colR.length), hx, e2, f2] at e4
  simp only [Option.map_some, Option.some.injEq, DataW.agg.injEq, List.cons.injEq, DataW.lit.injEq, Lit.int.injEq, Lit.string.injEq, true_and, and_true] at e4
  obtain ⟨a1, a2⟩ := e4
  obtain ⟨b1, b2⟩ := colR_at j hj
  have hg : colR.getD j (0, []) = colR[j]'(by omega) := by rw [List.getD, List.getElem?_eq_getElem (by omega : j < colR.length)]; rfl
  rw [hg] at b1 b2
  have hz : z = cE j := a1.trans b1
  have hs : s = cT j := by
    unfold cT
    rw [← b2, ← a2]
  have c0 := World.var?_cell gCo hv (j * 2)
  have c1 := World.var?_cell gCo hv (j * 2 + 1)
  have g0 : cs.toList[j * 2]? = some (.int .i64 z) := by
    have h9 : ((((cs.toList.drop (j * 2)).take 2).drop 0).take 1)[0]? = some (.int .i64 z) := by
      have e1' := e1
      rw [show Tryd.prog.cellsOf 2 = 1 by kernel_rfl] at e1'
      exact congrArg (·[0]?) e1'
    simpa using h9
  have g1 : cs.toList[j * 2 + 1]? = some (.string s) := by
    have h9 : ((((cs.toList.drop (j * 2)).take 2).drop 1).take 1)[0]? = some (.string s) := by
      have f1' := f1
      rw [show Tryd.prog.cellsOf 9 = 1 by kernel_rfl] at f1'
      exact congrArg (·[0]?) f1'
    simpa using h9
  exact ⟨by rw [c0, ← hz]; simpa using g0, by rw [c1, ← hs]; simpa using g1⟩
/-- The named variable reads as it did where below the heap's old size nothing has turned. -/
theorem vars_stay {H : Type} {enc : TypeId × Value → H} {W W' : World} (hb : Below W.heap.size W W') {g : Nat} {t : TypeId} {cs : Array Value} {fuel : Nat} {d : DataW H} {p : List MemPlace}
    (h1 : Tryd.prog.globalNamed "loop.example/g00955/impl.colourRanges" = some g) (h2 : (Tryd.prog.globals[g]?).map (·.type) = some t) (h3 : W.var? Tryd.prog "loop.example/g00955/impl.colourRanges" = some cs)
    (h4 : DataW.trod enc Tryd.prog W 0 (fun _ => true) true fuel t cs.toList = some (d, p)) (hp : ∀ x ∈ p, x.block < W.heap.size) (sp : Nat → Bool) (hsp : ∀ x ∈ p, sp x.block = true) :
    DataW.TrodVars enc Tryd.prog W' sp ["loop.example/g00955/impl.colourRanges"] [d] (MemPlace.row ⟨g, 0, none⟩ cs.size ++ p) := by
  obtain rfl := Option.some.inj (gCo.symm.trans h1)
  obtain rfl := Option.some.inj (gCoType.symm.trans h2)
  have hr : Tryd.prog.readableRec 56 = true := by kernel_rfl
  have hl : laidOutB Tryd.prog = true := by kernel_rfl
  exact trodVars_mk1 h1 h2 (var?_below hb h1 (lt_of_var h1 h3) h3)
    (DataW.trod_stays (kids_book hl hr) (book_sized hr) (fun h => by cases h) ⟨of_decide_eq_true (by kernel_rfl), book_self _⟩ h4 (fun x hx => hb.same (hp x hx)) hsp)

set_option maxHeartbeats 1000000 in
theorem walk (w : World) (a0 : Int) (w0 : (Lit.int .i64 a0).wf = true) (henv : Env w) :
    Calls Tryd.prog 5 #[.int .i64 a0] w fun e w' => e = .returned (.bool true) ∧ Below w.heap.size w w' := by
  go_enter Tryd.func5, Tryd.ntmps5
  go_wp2_with fail
  refine (specCol_any _ _).mono ?_
  rintro e w1 ⟨rfl, rfl⟩
  go_wp2_with fail
  refine (implCol_any _ _ henv).mono ?_
  rintro e w2 ⟨rfl, hb2⟩
  generalize colNm a0 = l at *
  go_wp2_with fail
  go_ret
  exact ⟨rfl, hb2⟩

set_option maxRecDepth 100000 in
theorem contract (H : Type) (enc : TypeId × Value → H) (W : World) (base : Nat) (args : Array Value) (ds gs : List (DataW H)) (before : List MemPlace)
    (hval : ∀ (j : Nat) t v, Tryd.f5.params[j]? = some t → args[j]? = some v → Value.okWide Tryd.prog W .any base t v)
    (hW : DataW.Whole enc Tryd.prog Tryd.f5.params.toList Rows.fnExactColourNameSpec.vars false W args.toList ds gs before) (henv : Env W) :
    Calls Tryd.prog 5 args W fun e W' => ∃ v, e = .returned v ∧ Rows.fnExactColourNameSpec.post enc Tryd.prog Tryd.f5 false true false false W args v W' := by
  have hW' := hW
  obtain ⟨p, q, hA0, hV, rfl, hfz, hnd⟩ := hW
  have hA : DataW.TrodAll enc Tryd.prog W 0 (fun _ => true) true Tryd.f5.params.toList args.toList ds p := hA0
  rw [Tryd.params5] at hA hval
  obtain ⟨v0, vs0, d0, ds0, p0, q0, hargs0, rfl, rfl, h0, r0⟩ := trodAll_cons hA
  obtain ⟨rfl, rfl, rfl⟩ := trodAll_nil r0
  obtain rfl : args = #[v0] := by cases args; simp_all
  have hlt : ∀ x ∈ q, x.block < W.heap.size := hV.lt
  obtain ⟨gv, tv, cs, fuel, dv, pv, rfl, hg1, hg2, hg3, hg4, rfl⟩ := trodVars_one hV
  obtain ⟨a0, rfl, rfl, rfl, w0⟩ := open_int Tryd.underlying2 (hval 0 2 v0 rfl rfl) h0
  clear hA0
  simp only [List.nil_append] at hW'
  refine (walk W a0 w0 henv).mono fun e W' ⟨he, hg⟩ => ?_
  subst he
  exact ⟨_, rfl, post_of_below (pa := []) (pv := MemPlace.row ⟨gv, 0, none⟩ cs.size ++ pv) hW' (fun _ _ _ => (trodAll_cons_mk (shut_bool Tryd.underlying4 _) trodAll_mk0)) (fun sp _ => (trodAll_cons_mk (shut_int Tryd.underlying2 w0) trodAll_mk0)) (fun sp hsp => vars_stay hg hg1 hg2 hg3 hg4 (fun x hx => hlt x (List.mem_append_right _ hx)) sp (fun x hx => hsp x (List.mem_append_right _ hx))) rfl
    hg (ok_one (by kernel_rfl) rfl (okWide_bool_mk Tryd.underlying4 _))⟩

set_option maxRecDepth 100000 in
theorem laid_met (os : Os) : laidMetH Tryd.prog Rows.fnExactColourNameRow.laid ((World.laidAll Tryd.prog os Rows.fnExactColourNameRow.laid).forCall (fun _ _ => 0) ⟨#[], #[.int .i64 0], []⟩).memory := by
  rw [MakeChecks.laidMetH_plain _ _ _ (by kernel_rfl)]
  exact laidMet_laidAll _ (by kernel_rfl) (by kernel_rfl)
set_option maxRecDepth 100000 in
theorem reads (os : Os) {H : Type} (enc : TypeId × Value → H) : ∃ places, DataW.whole enc Tryd.prog ((World.laidAll Tryd.prog os Rows.fnExactColourNameRow.laid).forCall (fun _ _ => 0) ⟨#[], #[.int .i64 0], []⟩).memory Tryd.f5.params.toList Rows.fnExactColourNameSpec.vars false #[.int .i64 0].toList 8 = some ([.lit (.int .i64 0)], [.agg (colR.map fun z => .agg [.lit (.int .i64 z.1), .lit (.string z.2)])], places) :=
  ⟨MemPlace.row ⟨0, 0, none⟩ 12, by kernel_rfl⟩

set_option maxRecDepth 100000 in
theorem lifted (os : Os) (started : os.Started) (H : Type) (enc : TypeId × Value → H) (F : Stop.Interp) :
    ReturnsInHanded {} Tryd.checked os 5 .any ((OpenSpec.ofChange Rows.fnExactColourNameSpec).preRow enc Tryd.prog Tryd.f5 Rows.fnExactColourNameRow.domain false Rows.fnExactColourNameRow.laid) (((OpenSpec.ofChange Rows.fnExactColourNameSpec).at F).post enc Tryd.prog Tryd.f5 false true false false) := by
  obtain ⟨places, hx⟩ := reads os enc
  refine returnsInHanded_of_row (C := Tryd.checked) (s := OpenSpec.ofChange Rows.fnExactColourNameSpec) own started (by kernel_rfl) Tryd.func5
    (witness_row_at (enc := enc) (C := Tryd.checked) false (World.laidAll Tryd.prog os Rows.fnExactColourNameRow.laid) #[.int .i64 0] (World.laidAll_os _ _ _) (by kernel_rfl) (by kernel_rfl) (by kernel_rfl)
      (OpenSpec.preRow_of_cond 8 hx (by kernel_rfl) (fun k hk => by cases hk) (by kernel_rfl) (laid_met os))) ?_
  intro W base args ds gs before hval hW _ _ _ hL hS _
  rw [MakeChecks.laidMetH_plain _ _ _ (by kernel_rfl)] at hL
  exact contract H enc W base args ds gs before hval hW (env_of hL hS)

theorem said : Rows.FnExactColourNameSaid :=
  OpenClaim.holds_of_cond 5 Tryd.f5 rfl rfl rfl rfl rfl rfl rfl ⟨rfl, rfl, rfl, rfl, rfl⟩ rfl rfl rfl rfl rfl (by kernel_rfl) Tryd.func5 (by kernel_rfl)
    (of_decide_eq_true (by kernel_rfl)) (by unfold Func.isWrapper; first | (rw [if_pos (by decide +kernel)]; kernel_rfl) | (rw [if_neg (by decide +kernel)]; exact ⟨rfl, rfl⟩))
    (fun os started H enc _ F => by rw [OpenClaim.pre_eq_preRow]; exact lifted os started H enc F)

theorem plain (f : FuncId) (fn : Func) (hf : Tryd.pinned.checked.prog.funcNamed "loop.example/g00955/laws.FnExactColourName" = some f) (hfn : Tryd.pinned.checked.prog.funcs[f]? = some fn) :
    false = Tryd.pinned.checked.prog.looks [] ∧ ∀ (j : Nat) t, fn.params[j]? = some t → Tryd.pinned.checked.prog.wantsStandIn t = false := by
  obtain rfl : f = 5 := Option.some.inj ((show Tryd.prog.funcNamed "loop.example/g00955/laws.FnExactColourName" = some 5 by kernel_rfl).symm.trans hf) |>.symm
  obtain rfl : fn = Tryd.f5 := (Option.some.inj (Tryd.func5.symm.trans hfn)).symm
  refine ⟨by kernel_rfl, fun j t ht => ?_⟩
  rw [Tryd.params5] at ht
  have hm : t ∈ [2] := by simpa using Array.mem_of_getElem? ht
  have hall : ([2].all fun u => !Tryd.prog.wantsStandIn u) = true := by kernel_rfl
  exact (show Tryd.prog.wantsStandIn t = false by simpa using List.all_eq_true.1 hall t hm)

theorem card : Rows.FnExactColourNameCardSaid :=
  Claim7.holds_tied_plain_at .later [] _ _ _ _ said (fun _ h => by cases h) (by kernel_rfl) (fun _ h => by cases h) fnExactColourName_row_tie rfl ⟨rfl, rfl⟩ (by kernel_rfl) rfl plain (by kernel_rfl)
#print axioms card
end Go.Proofs.YtoopjbhjdjbmeaaDoor.fnExactColourName
