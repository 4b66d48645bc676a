/-
  The law FnExactLineLength, with what its package variables hold tied to the program's text: for every input the call returns true, and each argument reads afterwards as it read before. No condition. (The card ties the listed variables to a pruned copy of the project: the packages that this seat's roots load.)
-/
import Derived.Test.YtoellkbmhpekdaaDoorCards
import Derived.Test.YtoellkbmhpekdaaDoorTie
import Derived.Test.YtoellkbmhpekdaaDoorPost0
import Derived.Test.YtoellkbmhpekdaaDoorLin1
import Derived.Test.YtoellkbmhpekdaaDoorKeep
import Derived.Test.YtoellkbmhpekdaaDoorPost0
import Derived.WalkKit
import Derived.ProofKit
import Derived.OpenShut
import Derived.ChangeMaps5
import Derived.ChangeSlices
import Derived.Carry
import Derived.Lib.SmallJoins
import Derived.Deep.DeepHandedRow
import Derived.Deep.DeepWitnessRowRef
import Derived.Lay
import Derived.Lib.LaidTab
import Derived.Stop.LaidErr
import Derived.MakeChecks
import Derived.Lib.LaidU8
namespace Go.Proofs.YtoellkbmhpekdaaDoor.fnExactLineLength
open Go.ChangeShapes Go.WideShapes Go.ChangeAt Go.RowKit Go.ChangeMaps
set_option linter.unusedVariables false

theorem own : ownKnob Tryd.prog.godebug = none := by kernel_rfl

-- DATUM .agg (sinT.map fun z => .lit (.int .i64 z)) SIZE 91 G 1
def Env (w : World) : Prop := SinesOK w
theorem gSn : Tryd.prog.globalNamed "loop.example/g00955/impl.sines" = some 1 := by kernel_rfl
theorem gSnType : (Tryd.prog.globals[1]?).map (·.type) = some 149 := by kernel_rfl
theorem cellsI : Tryd.prog.cellsOf 2 = 1 := by kernel_rfl
theorem listed : Rows.fnExactLineLengthRow.laid = [("loop.example/g00955/impl.sines", .agg (sinT.map fun z => .lit (.int .i64 z)))] := rfl
theorem env_of {W : World} (hL : laidMet Tryd.prog Rows.fnExactLineLengthRow.laid W) (_hS : W.ShapedOpen Tryd.prog) : Env W := by
  rw [listed] at hL
  obtain ⟨ps, ⟨g, t, cs, fuel, p, q, hg, ht, hv, hd, _, _⟩, _, _⟩ := hL
  obtain rfl := Option.some.inj (gSn.symm.trans hg)
  obtain rfl := Option.some.inj (gSnType.symm.trans ht)
  refine ⟨lt_of_var gSn hv, fun j hj => ?_⟩
  obtain ⟨xs, m, _, ex, _, hl, hel⟩ := DataW.trod_array Tryd.underlying149 hd
  have hE := hel j hj
  rw [cellsI, Nat.mul_one, List.getElem?_eq_getElem (by omega)] at hE
  obtain ⟨z, e1, e2, _⟩ := DataW.trod_int Tryd.underlying2 hE
  have hlen : sinT.length = 91 := rfl
  have e3 : (xs.map (·.1)) = sinT.map fun z => .lit (.int .i64 z) := (DataW.agg.inj (Prod.mk.inj ex).1).symm
  have e4 : (xs.map (·.1))[j]? = (sinT.map fun z => (DataW.lit (.int .i64 z) : DataW Unit))[j]? := by rw [e3]
  rw [List.getElem?_map, List.getElem?_map, List.getElem?_eq_getElem (by omega : j < xs.length), List.getElem?_eq_getElem (by omega : j < sinT.length), e2] at e4
  have hz : z = tab j := by
    simp only [Option.map_some, Option.some.injEq, DataW.lit.injEq, Lit.int.injEq, true_and] at e4
    rw [e4]; unfold tab; rw [List.getD, List.getElem?_eq_getElem (by omega : j < sinT.length)]; rfl
  rw [World.var?_cell hg hv j, ← hz]
  have h0 : ((cs.toList.drop j).take 1)[0]? = some (.int .i64 z) := by rw [e1]; rfl
  simpa using h0
/-- The named variable reads as it did where below the heap's old size nothing has turned. -/
theorem vars_stay {H : Type} {enc : TypeId × Value → H} {W W' : World} (hb : Below W.heap.size W W') {g : Nat} {t : TypeId} {cs : Array Value} {fuel : Nat} {d : DataW H} {p : List MemPlace}
    (h1 : Tryd.prog.globalNamed "loop.example/g00955/impl.sines" = some g) (h2 : (Tryd.prog.globals[g]?).map (·.type) = some t) (h3 : W.var? Tryd.prog "loop.example/g00955/impl.sines" = some cs)
    (h4 : DataW.trod enc Tryd.prog W 0 (fun _ => true) true fuel t cs.toList = some (d, p)) (hp : ∀ x ∈ p, x.block < W.heap.size) (sp : Nat → Bool) (hsp : ∀ x ∈ p, sp x.block = true) :
    DataW.TrodVars enc Tryd.prog W' sp ["loop.example/g00955/impl.sines"] [d] (MemPlace.row ⟨g, 0, none⟩ cs.size ++ p) := by
  obtain rfl := Option.some.inj (gSn.symm.trans h1)
  obtain rfl := Option.some.inj (gSnType.symm.trans h2)
  have hr : Tryd.prog.readableRec 149 = true := by kernel_rfl
  have hl : laidOutB Tryd.prog = true := by kernel_rfl
  exact trodVars_mk1 h1 h2 (var?_below hb h1 (lt_of_var h1 h3) h3)
    (DataW.trod_stays (kids_book hl hr) (book_sized hr) (fun h => by cases h) ⟨of_decide_eq_true (by kernel_rfl), book_self _⟩ h4 (fun x hx => hb.same (hp x hx)) hsp)

set_option maxRecDepth 100000 in
set_option maxHeartbeats 8000000 in
theorem walk (w : World) (v0 : Value) (a0 : List StarV) (w0 : StarsIn w v0 a0) (n0 : a0.length ≤ 9223372036854775807) (a1 : Int) (w1 : (Lit.int .i64 a1).wf = true) (a2 : Int) (w2 : (Lit.int .i64 a2).wf = true) (henv : Env w) :
    Calls Tryd.prog 9 #[v0, .int .i64 a1, .int .i64 a2] w fun e w' => e = .returned (.bool true) ∧ Below w.heap.size w w' := by
  have Z := Lib.hid (fun w h => szS_any 1048576 (by omega) (by omega) (w := w) (v := v0) (zs := a0) h n0)
  have I0 := Lib.hid w0
  have OK : Hid (∀ j, (h : j < a0.length) → a0[j].ok) := Lib.hid (by
    intro j hj
    rcases w0 with ⟨a, cap, _, rfl⟩ | ⟨b, off, cap, _, _, hc⟩
    · cases hj
    · exact (hc j hj).2)
  clear w0 n0
  clear w1 w2
  have E : Hid (SinesOK w) := Lib.hid henv
  clear henv
  go_enter Tryd.func9, Tryd.ntmps9
  go_wp2_with fail
  refine (Z.out _ I0.out).mono ?_
  rintro e w1 ⟨z, rfl, hz0, hz1, hz2, hb1⟩
  have HB1 := Lib.hid hb1
  by_cases hz : z < 0
  · clear hz2 hb1
    go_wp2_with fail
    go_ret
    exact ⟨rfl, HB1.out⟩
  · have hl := hz2 (by omega)
    have I1 := Lib.hid (I0.out.below hb1)
    clear hb1 hz2
    have T := Lib.hid (fun w h => toS_any (w := w) (v := v0) (zs := a0) h hl)
    have F1 := Lib.hid (fun g cap w h => specLine_any g cap a0 a1 a2 w (by omega) h)
    have F2 := Lib.hid (fun g cap w h hf => implLine_any g cap a0 a1 a2 w hf (by omega) h OK.out)
    have EQ := Lib.hid (fun g g' cap cap' w h h' => eqS_full g g' cap cap' a0 w (by omega) h h')
    generalize lineV a0 a1 a2 = V at *
    obtain ⟨rx, ry⟩ := V
    simp only at F1 F2
    go_wp2_with fail
    refine (T.out _ I1.out).mono ?_
    rintro e w2 ⟨rfl, hR2, hb2⟩
    have I2 := Lib.hid (I1.out.below hb2)
    have HB2 := Lib.hid (HB1.out.trans (hb2.mono HB1.out.size))
    have R2 := Lib.hid hR2
    clear hb2 hR2
    go_wp2_with fail
    refine (F1.out _ _ _ R2.out).mono ?_
    rintro e w3 ⟨rfl, hb3⟩
    have I3 := Lib.hid (I2.out.below hb3)
    have HB3 := Lib.hid (HB2.out.trans (hb3.mono HB2.out.size))
    clear hb3
    go_wp2_with fail
    refine (T.out _ I3.out).mono ?_
    rintro e w4 ⟨rfl, hR4, hb4⟩
    have I4 := Lib.hid (I3.out.below hb4)
    have HB4 := Lib.hid (HB3.out.trans (hb4.mono HB3.out.size))
    have R4 := Lib.hid hR4
    clear hb4 hR4
    go_wp2_with fail
    refine (F2.out _ _ _ R4.out (E.out.below HB4.out)).mono ?_
    rintro e w5 ⟨rfl, hb5⟩
    have I5 := Lib.hid (I4.out.below hb5)
    have R5 := Lib.hid (R4.out.below hb5)
    have HB5 := Lib.hid (HB4.out.trans (hb5.mono HB4.out.size))
    clear hb5
    go_wp2_with fail
    refine (T.out _ I5.out).mono ?_
    rintro e w6 ⟨rfl, hR6, hb6⟩
    have R5' := Lib.hid (R5.out.below hb6)
    have HB6 := Lib.hid (HB5.out.trans (hb6.mono HB5.out.size))
    have R6 := Lib.hid hR6
    clear hb6 hR6
    go_wp2_with fail
    refine (EQ.out _ _ _ _ _ R5'.out R6.out).mono ?_
    rintro e w7 ⟨rfl, hb7⟩
    have HB7 := Lib.hid (HB6.out.trans (hb7.mono HB6.out.size))
    clear hb7
    go_wp2_with fail
    go_ret
    exact ⟨rfl, HB7.out⟩

set_option maxRecDepth 100000 in
set_option maxHeartbeats 2000000 in
theorem contract (H : Type) (enc : TypeId × Value → H) (W : World) (base : Nat) (args : Array Value) (ds gs : List (DataW H)) (before : List MemPlace)
    (hval : ∀ (j : Nat) t v, Tryd.f9.params[j]? = some t → args[j]? = some v → Value.okWide Tryd.prog W .any base t v)
    (hW : DataW.Whole enc Tryd.prog Tryd.f9.params.toList Rows.fnExactLineLengthSpec.vars false W args.toList ds gs before) (henv : Env W) :
    Calls Tryd.prog 9 args W fun e W' => ∃ v, e = .returned v ∧ Rows.fnExactLineLengthSpec.post enc Tryd.prog Tryd.f9 false true false false W args v W' := by
  have hW' := hW
  obtain ⟨p, q, hA0, hV, rfl, hfz, hnd⟩ := hW
  have hA : DataW.TrodAll enc Tryd.prog W 0 (fun _ => true) true Tryd.f9.params.toList args.toList ds p := hA0
  rw [Tryd.params9] at hA hval
  obtain ⟨v0, vs0, d0, ds0, p0, q0, hargs0, rfl, rfl, h0, r0⟩ := trodAll_cons hA
  obtain ⟨v1, vs1, d1, ds1, p1, q1, hargs1, rfl, rfl, h1, r1⟩ := trodAll_cons r0
  obtain ⟨v2, vs2, d2, ds2, p2, q2, hargs2, rfl, rfl, h2, r2⟩ := trodAll_cons r1
  obtain ⟨rfl, rfl, rfl⟩ := trodAll_nil r2
  obtain rfl : args = #[v0, v1, v2] := by cases args; simp_all
  have hlt : ∀ x ∈ q, x.block < W.heap.size := hV.lt
  obtain ⟨gv, tv, cs, fuel, dv, pv, rfl, hg1, hg2, hg3, hg4, rfl⟩ := trodVars_one hV
  have h0k := h0
  obtain ⟨sa0, sn0, sc0, rfl⟩ := okWide_slice Tryd.underlying40 (hval 0 40 v0 rfl rfl)
  obtain ⟨a0, w0, n0⟩ := stars_open h0
  obtain ⟨a1, rfl, rfl, rfl, w1⟩ := open_int Tryd.underlying2 (hval 1 2 v1 rfl rfl) h1
  obtain ⟨a2, rfl, rfl, rfl, w2⟩ := open_int Tryd.underlying2 (hval 2 2 v2 rfl rfl) h2
  clear hA0
  have hltp : ∀ x ∈ p0 ++ ([] ++ ([] ++ [])) ++ (MemPlace.row ⟨gv, 0, none⟩ cs.size ++ pv), x.block < W.heap.size := fun x hx => hW'.lt x hx
  refine (walk W _ a0 w0 n0 a1 w1 a2 w2 henv).mono fun e W' ⟨he, hg⟩ => ?_
  subst he
  exact ⟨_, rfl, post_of_below (pa := p0 ++ ([] ++ ([] ++ []))) (pv := MemPlace.row ⟨gv, 0, none⟩ cs.size ++ pv) hW' (fun _ _ _ => (trodAll_cons_mk (shut_bool Tryd.underlying4 _) trodAll_mk0)) (fun sp hsp => (trodAll_cons_mk (WideElems.Trod_stays (by kernel_rfl) (by kernel_rfl) (of_decide_eq_true (by kernel_rfl)) h0k (fun x hx => hg.same (hltp x (by simp [hx]))) (fun x hx => hsp x (by simp [hx]))) (trodAll_cons_mk (shut_int Tryd.underlying2 w1) (trodAll_cons_mk (shut_int Tryd.underlying2 w2) trodAll_mk0)))) (fun sp hsp => vars_stay hg hg1 hg2 hg3 hg4 (fun x hx => hlt x (List.mem_append_right _ hx)) sp (fun x hx => hsp x (List.mem_append_right _ (List.mem_append_right _ hx)))) rfl
    hg (ok_one (by kernel_rfl) rfl (okWide_bool_mk Tryd.underlying4 _))⟩

set_option maxRecDepth 100000 in
theorem laid_met (os : Os) : laidMetH Tryd.prog Rows.fnExactLineLengthRow.laid ((World.laidAll Tryd.prog os Rows.fnExactLineLengthRow.laid).forCall (fun _ _ => 0) ⟨#[], #[.slice none 0 0, .int .i64 0, .int .i64 0], []⟩).memory := by
  rw [MakeChecks.laidMetH_plain _ _ _ (by kernel_rfl)]
  exact laidMet_laidAll _ (by kernel_rfl) (by kernel_rfl)
set_option maxRecDepth 100000 in
theorem reads (os : Os) {H : Type} (enc : TypeId × Value → H) : ∃ places, DataW.whole enc Tryd.prog ((World.laidAll Tryd.prog os Rows.fnExactLineLengthRow.laid).forCall (fun _ _ => 0) ⟨#[], #[.slice none 0 0, .int .i64 0, .int .i64 0], []⟩).memory Tryd.f9.params.toList Rows.fnExactLineLengthSpec.vars false #[.slice none 0 0, .int .i64 0, .int .i64 0].toList 8 = some ([.nil, .lit (.int .i64 0), .lit (.int .i64 0)], [.agg (sinT.map fun z => .lit (.int .i64 z))], places) :=
  ⟨MemPlace.row ⟨1, 0, none⟩ 91, by kernel_rfl⟩

set_option maxRecDepth 100000 in
theorem lifted (os : Os) (started : os.Started) (H : Type) (enc : TypeId × Value → H) (F : Stop.Interp) :
    ReturnsInHanded {} Tryd.checked os 9 .any ((OpenSpec.ofChange Rows.fnExactLineLengthSpec).preRow enc Tryd.prog Tryd.f9 Rows.fnExactLineLengthRow.domain false Rows.fnExactLineLengthRow.laid) (((OpenSpec.ofChange Rows.fnExactLineLengthSpec).at F).post enc Tryd.prog Tryd.f9 false true false false) := by
  obtain ⟨places, hx⟩ := reads os enc
  refine returnsInHanded_of_row (C := Tryd.checked) (s := OpenSpec.ofChange Rows.fnExactLineLengthSpec) own started (by kernel_rfl) Tryd.func9
    (witness_row_at (enc := enc) (C := Tryd.checked) false (World.laidAll Tryd.prog os Rows.fnExactLineLengthRow.laid) #[.slice none 0 0, .int .i64 0, .int .i64 0] (World.laidAll_os _ _ _) (by kernel_rfl) (by kernel_rfl) (by kernel_rfl)
      (OpenSpec.preRow_of_cond 8 hx (by kernel_rfl) (fun k hk => by cases hk) (by kernel_rfl) (laid_met os))) ?_
  intro W base args ds gs before hval hW _ _ _ hL hS _
  rw [MakeChecks.laidMetH_plain _ _ _ (by kernel_rfl)] at hL
  exact contract H enc W base args ds gs before hval hW (env_of hL hS)

theorem said : Rows.FnExactLineLengthSaid :=
  OpenClaim.holds_of_cond 9 Tryd.f9 rfl rfl rfl rfl rfl rfl rfl ⟨rfl, rfl, rfl, rfl, rfl⟩ rfl rfl rfl rfl rfl (by kernel_rfl) Tryd.func9 (by kernel_rfl)
    (of_decide_eq_true (by kernel_rfl)) (by unfold Func.isWrapper; first | (rw [if_pos (by decide +kernel)]; kernel_rfl) | (rw [if_neg (by decide +kernel)]; exact ⟨rfl, rfl⟩))
    (fun os started H enc _ F => by rw [OpenClaim.pre_eq_preRow]; exact lifted os started H enc F)

theorem plain (f : FuncId) (fn : Func) (hf : Tryd.pinned.checked.prog.funcNamed "loop.example/g00955/laws.FnExactLineLength" = some f) (hfn : Tryd.pinned.checked.prog.funcs[f]? = some fn) :
    false = Tryd.pinned.checked.prog.looks [] ∧ ∀ (j : Nat) t, fn.params[j]? = some t → Tryd.pinned.checked.prog.wantsStandIn t = false := by
  obtain rfl : f = 9 := Option.some.inj ((show Tryd.prog.funcNamed "loop.example/g00955/laws.FnExactLineLength" = some 9 by kernel_rfl).symm.trans hf) |>.symm
  obtain rfl : fn = Tryd.f9 := (Option.some.inj (Tryd.func9.symm.trans hfn)).symm
  refine ⟨by kernel_rfl, fun j t ht => ?_⟩
  rw [Tryd.params9] at ht
  have hm : t ∈ [40, 2, 2] := by simpa using Array.mem_of_getElem? ht
  have hall : ([40, 2, 2].all fun u => !Tryd.prog.wantsStandIn u) = true := by kernel_rfl
  exact (show Tryd.prog.wantsStandIn t = false by simpa using List.all_eq_true.1 hall t hm)

theorem card : Rows.FnExactLineLengthCardSaid :=
  Claim7.holds_tied_plain_at .later [] _ _ _ _ said (fun _ h => by cases h) (by kernel_rfl) (fun _ h => by cases h) fnExactLineLength_row_tie rfl ⟨rfl, rfl⟩ (by kernel_rfl) rfl plain (by kernel_rfl)
#print axioms card
end Go.Proofs.YtoellkbmhpekdaaDoor.fnExactLineLength
