/-
  The law FnExactSeparation, with what its package variables hold tied to the program's text: for every input the call returns true, and each argument reads afterwards as it read before. No condition. (The card ties the listed variables to a pruned copy of the project: the packages that this seat's roots load.)
-/
import Derived.Test.YtcaddlgilmncoaaDoorCards
import Derived.Test.YtcaddlgilmncoaaDoorTie
import Derived.Test.YtcaddlgilmncoaaDoorPost0
import Derived.Test.YtcaddlgilmncoaaDoorBelow3
import Derived.Test.YtcaddlgilmncoaaDoorSSep
import Derived.WalkKit
import Derived.ProofKit
import Derived.OpenShut
import Derived.ChangeMaps5
import Derived.Lib.SmallJoins
import Derived.Deep.DeepHandedRow
import Derived.Deep.DeepWitnessRowRef
import Derived.Lay
import Derived.Lib.LaidTab
import Derived.Stop.LaidErr
import Derived.MakeChecks
import Derived.Lib.LaidU8
namespace Go.Proofs.YtcaddlgilmncoaaDoor.fnExactSeparation
open Go.ChangeShapes Go.WideShapes Go.ChangeAt Go.RowKit Go.ChangeMaps
set_option linter.unusedVariables false

theorem own : ownKnob Tryd.prog.godebug = none := by kernel_rfl

-- DATUM .agg (sinT.map fun z => .lit (.int .i64 z)) SIZE 91 G 0
def Env (w : World) : Prop := SinesOK w
theorem gSn : Tryd.prog.globalNamed "loop.example/g00955/impl.sines" = some 0 := by kernel_rfl
theorem gSnType : (Tryd.prog.globals[0]?).map (·.type) = some 84 := by kernel_rfl
theorem cellsI : Tryd.prog.cellsOf 2 = 1 := by kernel_rfl
theorem listed : Rows.fnExactSeparationRow.laid = [("loop.example/g00955/impl.sines", .agg (sinT.map fun z => .lit (.int .i64 z)))] := rfl
theorem env_of {W : World} (hL : laidMet Tryd.prog Rows.fnExactSeparationRow.laid W) (_hS : W.ShapedOpen Tryd.prog) : Env W := by
  rw [listed] at hL
  obtain ⟨ps, ⟨g, t, cs, fuel, p, q, hg, ht, hv, hd, _, _⟩, _, _⟩ := hL
  obtain rfl := Option.some.inj (gSn.symm.trans hg)
  obtain rfl := Option.some.inj (gSnType.symm.trans ht)
  refine ⟨lt_of_var gSn hv, fun j hj => ?_⟩
  obtain ⟨xs, m, _, ex, _, hl, hel⟩ := DataW.trod_array Tryd.underlying84 hd
  have hE := hel j hj
  rw [cellsI, Nat.mul_one, List.getElem?_eq_getElem (by omega)] at hE
  obtain ⟨z, e1, e2, _⟩ := DataW.trod_int Tryd.underlying2 hE
  have hlen : sinT.length = 91 := rfl
  have e3 : (xs.map (·.1)) = sinT.map fun z => .lit (.int .i64 z) := (DataW.agg.inj (Prod.mk.inj ex).1).symm
  have e4 : (xs.map (·.1))[j]? = (sinT.map fun z => (DataW.lit (.int .i64 z) : DataW Unit))[j]? := by rw [e3]
  rw [List.getElem?_map, List.getElem?_map, List.getElem?_eq_getElem (by omega : j < xs.length), List.getElem?_eq_getElem (by omega : j < sinT.length), e2] at e4
  have hz : z = tab j := by
    simp only [Option.map_some, Option.some.injEq, DataW.lit.injEq, Lit.int.injEq, true_and] at e4
    rw [e4]; unfold tab; rw [List.getD, List.getElem?_eq_getElem (by omega : j < sinT.length)]; rfl
  rw [World.var?_cell hg hv j, ← hz]
  have h0 : ((cs.toList.drop j).take 1)[0]? = some (.int .i64 z) := by rw [e1]; rfl
  simpa using h0
/-- The named variable reads as it did where below the heap's old size nothing has turned. -/
theorem vars_stay {H : Type} {enc : TypeId × Value → H} {W W' : World} (hb : Below W.heap.size W W') {g : Nat} {t : TypeId} {cs : Array Value} {fuel : Nat} {d : DataW H} {p : List MemPlace}
    (h1 : Tryd.prog.globalNamed "loop.example/g00955/impl.sines" = some g) (h2 : (Tryd.prog.globals[g]?).map (·.type) = some t) (h3 : W.var? Tryd.prog "loop.example/g00955/impl.sines" = some cs)
    (h4 : DataW.trod enc Tryd.prog W 0 (fun _ => true) true fuel t cs.toList = some (d, p)) (hp : ∀ x ∈ p, x.block < W.heap.size) (sp : Nat → Bool) (hsp : ∀ x ∈ p, sp x.block = true) :
    DataW.TrodVars enc Tryd.prog W' sp ["loop.example/g00955/impl.sines"] [d] (MemPlace.row ⟨g, 0, none⟩ cs.size ++ p) := by
  obtain rfl := Option.some.inj (gSn.symm.trans h1)
  obtain rfl := Option.some.inj (gSnType.symm.trans h2)
  have hr : Tryd.prog.readableRec 84 = true := by kernel_rfl
  have hl : laidOutB Tryd.prog = true := by kernel_rfl
  exact trodVars_mk1 h1 h2 (var?_below hb h1 (lt_of_var h1 h3) h3)
    (DataW.trod_stays (kids_book hl hr) (book_sized hr) (fun h => by cases h) ⟨of_decide_eq_true (by kernel_rfl), book_self _⟩ h4 (fun x hx => hb.same (hp x hx)) hsp)

set_option maxHeartbeats 1000000 in
theorem walk (w : World) (a0 b0 c0 : Int) (w0 : (Lit.int .i64 a0).wf = true) (x0 : (Lit.int .i64 b0).wf = true) (y0 : (Lit.int .i64 c0).wf = true) (a1 b1 c1 : Int) (w1 : (Lit.int .i64 a1).wf = true) (x1 : (Lit.int .i64 b1).wf = true) (y1 : (Lit.int .i64 c1).wf = true) (henv : Env w) :
    Calls Tryd.prog 5 #[.agg #[.int .i64 a0, .int .i64 b0, .int .i64 c0], .agg #[.int .i64 a1, .int .i64 b1, .int .i64 c1]] w fun e w' => e = .returned (.bool true) ∧ Below w.heap.size w w' := by
  clear w0 x0 y0 w1 x1 y1
  have F1 := Lib.hid (fun w => specSep_any a0 b0 c0 a1 b1 c1 w)
  have F2 := Lib.hid (fun w hs => implSep_any a0 b0 c0 a1 b1 c1 w hs)
  have E : Hid (SinesOK w) := Lib.hid henv
  clear henv
  obtain ⟨r0x, r1x, hz⟩ := sepV_form a0 b0 c0 a1 b1 c1
  rw [hz] at F1 F2
  clear hz
  have TA := Lib.hid (fun w => toVector_any a0 b0 c0 w)
  have TB := Lib.hid (fun w => toVector_any a1 b1 c1 w)
  obtain ⟨W0, hW0⟩ : ∃ W0, W0 = (w.alloc (.cells #[.int .i64 a0, .int .i64 b0, .int .i64 c0] 28)).alloc (.cells #[.int .i64 a1, .int .i64 b1, .int .i64 c1] 28) := ⟨_, rfl⟩
  have S0 : Hid (W0.cell? ⟨w.heap.size, 0, none⟩ = some (.int .i64 a0) ∧ W0.cell? ⟨w.heap.size, 1, none⟩ = some (.int .i64 b0) ∧ W0.cell? ⟨w.heap.size, 2, none⟩ = some (.int .i64 c0) ∧ W0.cell? ⟨w.heap.size + 1, 0, none⟩ = some (.int .i64 a1) ∧ W0.cell? ⟨w.heap.size + 1, 1, none⟩ = some (.int .i64 b1) ∧ W0.cell? ⟨w.heap.size + 1, 2, none⟩ = some (.int .i64 c1) ∧ w.heap.size + 1 < W0.heap.size ∧ Below w.heap.size w W0) := Lib.hid (by
    have A0 := (C3.new w 28 a0 b0 c0).alloc (by simp) (.cells #[.int .i64 a1, .int .i64 b1, .int .i64 c1] 28)
    have A1 : C3 W0 (w.heap.size + 1) a1 b1 c1 := by rw [hW0]; simpa using C3.new (w.alloc (.cells #[.int .i64 a0, .int .i64 b0, .int .i64 c0] 28)) 28 a1 b1 c1
    rw [← hW0] at A0
    exact ⟨A0.c0, A0.c1, A0.c2, A1.c0, A1.c1, A1.c2, by rw [hW0]; simp, by rw [hW0]; exact ((Below.refl _ _).alloc (Nat.le_refl _) _).alloc (by simp) _⟩)
  have HW := Lib.hid hW0
  clear hW0
  go_enter Tryd.func5, Tryd.ntmps5
  go_wp2_with fail
  rw [← HW.out]
  clear HW
  obtain ⟨k0, k1, k2, k3, k4, k5, k6, k7⟩ := S0.out
  clear S0
  go_region_held3 (fun w' => w'.cell? ⟨w.heap.size, 0, none⟩ = some (.int .i64 a0) ∧ w'.cell? ⟨w.heap.size, 1, none⟩ = some (.int .i64 b0) ∧ w'.cell? ⟨w.heap.size, 2, none⟩ = some (.int .i64 c0) ∧ w'.cell? ⟨w.heap.size + 1, 0, none⟩ = some (.int .i64 a1) ∧ w'.cell? ⟨w.heap.size + 1, 1, none⟩ = some (.int .i64 b1) ∧ w'.cell? ⟨w.heap.size + 1, 2, none⟩ = some (.int .i64 c1) ∧ w.heap.size + 1 < w'.heap.size ∧ Below w.heap.size w w') (first | (exact keepV ⟨k0, k1, k2, k3, k4, k5, k6, k7⟩ (bel_drew (Below.refl _ _))) | (exact keepV ⟨k0, k1, k2, k3, k4, k5, k6, k7⟩ ub3) | (exact keepV ⟨k0, k1, k2, k3, k4, k5, k6, k7⟩ ub2) | (exact keepV ⟨k0, k1, k2, k3, k4, k5, k6, k7⟩ ub1) | go_keep) ((first
    | (go_at_call 13; (first
      | ((with_reducible refine (TA.out _).mono ?_); rintro e u1 ⟨rfl, hu1⟩; (first | have ub1 := undrewD hu1 | have ub1 := undrewA hu1 | have ub1 := undrew hu1))
      | ((with_reducible refine (TB.out _).mono ?_); rintro e u2 ⟨rfl, hu2⟩; (first | have ub2 := onwardA ub1 hu2 | have ub2 := onward ub1 hu2))))
    | (go_at_call 15; (with_reducible refine (F1.out _).mono ?_); rintro e u3 ⟨rfl, hu3⟩; (first | have ub3 := onwardA ub2 hu3 | have ub3 := onward ub2 hu3))))
  rename_i held
  have S1 := Lib.hid held
  clear held k0 k1 k2 k3 k4 k5 k6 k7 hu1 hu2 hu3
  go_wp2_with fail
  obtain ⟨k0, k1, k2, k3, k4, k5, k6, k7⟩ := S1.out
  clear S1
  go_region_held3 (fun w' => w'.cell? ⟨w.heap.size, 0, none⟩ = some (.int .i64 a0) ∧ w'.cell? ⟨w.heap.size, 1, none⟩ = some (.int .i64 b0) ∧ w'.cell? ⟨w.heap.size, 2, none⟩ = some (.int .i64 c0) ∧ w'.cell? ⟨w.heap.size + 1, 0, none⟩ = some (.int .i64 a1) ∧ w'.cell? ⟨w.heap.size + 1, 1, none⟩ = some (.int .i64 b1) ∧ w'.cell? ⟨w.heap.size + 1, 2, none⟩ = some (.int .i64 c1) ∧ w.heap.size + 1 < w'.heap.size ∧ Below w.heap.size w w') (first | (exact keepV ⟨k0, k1, k2, k3, k4, k5, k6, k7⟩ (bel_drew (Below.refl _ _))) | (exact keepV ⟨k0, k1, k2, k3, k4, k5, k6, k7⟩ vb3) | (exact keepV ⟨k0, k1, k2, k3, k4, k5, k6, k7⟩ vb2) | (exact keepV ⟨k0, k1, k2, k3, k4, k5, k6, k7⟩ vb1) | go_keep) ((first
    | (go_at_call 13; (first
      | ((with_reducible refine (TA.out _).mono ?_); rintro e v1 ⟨rfl, hv1⟩; (first | have vb1 := undrewD hv1 | have vb1 := undrewA hv1 | have vb1 := undrew hv1))
      | ((with_reducible refine (TB.out _).mono ?_); rintro e v2 ⟨rfl, hv2⟩; (first | have vb2 := onwardA vb1 hv2 | have vb2 := onward vb1 hv2))))
    | (go_at_call 16; (with_reducible refine (F2.out _ (SinesOK.below E.out (k7.trans (vb2.mono k7.size)))).mono ?_); rintro e v3 ⟨rfl, hv3⟩; (first | have vb3 := onwardA vb2 hv3 | have vb3 := onward vb2 hv3))))
  rename_i held
  have HB6 := Lib.hid held.2.2.2.2.2.2.2
  clear held k0 k1 k2 k3 k4 k5 k6 k7
  go_wp2_with fail
  go_ret
  exact ⟨rfl, HB6.out⟩

set_option maxRecDepth 100000 in
theorem contract (H : Type) (enc : TypeId × Value → H) (W : World) (base : Nat) (args : Array Value) (ds gs : List (DataW H)) (before : List MemPlace)
    (hval : ∀ (j : Nat) t v, Tryd.f5.params[j]? = some t → args[j]? = some v → Value.okWide Tryd.prog W .any base t v)
    (hW : DataW.Whole enc Tryd.prog Tryd.f5.params.toList Rows.fnExactSeparationSpec.vars false W args.toList ds gs before) (henv : Env W) :
    Calls Tryd.prog 5 args W fun e W' => ∃ v, e = .returned v ∧ Rows.fnExactSeparationSpec.post enc Tryd.prog Tryd.f5 false true false false W args v W' := by
  have hW' := hW
  obtain ⟨p, q, hA0, hV, rfl, hfz, hnd⟩ := hW
  have hA : DataW.TrodAll enc Tryd.prog W 0 (fun _ => true) true Tryd.f5.params.toList args.toList ds p := hA0
  rw [Tryd.params5] at hA hval
  obtain ⟨v0, vs0, d0, ds0, p0, q0, hargs0, rfl, rfl, h0, r0⟩ := trodAll_cons hA
  obtain ⟨v1, vs1, d1, ds1, p1, q1, hargs1, rfl, rfl, h1, r1⟩ := trodAll_cons r0
  obtain ⟨rfl, rfl, rfl⟩ := trodAll_nil r1
  obtain rfl : args = #[v0, v1] := by cases args; simp_all
  have hlt : ∀ x ∈ q, x.block < W.heap.size := hV.lt
  obtain ⟨gv, tv, cs, fuel, dv, pv, rfl, hg1, hg2, hg3, hg4, rfl⟩ := trodVars_one hV
  obtain ⟨va0, vb0, vc0, ya0, yb0, yc0, n0, rfl, rfl, rfl, ta0, tb0, tc0⟩ := Go.Joins.open_agg3 Tryd.underlying28 (by kernel_rfl) (by kernel_rfl) (hval 0 28 v0 rfl rfl) h0
  obtain ⟨a0, ea0, rfl, w0⟩ := DataW.trod_int Tryd.underlying2 ta0
  obtain ⟨b0, eb0, rfl, x0⟩ := DataW.trod_int Tryd.underlying2 tb0
  obtain ⟨c0, ec0, rfl, y0⟩ := DataW.trod_int Tryd.underlying2 tc0
  obtain rfl : va0 = .int .i64 a0 := by simpa using ea0
  obtain rfl : vb0 = .int .i64 b0 := by simpa using eb0
  obtain rfl : vc0 = .int .i64 c0 := by simpa using ec0
  obtain ⟨va1, vb1, vc1, ya1, yb1, yc1, n1, rfl, rfl, rfl, ta1, tb1, tc1⟩ := Go.Joins.open_agg3 Tryd.underlying28 (by kernel_rfl) (by kernel_rfl) (hval 1 28 v1 rfl rfl) h1
  obtain ⟨a1, ea1, rfl, w1⟩ := DataW.trod_int Tryd.underlying2 ta1
  obtain ⟨b1, eb1, rfl, x1⟩ := DataW.trod_int Tryd.underlying2 tb1
  obtain ⟨c1, ec1, rfl, y1⟩ := DataW.trod_int Tryd.underlying2 tc1
  obtain rfl : va1 = .int .i64 a1 := by simpa using ea1
  obtain rfl : vb1 = .int .i64 b1 := by simpa using eb1
  obtain rfl : vc1 = .int .i64 c1 := by simpa using ec1
  clear hA0
  simp only [List.nil_append] at hW'
  refine (walk W a0 b0 c0 w0 x0 y0 a1 b1 c1 w1 x1 y1 henv).mono fun e W' ⟨he, hg⟩ => ?_
  subst he
  exact ⟨_, rfl, post_of_below (pa := []) (pv := MemPlace.row ⟨gv, 0, none⟩ cs.size ++ pv) hW' (fun _ _ _ => (trodAll_cons_mk (shut_bool Tryd.underlying4 _) trodAll_mk0)) (fun sp _ => (trodAll_cons_mk (Go.Joins.shut_agg3 (y0 := (.lit (.int .i64 a0), [])) (y1 := (.lit (.int .i64 b0), [])) (y2 := (.lit (.int .i64 c0), [])) Tryd.underlying28 (by kernel_rfl) (by kernel_rfl) ⟨1, trod_int_mk 0 Tryd.underlying2 w0⟩ ⟨1, trod_int_mk 0 Tryd.underlying2 x0⟩ ⟨1, trod_int_mk 0 Tryd.underlying2 y0⟩) (trodAll_cons_mk (Go.Joins.shut_agg3 (y0 := (.lit (.int .i64 a1), [])) (y1 := (.lit (.int .i64 b1), [])) (y2 := (.lit (.int .i64 c1), [])) Tryd.underlying28 (by kernel_rfl) (by kernel_rfl) ⟨1, trod_int_mk 0 Tryd.underlying2 w1⟩ ⟨1, trod_int_mk 0 Tryd.underlying2 x1⟩ ⟨1, trod_int_mk 0 Tryd.underlying2 y1⟩) trodAll_mk0))) (fun sp hsp => vars_stay hg hg1 hg2 hg3 hg4 (fun x hx => hlt x (List.mem_append_right _ hx)) sp (fun x hx => hsp x (List.mem_append_right _ hx))) rfl
    hg (ok_one (by kernel_rfl) rfl (okWide_bool_mk Tryd.underlying4 _))⟩

set_option maxRecDepth 100000 in
theorem laid_met (os : Os) : laidMetH Tryd.prog Rows.fnExactSeparationRow.laid ((World.laidAll Tryd.prog os Rows.fnExactSeparationRow.laid).forCall (fun _ _ => 0) ⟨#[], #[.agg #[.int .i64 0, .int .i64 0, .int .i64 0], .agg #[.int .i64 0, .int .i64 0, .int .i64 0]], []⟩).memory := by
  rw [MakeChecks.laidMetH_plain _ _ _ (by kernel_rfl)]
  exact laidMet_laidAll _ (by kernel_rfl) (by kernel_rfl)
set_option maxRecDepth 100000 in
theorem reads (os : Os) {H : Type} (enc : TypeId × Value → H) : ∃ places, DataW.whole enc Tryd.prog ((World.laidAll Tryd.prog os Rows.fnExactSeparationRow.laid).forCall (fun _ _ => 0) ⟨#[], #[.agg #[.int .i64 0, .int .i64 0, .int .i64 0], .agg #[.int .i64 0, .int .i64 0, .int .i64 0]], []⟩).memory Tryd.f5.params.toList Rows.fnExactSeparationSpec.vars false #[.agg #[.int .i64 0, .int .i64 0, .int .i64 0], .agg #[.int .i64 0, .int .i64 0, .int .i64 0]].toList 8 = some ([.agg [.lit (.int .i64 0), .lit (.int .i64 0), .lit (.int .i64 0)], .agg [.lit (.int .i64 0), .lit (.int .i64 0), .lit (.int .i64 0)]], [.agg (sinT.map fun z => .lit (.int .i64 z))], places) :=
  ⟨MemPlace.row ⟨0, 0, none⟩ 91, by kernel_rfl⟩

set_option maxRecDepth 100000 in
theorem lifted (os : Os) (started : os.Started) (H : Type) (enc : TypeId × Value → H) (F : Stop.Interp) :
    ReturnsInHanded {} Tryd.checked os 5 .any ((OpenSpec.ofChange Rows.fnExactSeparationSpec).preRow enc Tryd.prog Tryd.f5 Rows.fnExactSeparationRow.domain false Rows.fnExactSeparationRow.laid) (((OpenSpec.ofChange Rows.fnExactSeparationSpec).at F).post enc Tryd.prog Tryd.f5 false true false false) := by
  obtain ⟨places, hx⟩ := reads os enc
  refine returnsInHanded_of_row (C := Tryd.checked) (s := OpenSpec.ofChange Rows.fnExactSeparationSpec) own started (by kernel_rfl) Tryd.func5
    (witness_row_at (enc := enc) (C := Tryd.checked) false (World.laidAll Tryd.prog os Rows.fnExactSeparationRow.laid) #[.agg #[.int .i64 0, .int .i64 0, .int .i64 0], .agg #[.int .i64 0, .int .i64 0, .int .i64 0]] (World.laidAll_os _ _ _) (by kernel_rfl) (by kernel_rfl) (by kernel_rfl)
      (OpenSpec.preRow_of_cond 8 hx (by kernel_rfl) (fun k hk => by cases hk) (by kernel_rfl) (laid_met os))) ?_
  intro W base args ds gs before hval hW _ _ _ hL hS _
  rw [MakeChecks.laidMetH_plain _ _ _ (by kernel_rfl)] at hL
  exact contract H enc W base args ds gs before hval hW (env_of hL hS)

theorem said : Rows.FnExactSeparationSaid :=
  OpenClaim.holds_of_cond 5 Tryd.f5 rfl rfl rfl rfl rfl rfl rfl ⟨rfl, rfl, rfl, rfl, rfl⟩ rfl rfl rfl rfl rfl (by kernel_rfl) Tryd.func5 (by kernel_rfl)
    (of_decide_eq_true (by kernel_rfl)) (by unfold Func.isWrapper; first | (rw [if_pos (by decide +kernel)]; kernel_rfl) | (rw [if_neg (by decide +kernel)]; exact ⟨rfl, rfl⟩))
    (fun os started H enc _ F => by rw [OpenClaim.pre_eq_preRow]; exact lifted os started H enc F)

theorem plain (f : FuncId) (fn : Func) (hf : Tryd.pinned.checked.prog.funcNamed "loop.example/g00955/laws.FnExactSeparation" = some f) (hfn : Tryd.pinned.checked.prog.funcs[f]? = some fn) :
    false = Tryd.pinned.checked.prog.looks [] ∧ ∀ (j : Nat) t, fn.params[j]? = some t → Tryd.pinned.checked.prog.wantsStandIn t = false := by
  obtain rfl : f = 5 := Option.some.inj ((show Tryd.prog.funcNamed "loop.example/g00955/laws.FnExactSeparation" = some 5 by kernel_rfl).symm.trans hf) |>.symm
  obtain rfl : fn = Tryd.f5 := (Option.some.inj (Tryd.func5.symm.trans hfn)).symm
  refine ⟨by kernel_rfl, fun j t ht => ?_⟩
  rw [Tryd.params5] at ht
  have hm : t ∈ [28] := by simpa using Array.mem_of_getElem? ht
  have hall : ([28].all fun u => !Tryd.prog.wantsStandIn u) = true := by kernel_rfl
  exact (show Tryd.prog.wantsStandIn t = false by simpa using List.all_eq_true.1 hall t hm)

theorem card : Rows.FnExactSeparationCardSaid :=
  Claim7.holds_tied_plain_at .later [] _ _ _ _ said (fun _ h => by cases h) (by kernel_rfl) (fun _ h => by cases h) fnExactSeparation_row_tie rfl ⟨rfl, rfl⟩ (by kernel_rfl) rfl plain (by kernel_rfl)
#print axioms card
end Go.Proofs.YtcaddlgilmncoaaDoor.fnExactSeparation
