/-
  The law FnExactWorstView, with what its package variables hold tied to the program's text: for every input the call returns true, and each argument reads afterwards as it read before. No condition. (The card ties the listed variables to a pruned copy of the project: the packages that this seat's roots load.)
-/
import Derived.Test.YtlklcpnnaolbeaaDoorCards
import Derived.Test.YtlklcpnnaolbeaaDoorTie
import Derived.Test.YtlklcpnnaolbeaaDoorPost0
import Derived.Test.YtlklcpnnaolbeaaDoorViewA
import Derived.Test.YtlklcpnnaolbeaaDoorPost0
import Derived.WalkKit
import Derived.ProofKit
import Derived.OpenShut
import Derived.ChangeMaps5
import Derived.ChangeSlices
import Derived.Carry
import Derived.Lib.SmallJoins
import Derived.Deep.DeepHandedRow
import Derived.Deep.DeepWitnessRowRef
import Derived.Lay
import Derived.Lib.LaidTab
import Derived.Stop.LaidErr
import Derived.MakeChecks
import Derived.Lib.LaidU8
namespace Go.Proofs.YtlklcpnnaolbeaaDoor.fnExactWorstView
open Go.ChangeShapes Go.WideShapes Go.ChangeAt Go.RowKit Go.ChangeMaps
set_option linter.unusedVariables false

theorem own : ownKnob Tryd.prog.godebug = none := by kernel_rfl

-- DATUM .agg (sinT.map fun z => .lit (.int .i64 z)) SIZE 91 G 2
def Env (w : World) : Prop := SinesOK w
theorem gSn : Tryd.prog.globalNamed "loop.example/g00955/impl.sines" = some 2 := by kernel_rfl
theorem gSnType : (Tryd.prog.globals[2]?).map (·.type) = some 159 := by kernel_rfl
theorem cellsI : Tryd.prog.cellsOf 2 = 1 := by kernel_rfl
theorem listed : Rows.fnExactWorstViewRow.laid = [("loop.example/g00955/impl.sines", .agg (sinT.map fun z => .lit (.int .i64 z)))] := rfl
theorem env_of {W : World} (hL : laidMet Tryd.prog Rows.fnExactWorstViewRow.laid W) (_hS : W.ShapedOpen Tryd.prog) : Env W := by
  rw [listed] at hL
  obtain ⟨ps, ⟨g, t, cs, fuel, p, q, hg, ht, hv, hd, _, _⟩, _, _⟩ := hL
  obtain rfl := Option.some.inj (gSn.symm.trans hg)
  obtain rfl := Option.some.inj (gSnType.symm.trans ht)
  refine ⟨lt_of_var gSn hv, fun j hj => ?_⟩
  obtain ⟨xs, m, _, ex, _, hl, hel⟩ := DataW.trod_array Tryd.underlying159 hd
  have hE := hel j hj
  rw [cellsI, Nat.mul_one, List.getElem?_eq_getElem (by omega)] at hE
  obtain ⟨z, e1, e2, _⟩ := DataW.trod_int Tryd.underlying2 hE
  have hlen : sinT.length = 91 := rfl
  have e3 : (xs.map (·.1)) = sinT.map fun z => .lit (.int .i64 z) := (DataW.agg.inj (Prod.mk.inj ex).1).symm
  have e4 : (xs.map (·.1))[j]? = (sinT.map fun z => (DataW.lit (.int .i64 z) : DataW Unit))[j]? := by rw [e3]
  rw [List.getElem?_map, List.getElem?_map, List.getElem?_eq_getElem (by omega : j < xs.length), List.getElem?_eq_getElem (by omega : j < sinT.length), e2] at e4
  have hz : z = tab j := by
    simp only [Option.map_some, Option.some.injEq, DataW.lit.injEq, Lit.int.injEq, true_and] at e4
    rw [e4]; unfold tab; rw [List.getD, List.getElem?_eq_getElem (by omega : j < sinT.length)]; rfl
  rw [World.var?_cell hg hv j, ← hz]
  have h0 : ((cs.toList.drop j).take 1)[0]? = some (.int .i64 z) := by rw [e1]; rfl
  simpa using h0
/-- The named variable reads as it did where below the heap's old size nothing has turned. -/
theorem vars_stay {H : Type} {enc : TypeId × Value → H} {W W' : World} (hb : Below W.heap.size W W') {g : Nat} {t : TypeId} {cs : Array Value} {fuel : Nat} {d : DataW H} {p : List MemPlace}
    (h1 : Tryd.prog.globalNamed "loop.example/g00955/impl.sines" = some g) (h2 : (Tryd.prog.globals[g]?).map (·.type) = some t) (h3 : W.var? Tryd.prog "loop.example/g00955/impl.sines" = some cs)
    (h4 : DataW.trod enc Tryd.prog W 0 (fun _ => true) true fuel t cs.toList = some (d, p)) (hp : ∀ x ∈ p, x.block < W.heap.size) (sp : Nat → Bool) (hsp : ∀ x ∈ p, sp x.block = true) :
    DataW.TrodVars enc Tryd.prog W' sp ["loop.example/g00955/impl.sines"] [d] (MemPlace.row ⟨g, 0, none⟩ cs.size ++ p) := by
  obtain rfl := Option.some.inj (gSn.symm.trans h1)
  obtain rfl := Option.some.inj (gSnType.symm.trans h2)
  have hr : Tryd.prog.readableRec 159 = true := by kernel_rfl
  have hl : laidOutB Tryd.prog = true := by kernel_rfl
  exact trodVars_mk1 h1 h2 (var?_below hb h1 (lt_of_var h1 h3) h3)
    (DataW.trod_stays (kids_book hl hr) (book_sized hr) (fun h => by cases h) ⟨of_decide_eq_true (by kernel_rfl), book_self _⟩ h4 (fun x hx => hb.same (hp x hx)) hsp)

set_option maxHeartbeats 1000000 in
theorem walk (w : World) (s0 : ByteArray) (a0 b0 : Int) (w0 : DomeOk s0 a0 b0) (a1 b1 c1 : Int) (w1 : (Lit.int .i64 a1).wf = true) (x1 : (Lit.int .i64 b1).wf = true) (y1 : (Lit.int .i64 c1).wf = true) (a2 : Int) (w2 : (Lit.int .i64 a2).wf = true) (henv : Env w) :
    Calls Tryd.prog 4 #[.agg #[.string s0, .int .i64 a0, .int .i64 b0], .agg #[.int .i64 a1, .int .i64 b1, .int .i64 c1], .int .i64 a2] w fun e w' => e = .returned (.bool true) ∧ Below w.heap.size w w' := by
  have hm0 : s0.size ≤ maxLen := w0.1
  have fa0 := w0.2.1
  have fb0 := w0.2.2
  have fa2 : fits a2 := wf_fits w2
  have F1 := Lib.hid (fun w => specWorst_any s0 a0 b0 a1 b1 c1 a2  w)
  have F2 := Lib.hid (fun w hs => implWorst_any s0 a0 b0 a1 b1 c1 a2 hm0 w hs)
  have E : Hid (SinesOK w) := Lib.hid henv
  clear henv
  obtain ⟨r0x, r1x, hz⟩ := worstV9_form s0 a0 b0 a1 b1 c1 a2
  rw [hz] at F1 F2
  clear hz
  clear w0 fa0 fb0 w1 x1 y1 w2 fa2
  have KP := Lib.hid (fun (W W' : World) (h : W.cell? ⟨w.heap.size, 0, none⟩ = some (.string s0) ∧ W.cell? ⟨w.heap.size, 1, none⟩ = some (.int .i64 a0) ∧ W.cell? ⟨w.heap.size, 2, none⟩ = some (.int .i64 b0) ∧ W.cell? ⟨w.heap.size + 1, 0, none⟩ = some (.int .i64 a1) ∧ W.cell? ⟨w.heap.size + 1, 1, none⟩ = some (.int .i64 b1) ∧ W.cell? ⟨w.heap.size + 1, 2, none⟩ = some (.int .i64 c1) ∧ Below w.heap.size w W) (hb : Below W.heap.size W W') => (show W'.cell? ⟨w.heap.size, 0, none⟩ = some (.string s0) ∧ W'.cell? ⟨w.heap.size, 1, none⟩ = some (.int .i64 a0) ∧ W'.cell? ⟨w.heap.size, 2, none⟩ = some (.int .i64 b0) ∧ W'.cell? ⟨w.heap.size + 1, 0, none⟩ = some (.int .i64 a1) ∧ W'.cell? ⟨w.heap.size + 1, 1, none⟩ = some (.int .i64 b1) ∧ W'.cell? ⟨w.heap.size + 1, 2, none⟩ = some (.int .i64 c1) ∧ Below w.heap.size w W' from by
    obtain ⟨h0, h1, h2, h3, h4, h5, h6⟩ := h
    obtain ⟨k, _⟩ := bcell hb
    exact ⟨(k _ _ (World.block_lt_of_cell? W ⟨_, _, none⟩ h0)).trans h0, (k _ _ (World.block_lt_of_cell? W ⟨_, _, none⟩ h1)).trans h1, (k _ _ (World.block_lt_of_cell? W ⟨_, _, none⟩ h2)).trans h2, (k _ _ (World.block_lt_of_cell? W ⟨_, _, none⟩ h3)).trans h3, (k _ _ (World.block_lt_of_cell? W ⟨_, _, none⟩ h4)).trans h4, (k _ _ (World.block_lt_of_cell? W ⟨_, _, none⟩ h5)).trans h5, h6.trans (hb.mono h6.size)⟩))
  obtain ⟨W0, hW0⟩ : ∃ W0, W0 = ((w.alloc (.cells #[.string s0, .int .i64 a0, .int .i64 b0] 23)).alloc (.cells #[.int .i64 a1, .int .i64 b1, .int .i64 c1] 25)) := ⟨_, rfl⟩
  have K0 : Hid (W0.cell? ⟨w.heap.size, 0, none⟩ = some (.string s0) ∧ W0.cell? ⟨w.heap.size, 1, none⟩ = some (.int .i64 a0) ∧ W0.cell? ⟨w.heap.size, 2, none⟩ = some (.int .i64 b0) ∧ W0.cell? ⟨w.heap.size + 1, 0, none⟩ = some (.int .i64 a1) ∧ W0.cell? ⟨w.heap.size + 1, 1, none⟩ = some (.int .i64 b1) ∧ W0.cell? ⟨w.heap.size + 1, 2, none⟩ = some (.int .i64 c1) ∧ Below w.heap.size w W0) := Lib.hid (by rw [hW0]; exact ⟨by rw [World.cell?_alloc_lt _ _ _ (by first | (simp; done) | (simp; omega))]; simp, by rw [World.cell?_alloc_lt _ _ _ (by first | (simp; done) | (simp; omega))]; simp, by rw [World.cell?_alloc_lt _ _ _ (by first | (simp; done) | (simp; omega))]; simp, by (rw [World.cell?_alloc_at _ _ _ _ (by first | (simp; done) | (simp; omega))]; rfl), by (rw [World.cell?_alloc_at _ _ _ _ (by first | (simp; done) | (simp; omega))]; rfl), by (rw [World.cell?_alloc_at _ _ _ _ (by first | (simp; done) | (simp; omega))]; rfl), by repeat (first | exact Below.refl _ _ | refine Below.alloc ?_ (by first | (simp; done) | (simp; omega)) _)⟩)
  have HW := Lib.hid hW0
  clear hW0
  have T0 := Lib.hid (fun w => toDome_any s0 a0 b0 w)
  have T1 := Lib.hid (fun w => toVector_any a1 b1 c1 w)
  have Z0 := Lib.hid (fun w => szDome_any s0 a0 b0 1048576 (by omega) (by omega) hm0 w)
  have lz0 := szN_le s0 1048576 (by omega)
  by_cases hz0 : szN s0 1048576 < 0
  · generalize szN s0 1048576 = z0 at *
    go_enter Tryd.func4, Tryd.ntmps4
    obtain ⟨k0, k1, k2, k3, k4, k5, k6⟩ := K0.out
    go_wp2_with fail
    rw [← HW.out]
    clear HW
    refine (Z0.out _).mono ?_
    rintro e w0z ⟨rfl, hb⟩
    have Kz0 := Lib.hid (KP.out _ _ K0.out hb)
    clear hb k0 k1 k2 k3 k4 k5 k6
    obtain ⟨k0, k1, k2, k3, k4, k5, k6⟩ := Kz0.out
    go_wp2_with fail
    go_ret
    exact ⟨rfl, Kz0.out.2.2.2.2.2.2⟩
  · generalize szN s0 1048576 = z0 at *
    go_enter Tryd.func4, Tryd.ntmps4
    obtain ⟨k0, k1, k2, k3, k4, k5, k6⟩ := K0.out
    go_wp2_with fail
    rw [← HW.out]
    clear HW
    refine (Z0.out _).mono ?_
    rintro e w0z ⟨rfl, hb⟩
    have Kz0 := Lib.hid (KP.out _ _ K0.out hb)
    clear hb k0 k1 k2 k3 k4 k5 k6
    obtain ⟨k0, k1, k2, k3, k4, k5, k6⟩ := Kz0.out
    go_wp2_with fail
    go_region_held3 (fun w' => w'.cell? ⟨w.heap.size, 0, none⟩ = some (.string s0) ∧ w'.cell? ⟨w.heap.size, 1, none⟩ = some (.int .i64 a0) ∧ w'.cell? ⟨w.heap.size, 2, none⟩ = some (.int .i64 b0) ∧ w'.cell? ⟨w.heap.size + 1, 0, none⟩ = some (.int .i64 a1) ∧ w'.cell? ⟨w.heap.size + 1, 1, none⟩ = some (.int .i64 b1) ∧ w'.cell? ⟨w.heap.size + 1, 2, none⟩ = some (.int .i64 c1) ∧ Below w.heap.size w w') (first | (exact KP.out _ _ Kz0.out (bel_drew (Below.refl _ _))) | (exact KP.out _ _ Kz0.out yu3) | (exact KP.out _ _ Kz0.out yu2) | (exact KP.out _ _ Kz0.out yu1) | go_keep) ((first
      | (go_at_call 9; (with_reducible refine (T0.out _).mono ?_); rintro e u1 ⟨rfl, hu1⟩; have yu1 := undrewG hu1)
      | (go_at_call 10; (with_reducible refine (T1.out _).mono ?_); rintro e u2 ⟨rfl, hu2⟩; have yu2 := yu1.trans (hu2.mono yu1.size))
      | (go_at_call 12; (with_reducible refine (F1.out _).mono ?_); rintro e u3 ⟨rfl, hu3⟩; have yu3 := yu2.trans (hu3.mono yu2.size))))
    rename_i held
    have R1 := Lib.hid held
    clear held k0 k1 k2 k3 k4 k5 k6
    obtain ⟨k0, k1, k2, k3, k4, k5, k6⟩ := R1.out
    go_wp2_with fail
    go_region_held3 (fun w' => w'.cell? ⟨w.heap.size, 0, none⟩ = some (.string s0) ∧ w'.cell? ⟨w.heap.size, 1, none⟩ = some (.int .i64 a0) ∧ w'.cell? ⟨w.heap.size, 2, none⟩ = some (.int .i64 b0) ∧ w'.cell? ⟨w.heap.size + 1, 0, none⟩ = some (.int .i64 a1) ∧ w'.cell? ⟨w.heap.size + 1, 1, none⟩ = some (.int .i64 b1) ∧ w'.cell? ⟨w.heap.size + 1, 2, none⟩ = some (.int .i64 c1) ∧ Below w.heap.size w w') (first | (exact KP.out _ _ R1.out (bel_drew (Below.refl _ _))) | (exact KP.out _ _ R1.out yv3) | (exact KP.out _ _ R1.out yv2) | (exact KP.out _ _ R1.out yv1) | go_keep) ((first
      | (go_at_call 9; (with_reducible refine (T0.out _).mono ?_); rintro e v1 ⟨rfl, hv1⟩; have yv1 := undrewG hv1)
      | (go_at_call 10; (with_reducible refine (T1.out _).mono ?_); rintro e v2 ⟨rfl, hv2⟩; have yv2 := yv1.trans (hv2.mono yv1.size))
      | (go_at_call 13; (with_reducible refine (F2.out _ (SinesOK.below E.out (k6.trans (yv2.mono k6.size)))).mono ?_); rintro e v3 ⟨rfl, hv3⟩; have yv3 := yv2.trans (hv3.mono yv2.size))))
    rename_i held
    have R2 := Lib.hid held
    clear held k0 k1 k2 k3 k4 k5 k6
    obtain ⟨k0, k1, k2, k3, k4, k5, k6⟩ := R2.out
    go_wp2_with fail
    go_ret
    exact ⟨rfl, R2.out.2.2.2.2.2.2⟩

set_option maxRecDepth 100000 in
theorem contract (H : Type) (enc : TypeId × Value → H) (W : World) (base : Nat) (args : Array Value) (ds gs : List (DataW H)) (before : List MemPlace)
    (hval : ∀ (j : Nat) t v, Tryd.f4.params[j]? = some t → args[j]? = some v → Value.okWide Tryd.prog W .any base t v)
    (hW : DataW.Whole enc Tryd.prog Tryd.f4.params.toList Rows.fnExactWorstViewSpec.vars false W args.toList ds gs before) (henv : Env W) :
    Calls Tryd.prog 4 args W fun e W' => ∃ v, e = .returned v ∧ Rows.fnExactWorstViewSpec.post enc Tryd.prog Tryd.f4 false true false false W args v W' := by
  have hW' := hW
  obtain ⟨p, q, hA0, hV, rfl, hfz, hnd⟩ := hW
  have hA : DataW.TrodAll enc Tryd.prog W 0 (fun _ => true) true Tryd.f4.params.toList args.toList ds p := hA0
  rw [Tryd.params4] at hA hval
  obtain ⟨v0, vs0, d0, ds0, p0, q0, hargs0, rfl, rfl, h0, r0⟩ := trodAll_cons hA
  obtain ⟨v1, vs1, d1, ds1, p1, q1, hargs1, rfl, rfl, h1, r1⟩ := trodAll_cons r0
  obtain ⟨v2, vs2, d2, ds2, p2, q2, hargs2, rfl, rfl, h2, r2⟩ := trodAll_cons r1
  obtain ⟨rfl, rfl, rfl⟩ := trodAll_nil r2
  obtain rfl : args = #[v0, v1, v2] := by cases args; simp_all
  have hlt : ∀ x ∈ q, x.block < W.heap.size := hV.lt
  obtain ⟨gv, tv, cs, fuel, dv, pv, rfl, hg1, hg2, hg3, hg4, rfl⟩ := trodVars_one hV
  have h0k := h0
  obtain ⟨s0, a0, b0, rfl, w0⟩ := dome_open (hval 0 23 v0 rfl rfl) h0
  obtain ⟨va1, vb1, vc1, ya1, yb1, yc1, n1, rfl, rfl, rfl, ta1, tb1, tc1⟩ := Go.Joins.open_agg3 Tryd.underlying25 (by kernel_rfl) (by kernel_rfl) (hval 1 25 v1 rfl rfl) h1
  obtain ⟨a1, ea1, rfl, w1⟩ := DataW.trod_int Tryd.underlying2 ta1
  obtain ⟨b1, eb1, rfl, x1⟩ := DataW.trod_int Tryd.underlying2 tb1
  obtain ⟨c1, ec1, rfl, y1⟩ := DataW.trod_int Tryd.underlying2 tc1
  obtain rfl : va1 = .int .i64 a1 := by simpa using ea1
  obtain rfl : vb1 = .int .i64 b1 := by simpa using eb1
  obtain rfl : vc1 = .int .i64 c1 := by simpa using ec1
  obtain ⟨a2, rfl, rfl, rfl, w2⟩ := open_int Tryd.underlying2 (hval 2 2 v2 rfl rfl) h2
  clear hA0
  have hltp : ∀ x ∈ p0 ++ ([] ++ ([] ++ [])) ++ (MemPlace.row ⟨gv, 0, none⟩ cs.size ++ pv), x.block < W.heap.size := fun x hx => hW'.lt x hx
  refine (walk W s0 a0 b0 w0 a1 b1 c1 w1 x1 y1 a2 w2 henv).mono fun e W' ⟨he, hg⟩ => ?_
  subst he
  exact ⟨_, rfl, post_of_below (pa := p0 ++ ([] ++ ([] ++ []))) (pv := MemPlace.row ⟨gv, 0, none⟩ cs.size ++ pv) hW' (fun _ _ _ => (trodAll_cons_mk (shut_bool Tryd.underlying4 _) trodAll_mk0)) (fun sp hsp => (trodAll_cons_mk (WideElems.Trod_stays (by kernel_rfl) (by kernel_rfl) (of_decide_eq_true (by kernel_rfl)) h0k (fun x hx => hg.same (hltp x (by simp [hx]))) (fun x hx => hsp x (by simp [hx]))) (trodAll_cons_mk (Go.Joins.shut_agg3 (y0 := (.lit (.int .i64 a1), [])) (y1 := (.lit (.int .i64 b1), [])) (y2 := (.lit (.int .i64 c1), [])) Tryd.underlying25 (by kernel_rfl) (by kernel_rfl) ⟨1, trod_int_mk 0 Tryd.underlying2 w1⟩ ⟨1, trod_int_mk 0 Tryd.underlying2 x1⟩ ⟨1, trod_int_mk 0 Tryd.underlying2 y1⟩) (trodAll_cons_mk (shut_int Tryd.underlying2 w2) trodAll_mk0)))) (fun sp hsp => vars_stay hg hg1 hg2 hg3 hg4 (fun x hx => hlt x (List.mem_append_right _ hx)) sp (fun x hx => hsp x (List.mem_append_right _ (List.mem_append_right _ hx)))) rfl
    hg (ok_one (by kernel_rfl) rfl (okWide_bool_mk Tryd.underlying4 _))⟩

set_option maxRecDepth 100000 in
theorem laid_met (os : Os) : laidMetH Tryd.prog Rows.fnExactWorstViewRow.laid ((World.laidAll Tryd.prog os Rows.fnExactWorstViewRow.laid).forCall (fun _ _ => 0) ⟨#[], #[.agg #[.string ByteArray.empty, .int .i64 0, .int .i64 0], .agg #[.int .i64 0, .int .i64 0, .int .i64 0], .int .i64 0], []⟩).memory := by
  rw [MakeChecks.laidMetH_plain _ _ _ (by kernel_rfl)]
  exact laidMet_laidAll _ (by kernel_rfl) (by kernel_rfl)
set_option maxRecDepth 100000 in
theorem reads (os : Os) {H : Type} (enc : TypeId × Value → H) : ∃ places, DataW.whole enc Tryd.prog ((World.laidAll Tryd.prog os Rows.fnExactWorstViewRow.laid).forCall (fun _ _ => 0) ⟨#[], #[.agg #[.string ByteArray.empty, .int .i64 0, .int .i64 0], .agg #[.int .i64 0, .int .i64 0, .int .i64 0], .int .i64 0], []⟩).memory Tryd.f4.params.toList Rows.fnExactWorstViewSpec.vars false #[.agg #[.string ByteArray.empty, .int .i64 0, .int .i64 0], .agg #[.int .i64 0, .int .i64 0, .int .i64 0], .int .i64 0].toList 8 = some ([.agg [.lit (.string []), .lit (.int .i64 0), .lit (.int .i64 0)], .agg [.lit (.int .i64 0), .lit (.int .i64 0), .lit (.int .i64 0)], .lit (.int .i64 0)], [.agg (sinT.map fun z => .lit (.int .i64 z))], places) :=
  ⟨MemPlace.row ⟨2, 0, none⟩ 91, by kernel_rfl⟩

set_option maxRecDepth 100000 in
theorem lifted (os : Os) (started : os.Started) (H : Type) (enc : TypeId × Value → H) (F : Stop.Interp) :
    ReturnsInHanded {} Tryd.checked os 4 .any ((OpenSpec.ofChange Rows.fnExactWorstViewSpec).preRow enc Tryd.prog Tryd.f4 Rows.fnExactWorstViewRow.domain false Rows.fnExactWorstViewRow.laid) (((OpenSpec.ofChange Rows.fnExactWorstViewSpec).at F).post enc Tryd.prog Tryd.f4 false true false false) := by
  obtain ⟨places, hx⟩ := reads os enc
  refine returnsInHanded_of_row (C := Tryd.checked) (s := OpenSpec.ofChange Rows.fnExactWorstViewSpec) own started (by kernel_rfl) Tryd.func4
    (witness_row_at (enc := enc) (C := Tryd.checked) false (World.laidAll Tryd.prog os Rows.fnExactWorstViewRow.laid) #[.agg #[.string ByteArray.empty, .int .i64 0, .int .i64 0], .agg #[.int .i64 0, .int .i64 0, .int .i64 0], .int .i64 0] (World.laidAll_os _ _ _) (by kernel_rfl) (by kernel_rfl) (by kernel_rfl)
      (OpenSpec.preRow_of_cond 8 hx (by kernel_rfl) (fun k hk => by cases hk) (by kernel_rfl) (laid_met os))) ?_
  intro W base args ds gs before hval hW _ _ _ hL hS _
  rw [MakeChecks.laidMetH_plain _ _ _ (by kernel_rfl)] at hL
  exact contract H enc W base args ds gs before hval hW (env_of hL hS)

theorem said : Rows.FnExactWorstViewSaid :=
  OpenClaim.holds_of_cond 4 Tryd.f4 rfl rfl rfl rfl rfl rfl rfl ⟨rfl, rfl, rfl, rfl, rfl⟩ rfl rfl rfl rfl rfl (by kernel_rfl) Tryd.func4 (by kernel_rfl)
    (of_decide_eq_true (by kernel_rfl)) (by unfold Func.isWrapper; first | (rw [if_pos (by decide +kernel)]; kernel_rfl) | (rw [if_neg (by decide +kernel)]; exact ⟨rfl, rfl⟩))
    (fun os started H enc _ F => by rw [OpenClaim.pre_eq_preRow]; exact lifted os started H enc F)

theorem plain (f : FuncId) (fn : Func) (hf : Tryd.pinned.checked.prog.funcNamed "loop.example/g00955/laws.FnExactWorstView" = some f) (hfn : Tryd.pinned.checked.prog.funcs[f]? = some fn) :
    false = Tryd.pinned.checked.prog.looks [] ∧ ∀ (j : Nat) t, fn.params[j]? = some t → Tryd.pinned.checked.prog.wantsStandIn t = false := by
  obtain rfl : f = 4 := Option.some.inj ((show Tryd.prog.funcNamed "loop.example/g00955/laws.FnExactWorstView" = some 4 by kernel_rfl).symm.trans hf) |>.symm
  obtain rfl : fn = Tryd.f4 := (Option.some.inj (Tryd.func4.symm.trans hfn)).symm
  refine ⟨by kernel_rfl, fun j t ht => ?_⟩
  rw [Tryd.params4] at ht
  have hm : t ∈ [23, 25, 2] := by simpa using Array.mem_of_getElem? ht
  have hall : ([23, 25, 2].all fun u => !Tryd.prog.wantsStandIn u) = true := by kernel_rfl
  exact (show Tryd.prog.wantsStandIn t = false by simpa using List.all_eq_true.1 hall t hm)

theorem card : Rows.FnExactWorstViewCardSaid :=
  Claim7.holds_tied_plain_at .later [] _ _ _ _ said (fun _ h => by cases h) (by kernel_rfl) (fun _ h => by cases h) fnExactWorstView_row_tie rfl ⟨rfl, rfl⟩ (by kernel_rfl) rfl plain (by kernel_rfl)
#print axioms card
end Go.Proofs.YtlklcpnnaolbeaaDoor.fnExactWorstView
