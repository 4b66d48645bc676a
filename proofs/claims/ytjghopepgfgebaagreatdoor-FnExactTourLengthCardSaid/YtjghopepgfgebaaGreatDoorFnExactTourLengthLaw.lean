/-
  The law FnExactTourLength, with what its package variables hold tied to the program's text: for every input the call returns true, and each argument reads afterwards as it read before. No condition. (The card ties the listed variables to a pruned copy of the project: the packages that this seat's roots load.)
-/
import Derived.Test.YtjghopepgfgebaaGreatDoorCards
import Derived.Test.YtjghopepgfgebaaGreatDoorTie
import Derived.Test.YtjghopepgfgebaaGreatDoorPost0
import Derived.Test.YtjghopepgfgebaaGreatDoorTourAll
import Derived.Test.YtjghopepgfgebaaGreatDoorPost0
import Derived.WalkKit
import Derived.ProofKit
import Derived.OpenShut
import Derived.ChangeMaps5
import Derived.ChangeSlices
import Derived.Carry
import Derived.Lib.SmallJoins
import Derived.Deep.DeepHandedRow
import Derived.Deep.DeepWitnessRowRef
import Derived.Lay
import Derived.Lib.LaidTab
import Derived.Stop.LaidErr
import Derived.MakeChecks
import Derived.Lib.LaidU8
namespace Go.Proofs.YtjghopepgfgebaaGreatDoor.fnExactTourLength
open Go.ChangeShapes Go.WideShapes Go.ChangeAt Go.RowKit Go.ChangeMaps
set_option linter.unusedVariables false

theorem own : ownKnob Tryz.prog.godebug = none := by kernel_rfl

-- DATUM .agg (sinT.map fun z => .lit (.int .i64 z)) SIZE 91 G 0
def Env (w : World) : Prop := SinesOK w
theorem gSn : Tryz.prog.globalNamed "loop.example/g00955/impl.sines" = some 0 := by kernel_rfl
theorem gSnType : (Tryz.prog.globals[0]?).map (·.type) = some 184 := by kernel_rfl
theorem cellsI : Tryz.prog.cellsOf 2 = 1 := by kernel_rfl
theorem listed : Rows.fnExactTourLengthRow.laid = [("loop.example/g00955/impl.sines", .agg (sinT.map fun z => .lit (.int .i64 z)))] := rfl
theorem env_of {W : World} (hL : laidMet Tryz.prog Rows.fnExactTourLengthRow.laid W) (_hS : W.ShapedOpen Tryz.prog) : Env W := by
  rw [listed] at hL
  obtain ⟨ps, ⟨g, t, cs, fuel, p, q, hg, ht, hv, hd, _, _⟩, _, _⟩ := hL
  obtain rfl := Option.some.inj (gSn.symm.trans hg)
  obtain rfl := Option.some.inj (gSnType.symm.trans ht)
  refine ⟨lt_of_var gSn hv, fun j hj => ?_⟩
  obtain ⟨xs, m, _, ex, _, hl, hel⟩ := DataW.trod_array Tryz.underlying184 hd
  have hE := hel j hj
  rw [cellsI, Nat.mul_one, List.getElem?_eq_getElem (by omega)] at hE
  obtain ⟨z, e1, e2, _⟩ := DataW.trod_int Tryz.underlying2 hE
  have hlen : sinT.length = 91 := rfl
  have e3 : (xs.map (·.1)) = sinT.map fun z => .lit (.int .i64 z) := (DataW.agg.inj (Prod.mk.inj ex).1).symm
  have e4 : (xs.map (·.1))[j]? = (sinT.map fun z => (DataW.lit (.int .i64 z) : DataW Unit))[j]? := by rw [e3]
  rw [List.getElem?_map, List.getElem?_map, List.getElem?_eq_getElem (by omega : j < xs.length), List.getElem?_eq_getElem (by omega : j < sinT.length), e2] at e4
  have hz : z = tab j := by
    simp only [Option.map_some, Option.some.injEq, DataW.lit.injEq, Lit.int.injEq, true_and] at e4
    rw [e4]; unfold tab; rw [List.getD, List.getElem?_eq_getElem (by omega : j < sinT.length)]; rfl
  rw [World.var?_cell hg hv j, ← hz]
  have h0 : ((cs.toList.drop j).take 1)[0]? = some (.int .i64 z) := by rw [e1]; rfl
  simpa using h0
/-- The named variable reads as it did where below the heap's old size nothing has turned. -/
theorem vars_stay {H : Type} {enc : TypeId × Value → H} {W W' : World} (hb : Below W.heap.size W W') {g : Nat} {t : TypeId} {cs : Array Value} {fuel : Nat} {d : DataW H} {p : List MemPlace}
    (h1 : Tryz.prog.globalNamed "loop.example/g00955/impl.sines" = some g) (h2 : (Tryz.prog.globals[g]?).map (·.type) = some t) (h3 : W.var? Tryz.prog "loop.example/g00955/impl.sines" = some cs)
    (h4 : DataW.trod enc Tryz.prog W 0 (fun _ => true) true fuel t cs.toList = some (d, p)) (hp : ∀ x ∈ p, x.block < W.heap.size) (sp : Nat → Bool) (hsp : ∀ x ∈ p, sp x.block = true) :
    DataW.TrodVars enc Tryz.prog W' sp ["loop.example/g00955/impl.sines"] [d] (MemPlace.row ⟨g, 0, none⟩ cs.size ++ p) := by
  obtain rfl := Option.some.inj (gSn.symm.trans h1)
  obtain rfl := Option.some.inj (gSnType.symm.trans h2)
  have hr : Tryz.prog.readableRec 184 = true := by kernel_rfl
  have hl : laidOutB Tryz.prog = true := by kernel_rfl
  exact trodVars_mk1 h1 h2 (var?_below hb h1 (lt_of_var h1 h3) h3)
    (DataW.trod_stays (kids_book hl hr) (book_sized hr) (fun h => by cases h) ⟨of_decide_eq_true (by kernel_rfl), book_self _⟩ h4 (fun x hx => hb.same (hp x hx)) hsp)

set_option maxRecDepth 100000 in
set_option maxHeartbeats 8000000 in
theorem walk (w : World) (v0 : Value) (a0 : List StarV) (w0 : StarsIn w v0 a0) (n0 : a0.length ≤ 9223372036854775807) (v1 : Value) (a1 : List Int) (w1 : NumsIn w v1 a1) (henv : Env w) :
    Calls Tryz.prog 4 #[v0, v1] w fun e w' => e = .returned (.bool true) ∧ Below w.heap.size w w' := by
  have Z := Lib.hid (fun w h => szS_any 1048576 (by omega) (by omega) (w := w) (v := v0) (zs := a0) h n0)
  have I0 := Lib.hid w0
  have OK : Hid (∀ j, (h : j < a0.length) → a0[j].ok) := Lib.hid (by
    intro j hj
    rcases w0 with ⟨a, cap, _, rfl⟩ | ⟨b, off, cap, _, _, hc⟩
    · cases hj
    · exact (hc j hj).2)
  obtain ⟨na, nc, rfl⟩ := w1.len
  have N0 := Lib.hid w1
  clear w0 n0 w1
  have E : Hid (SinesOK w) := Lib.hid henv
  clear henv
  by_cases hbig : 1048576 < a1.length
  · have h1 : decide ((1048576 : Int) < (a1.length : Int)) = true := by simp; omega
    go_enter Tryz.func4, Tryz.ntmps4
    go_wp2_with fail
    go_ret
    exact ⟨rfl, Below.refl _ _⟩
  have h1 : decide ((1048576 : Int) < (a1.length : Int)) = false := by simp; omega
  go_enter Tryz.func4, Tryz.ntmps4
  go_wp2_with fail
  refine (Z.out _ I0.out).mono ?_
  rintro e w1 ⟨z, rfl, hz0, hz1, hz2, hb1⟩
  have HB1 := Lib.hid hb1
  by_cases hz : z < 0
  · clear hz2 hb1
    go_wp2_with fail
    go_ret
    exact ⟨rfl, HB1.out⟩
  · have hl := hz2 (by omega)
    have I1 := Lib.hid (I0.out.below hb1)
    have N1 := Lib.hid (N0.out.below hb1)
    clear hb1 hz2
    have T := Lib.hid (fun w h => toS_any (w := w) (v := v0) (zs := a0) h hl)
    have TN := Lib.hid (fun w h => toN_any (w := w) (v := .slice na a1.length nc) (zs := a1) h (by omega))
    have EQ := Lib.hid (fun g g' cap cap' w h h' => eqS_full g g' cap cap' a0 w (by omega) h h')
    have EN := Lib.hid (fun g g' cap cap' w h h' => eqN_any g g' cap cap' a1 w (by omega) h h')
    have F1 := Lib.hid (fun g cap b cap' w h h' => specTour_any g cap b cap' a0 a1 w (by omega) (by omega) h h')
    have F2 := Lib.hid (fun g cap b cap' w h h' hs => implTour_any g cap b cap' a0 a1 w hs (by omega) (by omega) h OK.out h')
    generalize tourV a0 a1 = V at *
    obtain ⟨rx, ry⟩ := V
    simp only at F1 F2
    go_wp2_with fail
    refine (T.out _ I1.out).mono ?_
    rintro e w2 ⟨rfl, hR, hb2⟩
    have HB2 := Lib.hid (HB1.out.trans (hb2.mono HB1.out.size))
    have I2 := Lib.hid (I1.out.below hb2)
    have N2 := Lib.hid (N1.out.below hb2)
    have R2 := Lib.hid hR
    clear hb2 hR
    go_wp2_with fail
    refine (TN.out _ N2.out).mono ?_
    rintro e w3 ⟨rfl, hR, hb3⟩
    have HB3 := Lib.hid (HB2.out.trans (hb3.mono HB2.out.size))
    have I3 := Lib.hid (I2.out.below hb3)
    have N3 := Lib.hid (N2.out.below hb3)
    have R3 := Lib.hid (R2.out.below hb3)
    have M3 := Lib.hid hR
    clear hb3 hR
    go_wp2_with fail
    refine (F1.out _ _ _ _ _ R3.out M3.out).mono ?_
    rintro e w4 ⟨rfl, hb4⟩
    have HB4 := Lib.hid (HB3.out.trans (hb4.mono HB3.out.size))
    have I4 := Lib.hid (I3.out.below hb4)
    have N4 := Lib.hid (N3.out.below hb4)
    have R4 := Lib.hid (R3.out.below hb4)
    have M4 := Lib.hid (M3.out.below hb4)
    clear hb4
    go_wp2_with fail
    refine (T.out _ I4.out).mono ?_
    rintro e w5 ⟨rfl, hR, hb5⟩
    have HB5 := Lib.hid (HB4.out.trans (hb5.mono HB4.out.size))
    have I5 := Lib.hid (I4.out.below hb5)
    have N5 := Lib.hid (N4.out.below hb5)
    have R5 := Lib.hid hR
    clear hb5 hR
    go_wp2_with fail
    refine (TN.out _ N5.out).mono ?_
    rintro e w6 ⟨rfl, hR, hb6⟩
    have HB6 := Lib.hid (HB5.out.trans (hb6.mono HB5.out.size))
    have I6 := Lib.hid (I5.out.below hb6)
    have N6 := Lib.hid (N5.out.below hb6)
    have R6 := Lib.hid (R5.out.below hb6)
    have M6 := Lib.hid hR
    clear hb6 hR
    go_wp2_with fail
    refine (F2.out _ _ _ _ _ R6.out M6.out (E.out.below HB6.out)).mono ?_
    rintro e w7 ⟨rfl, hb7⟩
    have HB7 := Lib.hid (HB6.out.trans (hb7.mono HB6.out.size))
    have I7 := Lib.hid (I6.out.below hb7)
    have N7 := Lib.hid (N6.out.below hb7)
    have R7 := Lib.hid (R6.out.below hb7)
    have M7 := Lib.hid (M6.out.below hb7)
    clear hb7
    go_wp2_with fail
    refine (T.out _ I7.out).mono ?_
    rintro e w8 ⟨rfl, hR, hb8⟩
    have HB8 := Lib.hid (HB7.out.trans (hb8.mono HB7.out.size))
    have I8 := Lib.hid (I7.out.below hb8)
    have N8 := Lib.hid (N7.out.below hb8)
    have R8 := Lib.hid (R7.out.below hb8)
    have M8 := Lib.hid (M7.out.below hb8)
    have U8 := Lib.hid hR
    clear hb8 hR
    go_wp2_with fail
    refine (EQ.out _ _ _ _ _ R8.out U8.out).mono ?_
    rintro e w9 ⟨rfl, hb9⟩
    have HB9 := Lib.hid (HB8.out.trans (hb9.mono HB8.out.size))
    have I9 := Lib.hid (I8.out.below hb9)
    have N9 := Lib.hid (N8.out.below hb9)
    have R9 := Lib.hid (R8.out.below hb9)
    have M9 := Lib.hid (M8.out.below hb9)
    have U9 := Lib.hid (U8.out.below hb9)
    clear hb9
    go_wp2_with fail
    refine (TN.out _ N9.out).mono ?_
    rintro e w10 ⟨rfl, hR, hb10⟩
    have HB10 := Lib.hid (HB9.out.trans (hb10.mono HB9.out.size))
    have I10 := Lib.hid (I9.out.below hb10)
    have N10 := Lib.hid (N9.out.below hb10)
    have R10 := Lib.hid (R9.out.below hb10)
    have M10 := Lib.hid (M9.out.below hb10)
    have U10 := Lib.hid (U9.out.below hb10)
    have O10 := Lib.hid hR
    clear hb10 hR
    go_wp2_with fail
    refine (EN.out _ _ _ _ _ M10.out O10.out).mono ?_
    rintro e w11 ⟨rfl, q, rfl⟩
    go_wp2_with fail
    go_ret
    exact ⟨rfl, bel_d2 HB10.out q⟩

set_option maxRecDepth 100000 in
set_option maxHeartbeats 2000000 in
theorem contract (H : Type) (enc : TypeId × Value → H) (W : World) (base : Nat) (args : Array Value) (ds gs : List (DataW H)) (before : List MemPlace)
    (hval : ∀ (j : Nat) t v, Tryz.f4.params[j]? = some t → args[j]? = some v → Value.okWide Tryz.prog W .any base t v)
    (hW : DataW.Whole enc Tryz.prog Tryz.f4.params.toList Rows.fnExactTourLengthSpec.vars false W args.toList ds gs before) (henv : Env W) :
    Calls Tryz.prog 4 args W fun e W' => ∃ v, e = .returned v ∧ Rows.fnExactTourLengthSpec.post enc Tryz.prog Tryz.f4 false true false false W args v W' := by
  have hW' := hW
  obtain ⟨p, q, hA0, hV, rfl, hfz, hnd⟩ := hW
  have hA : DataW.TrodAll enc Tryz.prog W 0 (fun _ => true) true Tryz.f4.params.toList args.toList ds p := hA0
  rw [Tryz.params4] at hA hval
  obtain ⟨v0, vs0, d0, ds0, p0, q0, hargs0, rfl, rfl, h0, r0⟩ := trodAll_cons hA
  obtain ⟨v1, vs1, d1, ds1, p1, q1, hargs1, rfl, rfl, h1, r1⟩ := trodAll_cons r0
  obtain ⟨rfl, rfl, rfl⟩ := trodAll_nil r1
  obtain rfl : args = #[v0, v1] := by cases args; simp_all
  have hlt : ∀ x ∈ q, x.block < W.heap.size := hV.lt
  obtain ⟨gv, tv, cs, fuel, dv, pv, rfl, hg1, hg2, hg3, hg4, rfl⟩ := trodVars_one hV
  have h0k := h0
  obtain ⟨sa0, sn0, sc0, rfl⟩ := okWide_slice Tryz.underlying24 (hval 0 24 v0 rfl rfl)
  obtain ⟨a0, w0, n0⟩ := stars_open h0
  have h1k := h1
  obtain ⟨sa1, sn1, sc1, rfl⟩ := okWide_slice Tryz.underlying27 (hval 1 27 v1 rfl rfl)
  have hin1 : ∃ zs : List Int, NumsIn W (.slice sa1 sn1 sc1) zs := by
    obtain ⟨fuel, hf⟩ := h1
    rcases open_ints Tryz.underlying27 Tryz.underlying2 (by kernel_rfl) hf with ⟨hcs, hx⟩ | ⟨a, len', cap', zs, hcs, _, hl, hm, hz, hx, hcell, hwz⟩
    · simp [Value.cells] at hcs
      obtain ⟨rfl, rfl, rfl⟩ := hcs
      exact ⟨[], .inl ⟨_, _, rfl, rfl⟩⟩
    · simp [Value.cells] at hcs
      obtain ⟨rfl, rfl, rfl⟩ := hcs
      simp only [if_true] at hz
      by_cases hl0 : sn1 = 0
      · subst hl0
        exact ⟨[], .inl ⟨_, _, rfl, rfl⟩⟩
      · obtain ⟨b, off, spot⟩ := a
        have hspot : spot = none := by simpa [Addr.add] using World.cell?_spot (hcell 0 (by omega))
        subst hspot
        have hlt : (zs.take sn1).length = sn1 := by simp; omega
        have hget : ∀ j, (h : j < (zs.take sn1).length) → W.cell? ⟨b, off + j, none⟩ = some (.int .i64 (zs.take sn1)[j]) := by
          intro j hj
          have h1 := hcell j (by omega)
          rw [add_plain] at h1
          rw [h1]
          simp [List.getD, show j < zs.length by omega]
        exact ⟨zs.take sn1, .inr ⟨b, off, sc1, by rw [hlt], World.block_lt_of_cell? W ⟨b, off + 0, none⟩ (hget 0 (by omega)), fun j hj => ⟨hget j hj, fit64 (hwz _ (List.mem_of_mem_take (List.getElem_mem hj)))⟩⟩⟩
  obtain ⟨a1, w1⟩ := hin1
  clear hA0
  have hltp : ∀ x ∈ p0 ++ (p1 ++ []) ++ (MemPlace.row ⟨gv, 0, none⟩ cs.size ++ pv), x.block < W.heap.size := fun x hx => hW'.lt x hx
  refine (walk W _ a0 w0 n0 _ a1 w1 henv).mono fun e W' ⟨he, hg⟩ => ?_
  subst he
  exact ⟨_, rfl, post_of_below (pa := p0 ++ (p1 ++ [])) (pv := MemPlace.row ⟨gv, 0, none⟩ cs.size ++ pv) hW' (fun _ _ _ => (trodAll_cons_mk (shut_bool Tryz.underlying4 _) trodAll_mk0)) (fun sp hsp => (trodAll_cons_mk (WideElems.Trod_stays (by kernel_rfl) (by kernel_rfl) (of_decide_eq_true (by kernel_rfl)) h0k (fun x hx => hg.same (hltp x (by simp [hx]))) (fun x hx => hsp x (by simp [hx]))) (trodAll_cons_mk (WideElems.Trod_stays (by kernel_rfl) (by kernel_rfl) (of_decide_eq_true (by kernel_rfl)) h1k (fun x hx => hg.same (hltp x (by simp [hx]))) (fun x hx => hsp x (by simp [hx]))) trodAll_mk0))) (fun sp hsp => vars_stay hg hg1 hg2 hg3 hg4 (fun x hx => hlt x (List.mem_append_right _ hx)) sp (fun x hx => hsp x (List.mem_append_right _ (List.mem_append_right _ hx)))) rfl
    hg (ok_one (by kernel_rfl) rfl (okWide_bool_mk Tryz.underlying4 _))⟩

set_option maxRecDepth 100000 in
theorem laid_met (os : Os) : laidMetH Tryz.prog Rows.fnExactTourLengthRow.laid ((World.laidAll Tryz.prog os Rows.fnExactTourLengthRow.laid).forCall (fun _ _ => 0) ⟨#[], #[.slice none 0 0, .slice none 0 0], []⟩).memory := by
  rw [MakeChecks.laidMetH_plain _ _ _ (by kernel_rfl)]
  exact laidMet_laidAll _ (by kernel_rfl) (by kernel_rfl)
set_option maxRecDepth 100000 in
theorem reads (os : Os) {H : Type} (enc : TypeId × Value → H) : ∃ places, DataW.whole enc Tryz.prog ((World.laidAll Tryz.prog os Rows.fnExactTourLengthRow.laid).forCall (fun _ _ => 0) ⟨#[], #[.slice none 0 0, .slice none 0 0], []⟩).memory Tryz.f4.params.toList Rows.fnExactTourLengthSpec.vars false #[.slice none 0 0, .slice none 0 0].toList 8 = some ([.nil, .nil], [.agg (sinT.map fun z => .lit (.int .i64 z))], places) :=
  ⟨MemPlace.row ⟨0, 0, none⟩ 91, by kernel_rfl⟩

set_option maxRecDepth 100000 in
theorem lifted (os : Os) (started : os.Started) (H : Type) (enc : TypeId × Value → H) (F : Stop.Interp) :
    ReturnsInHanded {} Tryz.checked os 4 .any ((OpenSpec.ofChange Rows.fnExactTourLengthSpec).preRow enc Tryz.prog Tryz.f4 Rows.fnExactTourLengthRow.domain false Rows.fnExactTourLengthRow.laid) (((OpenSpec.ofChange Rows.fnExactTourLengthSpec).at F).post enc Tryz.prog Tryz.f4 false true false false) := by
  obtain ⟨places, hx⟩ := reads os enc
  refine returnsInHanded_of_row (C := Tryz.checked) (s := OpenSpec.ofChange Rows.fnExactTourLengthSpec) own started (by kernel_rfl) Tryz.func4
    (witness_row_at (enc := enc) (C := Tryz.checked) false (World.laidAll Tryz.prog os Rows.fnExactTourLengthRow.laid) #[.slice none 0 0, .slice none 0 0] (World.laidAll_os _ _ _) (by kernel_rfl) (by kernel_rfl) (by kernel_rfl)
      (OpenSpec.preRow_of_cond 8 hx (by kernel_rfl) (fun k hk => by cases hk) (by kernel_rfl) (laid_met os))) ?_
  intro W base args ds gs before hval hW _ _ _ hL hS _
  rw [MakeChecks.laidMetH_plain _ _ _ (by kernel_rfl)] at hL
  exact contract H enc W base args ds gs before hval hW (env_of hL hS)

theorem said : Rows.FnExactTourLengthSaid :=
  OpenClaim.holds_of_cond 4 Tryz.f4 rfl rfl rfl rfl rfl rfl rfl ⟨rfl, rfl, rfl, rfl, rfl⟩ rfl rfl rfl rfl rfl (by kernel_rfl) Tryz.func4 (by kernel_rfl)
    (of_decide_eq_true (by kernel_rfl)) (by unfold Func.isWrapper; first | (rw [if_pos (by decide +kernel)]; kernel_rfl) | (rw [if_neg (by decide +kernel)]; exact ⟨rfl, rfl⟩))
    (fun os started H enc _ F => by rw [OpenClaim.pre_eq_preRow]; exact lifted os started H enc F)

theorem plain (f : FuncId) (fn : Func) (hf : Tryz.pinned.checked.prog.funcNamed "loop.example/g00955/laws.FnExactTourLength" = some f) (hfn : Tryz.pinned.checked.prog.funcs[f]? = some fn) :
    false = Tryz.pinned.checked.prog.looks [] ∧ ∀ (j : Nat) t, fn.params[j]? = some t → Tryz.pinned.checked.prog.wantsStandIn t = false := by
  obtain rfl : f = 4 := Option.some.inj ((show Tryz.prog.funcNamed "loop.example/g00955/laws.FnExactTourLength" = some 4 by kernel_rfl).symm.trans hf) |>.symm
  obtain rfl : fn = Tryz.f4 := (Option.some.inj (Tryz.func4.symm.trans hfn)).symm
  refine ⟨by kernel_rfl, fun j t ht => ?_⟩
  rw [Tryz.params4] at ht
  have hm : t ∈ [24, 27] := by simpa using Array.mem_of_getElem? ht
  have hall : ([24, 27].all fun u => !Tryz.prog.wantsStandIn u) = true := by kernel_rfl
  exact (show Tryz.prog.wantsStandIn t = false by simpa using List.all_eq_true.1 hall t hm)

theorem card : Rows.FnExactTourLengthCardSaid :=
  Claim7.holds_tied_plain_at .later [] _ _ _ _ said (fun _ h => by cases h) (by kernel_rfl) (fun _ h => by cases h) fnExactTourLength_row_tie rfl ⟨rfl, rfl⟩ (by kernel_rfl) rfl plain (by kernel_rfl)
#print axioms card
end Go.Proofs.YtjghopepgfgebaaGreatDoor.fnExactTourLength
