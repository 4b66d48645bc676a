/-
  The law FnExactStarsWithin, with what its package variables hold tied to the program's text: for every input the call returns true, and each argument reads afterwards as it read before. No condition. (The card ties the listed variables to a pruned copy of the project: the packages that this seat's roots load.)
-/
import Derived.Test.YtoellkbmhpekdaaGreatDoorCards
import Derived.Test.YtoellkbmhpekdaaGreatDoorTie
import Derived.Test.YtoellkbmhpekdaaGreatDoorPost0
import Derived.Test.YtoellkbmhpekdaaGreatDoorNearW
import Derived.Test.YtoellkbmhpekdaaGreatDoorPost0
import Derived.WalkKit
import Derived.ProofKit
import Derived.OpenShut
import Derived.ChangeMaps5
import Derived.ChangeSlices
import Derived.Carry
import Derived.Lib.SmallJoins
import Derived.Deep.DeepHandedRow
import Derived.Deep.DeepWitnessRowRef
import Derived.Lay
import Derived.Lib.LaidTab
import Derived.Stop.LaidErr
import Derived.MakeChecks
import Derived.Lib.LaidU8
namespace Go.Proofs.YtoellkbmhpekdaaGreatDoor.fnExactStarsWithin
open Go.ChangeShapes Go.WideShapes Go.ChangeAt Go.RowKit Go.ChangeMaps
set_option linter.unusedVariables false

theorem own : ownKnob Tryz.prog.godebug = none := by kernel_rfl

-- DATUM .agg (sinT.map fun z => .lit (.int .i64 z)) SIZE 91 G 0
def Env (w : World) : Prop := SinesOK w
theorem gSn : Tryz.prog.globalNamed "loop.example/g00955/impl.sines" = some 0 := by kernel_rfl
theorem gSnType : (Tryz.prog.globals[0]?).map (·.type) = some 233 := by kernel_rfl
theorem cellsI : Tryz.prog.cellsOf 2 = 1 := by kernel_rfl
theorem listed : Rows.fnExactStarsWithinRow.laid = [("loop.example/g00955/impl.sines", .agg (sinT.map fun z => .lit (.int .i64 z)))] := rfl
theorem env_of {W : World} (hL : laidMet Tryz.prog Rows.fnExactStarsWithinRow.laid W) (_hS : W.ShapedOpen Tryz.prog) : Env W := by
  rw [listed] at hL
  obtain ⟨ps, ⟨g, t, cs, fuel, p, q, hg, ht, hv, hd, _, _⟩, _, _⟩ := hL
  obtain rfl := Option.some.inj (gSn.symm.trans hg)
  obtain rfl := Option.some.inj (gSnType.symm.trans ht)
  refine ⟨lt_of_var gSn hv, fun j hj => ?_⟩
  obtain ⟨xs, m, _, ex, _, hl, hel⟩ := DataW.trod_array Tryz.underlying233 hd
  have hE := hel j hj
  rw [cellsI, Nat.mul_one, List.getElem?_eq_getElem (by omega)] at hE
  obtain ⟨z, e1, e2, _⟩ := DataW.trod_int Tryz.underlying2 hE
  have hlen : sinT.length = 91 := rfl
  have e3 : (xs.map (·.1)) = sinT.map fun z => .lit (.int .i64 z) := (DataW.agg.inj (Prod.mk.inj ex).1).symm
  have e4 : (xs.map (·.1))[j]? = (sinT.map fun z => (DataW.lit (.int .i64 z) : DataW Unit))[j]? := by rw [e3]
  rw [List.getElem?_map, List.getElem?_map, List.getElem?_eq_getElem (by omega : j < xs.length), List.getElem?_eq_getElem (by omega : j < sinT.length), e2] at e4
  have hz : z = tab j := by
    simp only [Option.map_some, Option.some.injEq, DataW.lit.injEq, Lit.int.injEq, true_and] at e4
    rw [e4]; unfold tab; rw [List.getD, List.getElem?_eq_getElem (by omega : j < sinT.length)]; rfl
  rw [World.var?_cell hg hv j, ← hz]
  have h0 : ((cs.toList.drop j).take 1)[0]? = some (.int .i64 z) := by rw [e1]; rfl
  simpa using h0
/-- The named variable reads as it did where below the heap's old size nothing has turned. -/
theorem vars_stay {H : Type} {enc : TypeId × Value → H} {W W' : World} (hb : Below W.heap.size W W') {g : Nat} {t : TypeId} {cs : Array Value} {fuel : Nat} {d : DataW H} {p : List MemPlace}
    (h1 : Tryz.prog.globalNamed "loop.example/g00955/impl.sines" = some g) (h2 : (Tryz.prog.globals[g]?).map (·.type) = some t) (h3 : W.var? Tryz.prog "loop.example/g00955/impl.sines" = some cs)
    (h4 : DataW.trod enc Tryz.prog W 0 (fun _ => true) true fuel t cs.toList = some (d, p)) (hp : ∀ x ∈ p, x.block < W.heap.size) (sp : Nat → Bool) (hsp : ∀ x ∈ p, sp x.block = true) :
    DataW.TrodVars enc Tryz.prog W' sp ["loop.example/g00955/impl.sines"] [d] (MemPlace.row ⟨g, 0, none⟩ cs.size ++ p) := by
  obtain rfl := Option.some.inj (gSn.symm.trans h1)
  obtain rfl := Option.some.inj (gSnType.symm.trans h2)
  have hr : Tryz.prog.readableRec 233 = true := by kernel_rfl
  have hl : laidOutB Tryz.prog = true := by kernel_rfl
  exact trodVars_mk1 h1 h2 (var?_below hb h1 (lt_of_var h1 h3) h3)
    (DataW.trod_stays (kids_book hl hr) (book_sized hr) (fun h => by cases h) ⟨of_decide_eq_true (by kernel_rfl), book_self _⟩ h4 (fun x hx => hb.same (hp x hx)) hsp)

set_option maxRecDepth 100000 in
set_option maxHeartbeats 8000000 in
theorem walk (w : World) (v0 : Value) (a0 : List StarV) (w0 : StarsIn w v0 a0) (n0 : a0.length ≤ 9223372036854775807) (a1 : Int) (w1 : (Lit.int .i64 a1).wf = true) (a2 : Int) (w2 : (Lit.int .i64 a2).wf = true) (a3 : Int) (w3 : (Lit.int .i64 a3).wf = true) (henv : Env w) :
    Calls Tryz.prog 7 #[v0, .int .i64 a1, .int .i64 a2, .int .i64 a3] w fun e w' => e = .returned (.bool true) ∧ Below w.heap.size w w' := by
  have Z := Lib.hid (fun w h => szS_any 1048576 (by omega) (by omega) (w := w) (v := v0) (zs := a0) h n0)
  have I0 := Lib.hid w0
  have OK : Hid (∀ j, (h : j < a0.length) → a0[j].ok) := Lib.hid (by
    intro j hj
    rcases w0 with ⟨a, cap, _, rfl⟩ | ⟨b, off, cap, _, _, hc⟩
    · cases hj
    · exact (hc j hj).2)
  clear w0 n0
  have FP : Hid (fits a1) := Lib.hid (wf_fits w1)
  clear w1 w2 w3
  have E : Hid (SinesOK w) := Lib.hid henv
  clear henv
  go_enter Tryz.func7, Tryz.ntmps7
  go_wp2_with fail
  refine (Z.out _ I0.out).mono ?_
  rintro e w1 ⟨z, rfl, hz0, hz1, hz2, hb1⟩
  have HB1 := Lib.hid hb1
  by_cases hz : z < 0
  · clear hz2 hb1
    go_wp2_with fail
    go_ret
    exact ⟨rfl, HB1.out⟩
  · have hl := hz2 (by omega)
    clear hb1 hz2
    have T := Lib.hid (fun w h => toS_any (w := w) (v := v0) (zs := a0) h hl)
    have F1 := Lib.hid (fun g cap w h => specWithin_any g cap a0 a1 a2 a3 FP.out w (by omega) h OK.out)
    have F2 := Lib.hid (fun g cap w h hf => implWithin_any g cap a0 a1 a2 a3 FP.out w (by omega) h OK.out hf)
    have EQ := Lib.hid (fun g g' cap cap' w h h' => eqS_full g g' cap cap' a0 w (by omega) h h')
    have MK := Lib.hid (fun g cap w h => markSt_full g cap a0 w (by omega) h)
    have hrl : (withR a0 a1 a2 a3).1.length ≤ 1048576 := by
      have := withR_len a0 a1 a2 a3
      omega
    obtain ⟨L, c, hR⟩ : ∃ L c, withR a0 a1 a2 a3 = (L, c) := ⟨_, _, rfl⟩
    rw [hR] at F1 F2 hrl
    clear hR
    simp only at hrl
    go_wp2_with fail
    refine (T.out _ (I0.out.below HB1.out)).mono ?_
    rintro e w2 ⟨rfl, hR2, hb2⟩
    have HB2 := Lib.hid (HB1.out.trans (hb2.mono HB1.out.size))
    have R2 := Lib.hid hR2
    clear hb2 hR2
    go_wp2_with fail
    refine (F1.out _ _ _ R2.out).mono ?_
    rintro e w3 hp3
    obtain ⟨v, rfl, ho3, hb3⟩ := withP_mk hp3
    have HB3 := Lib.hid (HB2.out.trans (hb3.mono HB2.out.size))
    have O3 := Lib.hid ho3
    clear hb3 ho3
    go_wp2_with fail
    refine (T.out _ (I0.out.below HB3.out)).mono ?_
    rintro e w4 ⟨rfl, hR4, hb4⟩
    have HB4 := Lib.hid (HB3.out.trans (hb4.mono HB3.out.size))
    have HC4 := Lib.hid hb4
    have R4 := Lib.hid hR4
    have hg4 : w3.heap.size < w4.heap.size := hR4.lt
    clear hb4 hR4
    go_wp2_with fail
    refine (F2.out _ _ _ R4.out (E.out.below HB4.out)).mono ?_
    rintro e w5 hp5
    obtain ⟨u, rfl, ho5, hb5⟩ := withP_mk hp5
    have HB5 := Lib.hid (HB4.out.trans (hb5.mono HB4.out.size))
    have HC5 := Lib.hid (HC4.out.trans (hb5.mono HC4.out.size))
    have R5 := Lib.hid (R4.out.below hb5)
    have O5 := Lib.hid ho5
    have hs45 := hb5.size
    clear hb5 ho5
    go_wp2_with fail
    refine (eqI_same hrl O5.out (ownsRow_belowN O3.out HC5.out)).mono ?_
    rintro e w6 ⟨rfl, q1, rfl⟩
    have HB6 := Lib.hid (bel_drewN HB5.out q1)
    have HC6 := Lib.hid (bel_drewN HC5.out q1)
    have R6 : Hid (Row (w5.drewN q1) w3.heap.size a0) := Lib.hid R5.out
    have O6 := Lib.hid (owns_drewN O5.out q1)
    have hs6 : w5.heap.size ≤ (w5.drewN q1).heap.size := Nat.le_refl _
    generalize w5.drewN q1 = W6 at *
    go_wp2_with fail
    refine (T.out _ (I0.out.below HB6.out)).mono ?_
    rintro e w7 ⟨rfl, hR7, hb7⟩
    have HB7 := Lib.hid (HB6.out.trans (hb7.mono HB6.out.size))
    have HC7 := Lib.hid (HC6.out.trans (hb7.mono HC6.out.size))
    have R7 := Lib.hid (R6.out.below hb7)
    have R7' := Lib.hid hR7
    have O7 := Lib.hid (ownsRow_belowN O6.out hb7)
    have hs7 := hb7.size
    clear hb7 hR7
    go_wp2_with fail
    refine (EQ.out _ _ _ _ _ R7.out R7'.out).mono ?_
    rintro e w8 ⟨rfl, hb8⟩
    have HB8 := Lib.hid (HB7.out.trans (hb8.mono HB7.out.size))
    have HC8 := Lib.hid (HC7.out.trans (hb8.mono HC7.out.size))
    have R8 := Lib.hid (R7.out.below hb8)
    have O8 := Lib.hid (ownsRow_belowN O7.out hb8)
    have hs8 := hb8.size
    clear hb8
    go_wp2_with fail
    refine (MK.out _ _ _ R8.out).mono ?_
    rintro e w9 ⟨rfl, hg9⟩
    have HC9 := Lib.hid (HC8.out.trans (gb_below hg9 (Nat.le_refl _) (by omega)))
    have HB9 := Lib.hid (HB8.out.trans (gb_below hg9 HB3.out.size (by have := HB3.out.size; omega)))
    have O9 := Lib.hid (O8.out.kept hg9 (owns_far O8.out hg4))
    have hs9 := hg9.size
    clear hg9
    go_wp2_with fail
    refine (eqI_same hrl O9.out (ownsRow_belowN O3.out HC9.out)).mono ?_
    rintro e w10 ⟨rfl, q2, rfl⟩
    have HB10 := Lib.hid (bel_drewN HB9.out q2)
    have HC10 := Lib.hid (bel_drewN HC9.out q2)
    have O10 := Lib.hid (owns_drewN O9.out q2)
    have hs10 : w9.heap.size ≤ (w9.drewN q2).heap.size := Nat.le_refl _
    generalize w9.drewN q2 = W10 at *
    go_wp2_with fail
    refine (markI_any 1 hrl (by omega) (by omega) O10.out).mono ?_
    rintro e w11 ⟨rfl, ho11, hb11⟩
    have HB11 := Lib.hid (HB10.out.trans (hb11.mono HB4.out.size))
    have HC11 := Lib.hid (HC10.out.trans (hb11.mono (by omega)))
    have O11 := Lib.hid ho11
    clear hb11 ho11
    go_wp2_with fail
    refine (heldI_any 1 hrl (by omega) (by omega) O11.out).mono ?_
    rintro e w12 ⟨rfl, rfl⟩
    go_wp2_with fail
    refine (T.out _ (I0.out.below HB11.out)).mono ?_
    rintro e w13 ⟨rfl, hR13, hb13⟩
    have HB13 := Lib.hid (HB11.out.trans (hb13.mono HB11.out.size))
    have HC13 := Lib.hid (HC11.out.trans (hb13.mono HC11.out.size))
    have R13 := Lib.hid hR13
    have O13 := Lib.hid (ownsRow_belowN O11.out hb13)
    clear hb13 hR13
    go_wp2_with fail
    refine (F2.out _ _ _ R13.out (E.out.below HB13.out)).mono ?_
    rintro e w14 hp14
    obtain ⟨u2, rfl, ho14, hb14⟩ := withP_mk hp14
    have HB14 := Lib.hid (HB13.out.trans (hb14.mono HB13.out.size))
    have HC14 := Lib.hid (HC13.out.trans (hb14.mono HC13.out.size))
    have O14 := Lib.hid (ownsRow_belowN O13.out hb14)
    have P14 := Lib.hid ho14
    clear hb14 ho14
    go_wp2_with fail
    refine (eqI_same hrl P14.out (ownsRow_belowN O3.out HC14.out)).mono ?_
    rintro e w15 ⟨rfl, q3, rfl⟩
    have HB15 := Lib.hid (bel_drewN HB14.out q3)
    have O15 := Lib.hid (owns_drewN O14.out q3)
    generalize w14.drewN q3 = W15 at *
    go_wp2_with fail
    refine (heldI_any 1 hrl (by omega) (by omega) O15.out).mono ?_
    rintro e w16 ⟨rfl, rfl⟩
    go_wp2_with fail
    go_ret
    exact ⟨rfl, HB15.out⟩

set_option maxRecDepth 100000 in
set_option maxHeartbeats 2000000 in
theorem contract (H : Type) (enc : TypeId × Value → H) (W : World) (base : Nat) (args : Array Value) (ds gs : List (DataW H)) (before : List MemPlace)
    (hval : ∀ (j : Nat) t v, Tryz.f7.params[j]? = some t → args[j]? = some v → Value.okWide Tryz.prog W .any base t v)
    (hW : DataW.Whole enc Tryz.prog Tryz.f7.params.toList Rows.fnExactStarsWithinSpec.vars false W args.toList ds gs before) (henv : Env W) :
    Calls Tryz.prog 7 args W fun e W' => ∃ v, e = .returned v ∧ Rows.fnExactStarsWithinSpec.post enc Tryz.prog Tryz.f7 false true false false W args v W' := by
  have hW' := hW
  obtain ⟨p, q, hA0, hV, rfl, hfz, hnd⟩ := hW
  have hA : DataW.TrodAll enc Tryz.prog W 0 (fun _ => true) true Tryz.f7.params.toList args.toList ds p := hA0
  rw [Tryz.params7] at hA hval
  obtain ⟨v0, vs0, d0, ds0, p0, q0, hargs0, rfl, rfl, h0, r0⟩ := trodAll_cons hA
  obtain ⟨v1, vs1, d1, ds1, p1, q1, hargs1, rfl, rfl, h1, r1⟩ := trodAll_cons r0
  obtain ⟨v2, vs2, d2, ds2, p2, q2, hargs2, rfl, rfl, h2, r2⟩ := trodAll_cons r1
  obtain ⟨v3, vs3, d3, ds3, p3, q3, hargs3, rfl, rfl, h3, r3⟩ := trodAll_cons r2
  obtain ⟨rfl, rfl, rfl⟩ := trodAll_nil r3
  obtain rfl : args = #[v0, v1, v2, v3] := by cases args; simp_all
  have hlt : ∀ x ∈ q, x.block < W.heap.size := hV.lt
  obtain ⟨gv, tv, cs, fuel, dv, pv, rfl, hg1, hg2, hg3, hg4, rfl⟩ := trodVars_one hV
  have h0k := h0
  obtain ⟨sa0, sn0, sc0, rfl⟩ := okWide_slice Tryz.underlying22 (hval 0 22 v0 rfl rfl)
  obtain ⟨a0, w0, n0⟩ := stars_open h0
  obtain ⟨a1, rfl, rfl, rfl, w1⟩ := open_int Tryz.underlying2 (hval 1 2 v1 rfl rfl) h1
  obtain ⟨a2, rfl, rfl, rfl, w2⟩ := open_int Tryz.underlying2 (hval 2 2 v2 rfl rfl) h2
  obtain ⟨a3, rfl, rfl, rfl, w3⟩ := open_int Tryz.underlying2 (hval 3 2 v3 rfl rfl) h3
  clear hA0
  have hltp : ∀ x ∈ p0 ++ ([] ++ ([] ++ ([] ++ []))) ++ (MemPlace.row ⟨gv, 0, none⟩ cs.size ++ pv), x.block < W.heap.size := fun x hx => hW'.lt x hx
  refine (walk W _ a0 w0 n0 a1 w1 a2 w2 a3 w3 henv).mono fun e W' ⟨he, hg⟩ => ?_
  subst he
  exact ⟨_, rfl, post_of_below (pa := p0 ++ ([] ++ ([] ++ ([] ++ [])))) (pv := MemPlace.row ⟨gv, 0, none⟩ cs.size ++ pv) hW' (fun _ _ _ => (trodAll_cons_mk (shut_bool Tryz.underlying4 _) trodAll_mk0)) (fun sp hsp => (trodAll_cons_mk (WideElems.Trod_stays (by kernel_rfl) (by kernel_rfl) (of_decide_eq_true (by kernel_rfl)) h0k (fun x hx => hg.same (hltp x (by simp [hx]))) (fun x hx => hsp x (by simp [hx]))) (trodAll_cons_mk (shut_int Tryz.underlying2 w1) (trodAll_cons_mk (shut_int Tryz.underlying2 w2) (trodAll_cons_mk (shut_int Tryz.underlying2 w3) trodAll_mk0))))) (fun sp hsp => vars_stay hg hg1 hg2 hg3 hg4 (fun x hx => hlt x (List.mem_append_right _ hx)) sp (fun x hx => hsp x (List.mem_append_right _ (List.mem_append_right _ hx)))) rfl
    hg (ok_one (by kernel_rfl) rfl (okWide_bool_mk Tryz.underlying4 _))⟩

set_option maxRecDepth 100000 in
theorem laid_met (os : Os) : laidMetH Tryz.prog Rows.fnExactStarsWithinRow.laid ((World.laidAll Tryz.prog os Rows.fnExactStarsWithinRow.laid).forCall (fun _ _ => 0) ⟨#[], #[.slice none 0 0, .int .i64 0, .int .i64 0, .int .i64 0], []⟩).memory := by
  rw [MakeChecks.laidMetH_plain _ _ _ (by kernel_rfl)]
  exact laidMet_laidAll _ (by kernel_rfl) (by kernel_rfl)
set_option maxRecDepth 100000 in
theorem reads (os : Os) {H : Type} (enc : TypeId × Value → H) : ∃ places, DataW.whole enc Tryz.prog ((World.laidAll Tryz.prog os Rows.fnExactStarsWithinRow.laid).forCall (fun _ _ => 0) ⟨#[], #[.slice none 0 0, .int .i64 0, .int .i64 0, .int .i64 0], []⟩).memory Tryz.f7.params.toList Rows.fnExactStarsWithinSpec.vars false #[.slice none 0 0, .int .i64 0, .int .i64 0, .int .i64 0].toList 8 = some ([.nil, .lit (.int .i64 0), .lit (.int .i64 0), .lit (.int .i64 0)], [.agg (sinT.map fun z => .lit (.int .i64 z))], places) :=
  ⟨MemPlace.row ⟨0, 0, none⟩ 91, by kernel_rfl⟩

set_option maxRecDepth 100000 in
theorem lifted (os : Os) (started : os.Started) (H : Type) (enc : TypeId × Value → H) (F : Stop.Interp) :
    ReturnsInHanded {} Tryz.checked os 7 .any ((OpenSpec.ofChange Rows.fnExactStarsWithinSpec).preRow enc Tryz.prog Tryz.f7 Rows.fnExactStarsWithinRow.domain false Rows.fnExactStarsWithinRow.laid) (((OpenSpec.ofChange Rows.fnExactStarsWithinSpec).at F).post enc Tryz.prog Tryz.f7 false true false false) := by
  obtain ⟨places, hx⟩ := reads os enc
  refine returnsInHanded_of_row (C := Tryz.checked) (s := OpenSpec.ofChange Rows.fnExactStarsWithinSpec) own started (by kernel_rfl) Tryz.func7
    (witness_row_at (enc := enc) (C := Tryz.checked) false (World.laidAll Tryz.prog os Rows.fnExactStarsWithinRow.laid) #[.slice none 0 0, .int .i64 0, .int .i64 0, .int .i64 0] (World.laidAll_os _ _ _) (by kernel_rfl) (by kernel_rfl) (by kernel_rfl)
      (OpenSpec.preRow_of_cond 8 hx (by kernel_rfl) (fun k hk => by cases hk) (by kernel_rfl) (laid_met os))) ?_
  intro W base args ds gs before hval hW _ _ _ hL hS _
  rw [MakeChecks.laidMetH_plain _ _ _ (by kernel_rfl)] at hL
  exact contract H enc W base args ds gs before hval hW (env_of hL hS)

theorem said : Rows.FnExactStarsWithinSaid :=
  OpenClaim.holds_of_cond 7 Tryz.f7 rfl rfl rfl rfl rfl rfl rfl ⟨rfl, rfl, rfl, rfl, rfl⟩ rfl rfl rfl rfl rfl (by kernel_rfl) Tryz.func7 (by kernel_rfl)
    (of_decide_eq_true (by kernel_rfl)) (by unfold Func.isWrapper; first | (rw [if_pos (by decide +kernel)]; kernel_rfl) | (rw [if_neg (by decide +kernel)]; exact ⟨rfl, rfl⟩))
    (fun os started H enc _ F => by rw [OpenClaim.pre_eq_preRow]; exact lifted os started H enc F)

theorem plain (f : FuncId) (fn : Func) (hf : Tryz.pinned.checked.prog.funcNamed "loop.example/g00955/laws.FnExactStarsWithin" = some f) (hfn : Tryz.pinned.checked.prog.funcs[f]? = some fn) :
    false = Tryz.pinned.checked.prog.looks [] ∧ ∀ (j : Nat) t, fn.params[j]? = some t → Tryz.pinned.checked.prog.wantsStandIn t = false := by
  obtain rfl : f = 7 := Option.some.inj ((show Tryz.prog.funcNamed "loop.example/g00955/laws.FnExactStarsWithin" = some 7 by kernel_rfl).symm.trans hf) |>.symm
  obtain rfl : fn = Tryz.f7 := (Option.some.inj (Tryz.func7.symm.trans hfn)).symm
  refine ⟨by kernel_rfl, fun j t ht => ?_⟩
  rw [Tryz.params7] at ht
  have hm : t ∈ [22, 2, 2, 2] := by simpa using Array.mem_of_getElem? ht
  have hall : ([22, 2, 2, 2].all fun u => !Tryz.prog.wantsStandIn u) = true := by kernel_rfl
  exact (show Tryz.prog.wantsStandIn t = false by simpa using List.all_eq_true.1 hall t hm)

theorem card : Rows.FnExactStarsWithinCardSaid :=
  Claim7.holds_tied_plain_at .later [] _ _ _ _ said (fun _ h => by cases h) (by kernel_rfl) (fun _ h => by cases h) fnExactStarsWithin_row_tie rfl ⟨rfl, rfl⟩ (by kernel_rfl) rfl plain (by kernel_rfl)
#print axioms card
end Go.Proofs.YtoellkbmhpekdaaGreatDoor.fnExactStarsWithin
