/-
  The law FnExactFigureCentre, with what its package variables hold tied to the program's text: for every input the call returns true, and each argument reads afterwards as it read before. No condition. (The card ties the listed variables to a pruned copy of the project: the packages that this seat's roots load.)
-/
import Derived.Test.YtoellkbmhpekdaaGreatDoorCards
import Derived.Test.YtoellkbmhpekdaaGreatDoorTie
import Derived.Test.YtoellkbmhpekdaaGreatDoorPost0
import Derived.Test.YtoellkbmhpekdaaGreatDoorFigAll3
import Derived.Test.YtoellkbmhpekdaaGreatDoorPost0
import Derived.WalkKit
import Derived.ProofKit
import Derived.OpenShut
import Derived.ChangeMaps5
import Derived.ChangeSlices
import Derived.Carry
import Derived.Lib.SmallJoins
import Derived.Deep.DeepHandedRow
import Derived.Deep.DeepWitnessRowRef
import Derived.Lay
import Derived.Lib.LaidTab
import Derived.Stop.LaidErr
import Derived.MakeChecks
import Derived.Lib.LaidU8
namespace Go.Proofs.YtoellkbmhpekdaaGreatDoor.fnExactFigureCentre
open Go.ChangeShapes Go.WideShapes Go.ChangeAt Go.RowKit Go.ChangeMaps
set_option linter.unusedVariables false

theorem own : ownKnob Tryz.prog.godebug = none := by kernel_rfl

-- DATUM .agg (sinT.map fun z => .lit (.int .i64 z)) SIZE 91 G 0
def Env (w : World) : Prop := SinesOK w
theorem gSn : Tryz.prog.globalNamed "loop.example/g00955/impl.sines" = some 0 := by kernel_rfl
theorem gSnType : (Tryz.prog.globals[0]?).map (·.type) = some 233 := by kernel_rfl
theorem cellsI : Tryz.prog.cellsOf 2 = 1 := by kernel_rfl
theorem listed : Rows.fnExactFigureCentreRow.laid = [("loop.example/g00955/impl.sines", .agg (sinT.map fun z => .lit (.int .i64 z)))] := rfl
theorem env_of {W : World} (hL : laidMet Tryz.prog Rows.fnExactFigureCentreRow.laid W) (_hS : W.ShapedOpen Tryz.prog) : Env W := by
  rw [listed] at hL
  obtain ⟨ps, ⟨g, t, cs, fuel, p, q, hg, ht, hv, hd, _, _⟩, _, _⟩ := hL
  obtain rfl := Option.some.inj (gSn.symm.trans hg)
  obtain rfl := Option.some.inj (gSnType.symm.trans ht)
  refine ⟨lt_of_var gSn hv, fun j hj => ?_⟩
  obtain ⟨xs, m, _, ex, _, hl, hel⟩ := DataW.trod_array Tryz.underlying233 hd
  have hE := hel j hj
  rw [cellsI, Nat.mul_one, List.getElem?_eq_getElem (by omega)] at hE
  obtain ⟨z, e1, e2, _⟩ := DataW.trod_int Tryz.underlying2 hE
  have hlen : sinT.length = 91 := rfl
  have e3 : (xs.map (·.1)) = sinT.map fun z => .lit (.int .i64 z) := (DataW.agg.inj (Prod.mk.inj ex).1).symm
  have e4 : (xs.map (·.1))[j]? = (sinT.map fun z => (DataW.lit (.int .i64 z) : DataW Unit))[j]? := by rw [e3]
  rw [List.getElem?_map, List.getElem?_map, List.getElem?_eq_getElem (by omega : j < xs.length), List.getElem?_eq_getElem (by omega : j < sinT.length), e2] at e4
  have hz : z = tab j := by
    simp only [Option.map_some, Option.some.injEq, DataW.lit.injEq, Lit.int.injEq, true_and] at e4
    rw [e4]; unfold tab; rw [List.getD, List.getElem?_eq_getElem (by omega : j < sinT.length)]; rfl
  rw [World.var?_cell hg hv j, ← hz]
  have h0 : ((cs.toList.drop j).take 1)[0]? = some (.int .i64 z) := by rw [e1]; rfl
  simpa using h0
/-- The named variable reads as it did where below the heap's old size nothing has turned. -/
theorem vars_stay {H : Type} {enc : TypeId × Value → H} {W W' : World} (hb : Below W.heap.size W W') {g : Nat} {t : TypeId} {cs : Array Value} {fuel : Nat} {d : DataW H} {p : List MemPlace}
    (h1 : Tryz.prog.globalNamed "loop.example/g00955/impl.sines" = some g) (h2 : (Tryz.prog.globals[g]?).map (·.type) = some t) (h3 : W.var? Tryz.prog "loop.example/g00955/impl.sines" = some cs)
    (h4 : DataW.trod enc Tryz.prog W 0 (fun _ => true) true fuel t cs.toList = some (d, p)) (hp : ∀ x ∈ p, x.block < W.heap.size) (sp : Nat → Bool) (hsp : ∀ x ∈ p, sp x.block = true) :
    DataW.TrodVars enc Tryz.prog W' sp ["loop.example/g00955/impl.sines"] [d] (MemPlace.row ⟨g, 0, none⟩ cs.size ++ p) := by
  obtain rfl := Option.some.inj (gSn.symm.trans h1)
  obtain rfl := Option.some.inj (gSnType.symm.trans h2)
  have hr : Tryz.prog.readableRec 233 = true := by kernel_rfl
  have hl : laidOutB Tryz.prog = true := by kernel_rfl
  exact trodVars_mk1 h1 h2 (var?_below hb h1 (lt_of_var h1 h3) h3)
    (DataW.trod_stays (kids_book hl hr) (book_sized hr) (fun h => by cases h) ⟨of_decide_eq_true (by kernel_rfl), book_self _⟩ h4 (fun x hx => hb.same (hp x hx)) hsp)

set_option maxRecDepth 100000 in
set_option maxHeartbeats 8000000 in
theorem walk (w : World) (s0 : ByteArray) (u0 : Value) (a0 : List (List Int)) (w0 : s0.size ≤ maxLen) (x0 : LinesIn w u0 a0) (n0 : a0.length ≤ 9223372036854775807) (v1 : Value) (a1 : List StarV) (w1 : StarsIn w v1 a1) (n1 : a1.length ≤ 9223372036854775807) (henv : Env w) :
    Calls Tryz.prog 6 #[.agg #[.string s0, u0], v1] w fun e w' => e = .returned (.bool true) ∧ Below w.heap.size w w' := by
  have ZF := Lib.hid (fun w h => szFigure_any s0 u0 a0 1048576 (by omega) (by omega) w0 w h n0)
  have X0 := Lib.hid x0
  have Z := Lib.hid (fun l h0 h1 w h => szS_any l h0 h1 (w := w) (v := v1) (zs := a1) h n1)
  have I0 := Lib.hid w1
  have OK : Hid (∀ j, (h : j < a1.length) → a1[j].ok) := Lib.hid (by
    intro j hj
    rcases w1 with ⟨a, cap, _, rfl⟩ | ⟨b, off, cap, _, _, hc⟩
    · cases hj
    · exact (hc j hj).2)
  have FT : Hid (∀ j, (h : j < a0.length) → ∀ x ∈ a0[j], fits x) := Lib.hid (lines_fits x0)
  have W0 := Lib.hid w0
  clear x0 w0 w1
  have E : Hid (SinesOK w) := Lib.hid henv
  clear henv
  go_enter Tryz.func6, Tryz.ntmps6
  go_wp2_with fail
  refine (ZF.out _ (X0.out.below ((Below.refl _ w).alloc (Nat.le_refl _) _))).mono ?_
  rintro e w1 ⟨z, rfl, hz0, hz1, hz2, hb1⟩
  have QX1 := Lib.hid (box_keep (box_new w (.string s0) u0 32) hb1)
  have HB1 := Lib.hid (((Below.refl _ w).alloc (Nat.le_refl _) _).trans (hb1.mono (by simp)))
  obtain ⟨_, q0, q1⟩ := QX1.out
  by_cases hz : z < 0
  · clear hz2 hb1
    go_wp2_with fail
    go_ret
    exact ⟨rfl, HB1.out⟩
  · obtain ⟨hl0, hl1⟩ := hz2 (by omega)
    have X1 := Lib.hid (X0.out.below HB1.out)
    have I1 := Lib.hid (I0.out.below HB1.out)
    clear hb1
    go_wp2_with fail
    refine (Z.out _ (by omega) (by omega) _ I1.out).mono ?_
    rintro e w2 ⟨y, rfl, hy0, hy1, hy2, hb2⟩
    have HB2 := Lib.hid (HB1.out.trans (hb2.mono HB1.out.size))
    have QX2 := Lib.hid (box_keep QX1.out hb2)
    clear q0 q1
    obtain ⟨_, q0, q1⟩ := QX2.out
    by_cases hy : y < 0
    · clear hy2 hb2
      go_wp2_with fail
      go_ret
      exact ⟨rfl, HB2.out⟩
    have hl := hy2 (by omega)
    have X2 := Lib.hid (X1.out.below hb2)
    have I2 := Lib.hid (I1.out.below hb2)
    clear hy2 hb2
    have TF := Lib.hid (fun w h => toFigure_any s0 u0 a0 w h hl0 hl1)
    have EF := Lib.hid (fun g g' bs bs' w h h' => eqFigure_any s0 g g' a0 bs bs' w (by omega) (fun j h => by have := hl1 j h; omega) h h')
    have T := Lib.hid (fun w h => toS_any (w := w) (v := v1) (zs := a1) h hl)
    have EQ := Lib.hid (fun g g' cap cap' w h h' => eqS_full g g' cap cap' a1 w (by omega) h h')
    have F1 := Lib.hid (fun g bs g' w cap cap' h h' => specCen_any s0 g cap a0 bs g' cap' a1 w (by omega) (fun j h => by have := hl1 j h; omega) FT.out h (by omega) h')
    have F2 := Lib.hid (fun g bs g' w cap cap' h h' hs => implCen_any s0 W0.out g cap a0 bs g' cap' a1 w hs (by omega) (fun j h => by have := hl1 j h; omega) h (by omega) h' OK.out)
    generalize cenV a1 s0 a0 = V at *
    obtain ⟨rx, ry, rz⟩ := V
    simp only at F1 F2
    go_wp2_with fail
    refine (TF.out _ X2.out).mono ?_
    rintro e w3 ⟨g1, bs1, rfl, hA, hb3⟩
    have X3 := Lib.hid (X2.out.below hb3)
    have I3 := Lib.hid (I2.out.below hb3)
    have HB3 := Lib.hid (HB2.out.trans (hb3.mono HB2.out.size))
    have QX3 := Lib.hid (box_keep QX2.out hb3)
    clear q0 q1
    obtain ⟨_, q0, q1⟩ := QX3.out
    clear hb3
    have A3 := Lib.hid hA
    clear hA
    go_wp2_with fail
    refine (T.out _ I3.out).mono ?_
    rintro e w4 ⟨rfl, hR, hb4⟩
    have X4 := Lib.hid (X3.out.below hb4)
    have I4 := Lib.hid (I3.out.below hb4)
    have A4 := Lib.hid (A3.out.below hb4)
    have HB4 := Lib.hid (HB3.out.trans (hb4.mono HB3.out.size))
    have QX4 := Lib.hid (box_keep QX3.out hb4)
    clear q0 q1
    obtain ⟨_, q0, q1⟩ := QX4.out
    clear hb4
    have R4 := Lib.hid hR
    clear hR
    go_wp2_with fail
    refine (F1.out _ _ _ _ _ _ A4.out R4.out).mono ?_
    rintro e w5 ⟨rfl, hb5⟩
    have X5 := Lib.hid (X4.out.below hb5)
    have I5 := Lib.hid (I4.out.below hb5)
    have HB5 := Lib.hid (HB4.out.trans (hb5.mono HB4.out.size))
    have QX5 := Lib.hid (box_keep QX4.out hb5)
    clear q0 q1
    obtain ⟨_, q0, q1⟩ := QX5.out
    clear hb5
    go_wp2_with fail
    refine (TF.out _ X5.out).mono ?_
    rintro e w6 ⟨g2, bs2, rfl, hA, hb6⟩
    have X6 := Lib.hid (X5.out.below hb6)
    have I6 := Lib.hid (I5.out.below hb6)
    have HB6 := Lib.hid (HB5.out.trans (hb6.mono HB5.out.size))
    have QX6 := Lib.hid (box_keep QX5.out hb6)
    clear q0 q1
    obtain ⟨_, q0, q1⟩ := QX6.out
    clear hb6
    have A6 := Lib.hid hA
    clear hA
    go_wp2_with fail
    obtain ⟨w7, hw7⟩ : ∃ W, W = w6.alloc (Obj.cells #[Value.string s0, Value.slice (some { block := g2, off := 0 }) a0.length a0.length] 36) := ⟨_, rfl⟩
    rw [← hw7]
    have hb7 : Below w6.heap.size w6 w7 := by rw [hw7]; exact (Below.refl _ _).alloc (Nat.le_refl _) _
    have QY7 := Lib.hid (box_new w6 (.string s0) (.slice (some ⟨g2, 0, none⟩) a0.length a0.length) 36)
    rw [← hw7] at QY7
    clear hw7
    obtain ⟨_, p0, p1⟩ := QY7.out
    have X7 := Lib.hid (X6.out.below hb7)
    have I7 := Lib.hid (I6.out.below hb7)
    have A7 := Lib.hid (A6.out.below hb7)
    have HB7 := Lib.hid (HB6.out.trans (hb7.mono HB6.out.size))
    have QX7 := Lib.hid (box_keep QX6.out hb7)
    clear q0 q1 hb7
    obtain ⟨_, q0, q1⟩ := QX7.out
    refine (T.out _ I7.out).mono ?_
    rintro e w8 ⟨rfl, hR, hb8⟩
    have X8 := Lib.hid (X7.out.below hb8)
    have I8 := Lib.hid (I7.out.below hb8)
    have A8 := Lib.hid (A7.out.below hb8)
    have HB8 := Lib.hid (HB7.out.trans (hb8.mono HB7.out.size))
    have QX8 := Lib.hid (box_keep QX7.out hb8)
    clear q0 q1
    obtain ⟨_, q0, q1⟩ := QX8.out
    have QY8 := Lib.hid (box_keep QY7.out hb8)
    clear p0 p1
    obtain ⟨_, p0, p1⟩ := QY8.out
    clear hb8
    have R8 := Lib.hid hR
    clear hR
    go_wp2_with fail
    refine (F2.out _ _ _ _ _ _ A8.out R8.out (E.out.below HB8.out)).mono ?_
    rintro e w9 ⟨rfl, hb9⟩
    have X9 := Lib.hid (X8.out.below hb9)
    have I9 := Lib.hid (I8.out.below hb9)
    have A9 := Lib.hid (A8.out.below hb9)
    have R9 := Lib.hid (R8.out.below hb9)
    have HB9 := Lib.hid (HB8.out.trans (hb9.mono HB8.out.size))
    have QX9 := Lib.hid (box_keep QX8.out hb9)
    clear q0 q1
    obtain ⟨_, q0, q1⟩ := QX9.out
    have QY9 := Lib.hid (box_keep QY8.out hb9)
    clear p0 p1
    obtain ⟨_, p0, p1⟩ := QY9.out
    clear hb9
    have KB : Hid (w9.cell? ⟨w.heap.size, 0, none⟩ = some (.string s0) ∧ w9.cell? ⟨w.heap.size, 1, none⟩ = some u0 ∧ w9.cell? ⟨w6.heap.size, 0, none⟩ = some (.string s0) ∧ w9.cell? ⟨w6.heap.size, 1, none⟩ = some (.slice (some ⟨g2, 0, none⟩) a0.length a0.length) ∧ Below w.heap.size w w9) := Lib.hid ⟨q0, q1, p0, p1, HB9.out⟩
    clear q0 q1 p0 p1
    go_wp2_with fail
    go_region_held3 (fun W => W.cell? ⟨w.heap.size, 0, none⟩ = some (.string s0) ∧ W.cell? ⟨w.heap.size, 1, none⟩ = some u0 ∧ W.cell? ⟨w6.heap.size, 0, none⟩ = some (.string s0) ∧ W.cell? ⟨w6.heap.size, 1, none⟩ = some (.slice (some ⟨g2, 0, none⟩) a0.length a0.length) ∧ Below w.heap.size w W) (first | (exact keepW4 KB.out (drewG w9)) | (exact keepW4 KB.out z2) | (exact keepW4 KB.out z1) | go_keep) ((first
      | (go_at_call 18; refine (TF.out _ (X9.out.below (drewG w9))).mono ?_; rintro e u1 ⟨g3, bs3, rfl, hC, hu1⟩; have z1 := undrewG hu1)
      | (go_at_call 20; refine (EF.out _ _ _ _ _ (A9.out.below z1) hC).mono ?_; rintro e u2 ⟨rfl, hu2⟩; have z2 := z1.trans (hu2.mono z1.size))))
    rename_i held
    have HB10 := Lib.hid held.2.2.2.2
    have I10 := Lib.hid (I9.out.below z2)
    have R10 := Lib.hid (R9.out.below z2)
    clear held KB
    go_wp2_with fail
    refine (T.out _ I10.out).mono ?_
    rintro e w11 ⟨rfl, hC, hb11⟩
    have R11 := Lib.hid (R10.out.below hb11)
    have HB11 := Lib.hid (HB10.out.trans (hb11.mono HB10.out.size))
    clear hb11
    have C11 := Lib.hid hC
    clear hC
    go_wp2_with fail
    refine (EQ.out _ _ _ _ _ R11.out C11.out).mono ?_
    rintro e w12 ⟨rfl, hb12⟩
    have HB12 := Lib.hid (HB11.out.trans (hb12.mono HB11.out.size))
    clear hb12
    go_wp2_with fail
    go_ret
    exact ⟨rfl, HB12.out⟩

set_option maxRecDepth 100000 in
set_option maxHeartbeats 2000000 in
theorem contract (H : Type) (enc : TypeId × Value → H) (W : World) (base : Nat) (args : Array Value) (ds gs : List (DataW H)) (before : List MemPlace)
    (hval : ∀ (j : Nat) t v, Tryz.f6.params[j]? = some t → args[j]? = some v → Value.okWide Tryz.prog W .any base t v)
    (hW : DataW.Whole enc Tryz.prog Tryz.f6.params.toList Rows.fnExactFigureCentreSpec.vars false W args.toList ds gs before) (henv : Env W) :
    Calls Tryz.prog 6 args W fun e W' => ∃ v, e = .returned v ∧ Rows.fnExactFigureCentreSpec.post enc Tryz.prog Tryz.f6 false true false false W args v W' := by
  have hW' := hW
  obtain ⟨p, q, hA0, hV, rfl, hfz, hnd⟩ := hW
  have hA : DataW.TrodAll enc Tryz.prog W 0 (fun _ => true) true Tryz.f6.params.toList args.toList ds p := hA0
  rw [Tryz.params6] at hA hval
  obtain ⟨v0, vs0, d0, ds0, p0, q0, hargs0, rfl, rfl, h0, r0⟩ := trodAll_cons hA
  obtain ⟨v1, vs1, d1, ds1, p1, q1, hargs1, rfl, rfl, h1, r1⟩ := trodAll_cons r0
  obtain ⟨rfl, rfl, rfl⟩ := trodAll_nil r1
  obtain rfl : args = #[v0, v1] := by cases args; simp_all
  have hlt : ∀ x ∈ q, x.block < W.heap.size := hV.lt
  obtain ⟨gv, tv, cs, fuel, dv, pv, rfl, hg1, hg2, hg3, hg4, rfl⟩ := trodVars_one hV
  have h0k := h0
  obtain ⟨s0, u0, a0, rfl, w0, x0, n0⟩ := figure_open (hval 0 32 v0 rfl rfl) h0
  have h1k := h1
  obtain ⟨sa1, sn1, sc1, rfl⟩ := okWide_slice Tryz.underlying22 (hval 1 22 v1 rfl rfl)
  obtain ⟨a1, w1, n1⟩ := stars_open h1
  clear hA0
  have hltp : ∀ x ∈ p0 ++ (p1 ++ []) ++ (MemPlace.row ⟨gv, 0, none⟩ cs.size ++ pv), x.block < W.heap.size := fun x hx => hW'.lt x hx
  refine (walk W s0 u0 a0 w0 x0 n0 _ a1 w1 n1 henv).mono fun e W' ⟨he, hg⟩ => ?_
  subst he
  exact ⟨_, rfl, post_of_below (pa := p0 ++ (p1 ++ [])) (pv := MemPlace.row ⟨gv, 0, none⟩ cs.size ++ pv) hW' (fun _ _ _ => (trodAll_cons_mk (shut_bool Tryz.underlying4 _) trodAll_mk0)) (fun sp hsp => (trodAll_cons_mk (WideElems.Trod_stays (by kernel_rfl) (by kernel_rfl) (of_decide_eq_true (by kernel_rfl)) h0k (fun x hx => hg.same (hltp x (by simp [hx]))) (fun x hx => hsp x (by simp [hx]))) (trodAll_cons_mk (WideElems.Trod_stays (by kernel_rfl) (by kernel_rfl) (of_decide_eq_true (by kernel_rfl)) h1k (fun x hx => hg.same (hltp x (by simp [hx]))) (fun x hx => hsp x (by simp [hx]))) trodAll_mk0))) (fun sp hsp => vars_stay hg hg1 hg2 hg3 hg4 (fun x hx => hlt x (List.mem_append_right _ hx)) sp (fun x hx => hsp x (List.mem_append_right _ (List.mem_append_right _ hx)))) rfl
    hg (ok_one (by kernel_rfl) rfl (okWide_bool_mk Tryz.underlying4 _))⟩

set_option maxRecDepth 100000 in
theorem laid_met (os : Os) : laidMetH Tryz.prog Rows.fnExactFigureCentreRow.laid ((World.laidAll Tryz.prog os Rows.fnExactFigureCentreRow.laid).forCall (fun _ _ => 0) ⟨#[], #[.agg #[.string ByteArray.empty, .slice none 0 0], .slice none 0 0], []⟩).memory := by
  rw [MakeChecks.laidMetH_plain _ _ _ (by kernel_rfl)]
  exact laidMet_laidAll _ (by kernel_rfl) (by kernel_rfl)
set_option maxRecDepth 100000 in
theorem reads (os : Os) {H : Type} (enc : TypeId × Value → H) : ∃ places, DataW.whole enc Tryz.prog ((World.laidAll Tryz.prog os Rows.fnExactFigureCentreRow.laid).forCall (fun _ _ => 0) ⟨#[], #[.agg #[.string ByteArray.empty, .slice none 0 0], .slice none 0 0], []⟩).memory Tryz.f6.params.toList Rows.fnExactFigureCentreSpec.vars false #[.agg #[.string ByteArray.empty, .slice none 0 0], .slice none 0 0].toList 8 = some ([.agg [.lit (.string []), .nil], .nil], [.agg (sinT.map fun z => .lit (.int .i64 z))], places) :=
  ⟨MemPlace.row ⟨0, 0, none⟩ 91, by kernel_rfl⟩

set_option maxRecDepth 100000 in
theorem lifted (os : Os) (started : os.Started) (H : Type) (enc : TypeId × Value → H) (F : Stop.Interp) :
    ReturnsInHanded {} Tryz.checked os 6 .any ((OpenSpec.ofChange Rows.fnExactFigureCentreSpec).preRow enc Tryz.prog Tryz.f6 Rows.fnExactFigureCentreRow.domain false Rows.fnExactFigureCentreRow.laid) (((OpenSpec.ofChange Rows.fnExactFigureCentreSpec).at F).post enc Tryz.prog Tryz.f6 false true false false) := by
  obtain ⟨places, hx⟩ := reads os enc
  refine returnsInHanded_of_row (C := Tryz.checked) (s := OpenSpec.ofChange Rows.fnExactFigureCentreSpec) own started (by kernel_rfl) Tryz.func6
    (witness_row_at (enc := enc) (C := Tryz.checked) false (World.laidAll Tryz.prog os Rows.fnExactFigureCentreRow.laid) #[.agg #[.string ByteArray.empty, .slice none 0 0], .slice none 0 0] (World.laidAll_os _ _ _) (by kernel_rfl) (by kernel_rfl) (by kernel_rfl)
      (OpenSpec.preRow_of_cond 8 hx (by kernel_rfl) (fun k hk => by cases hk) (by kernel_rfl) (laid_met os))) ?_
  intro W base args ds gs before hval hW _ _ _ hL hS _
  rw [MakeChecks.laidMetH_plain _ _ _ (by kernel_rfl)] at hL
  exact contract H enc W base args ds gs before hval hW (env_of hL hS)

theorem said : Rows.FnExactFigureCentreSaid :=
  OpenClaim.holds_of_cond 6 Tryz.f6 rfl rfl rfl rfl rfl rfl rfl ⟨rfl, rfl, rfl, rfl, rfl⟩ rfl rfl rfl rfl rfl (by kernel_rfl) Tryz.func6 (by kernel_rfl)
    (of_decide_eq_true (by kernel_rfl)) (by unfold Func.isWrapper; first | (rw [if_pos (by decide +kernel)]; kernel_rfl) | (rw [if_neg (by decide +kernel)]; exact ⟨rfl, rfl⟩))
    (fun os started H enc _ F => by rw [OpenClaim.pre_eq_preRow]; exact lifted os started H enc F)

theorem plain (f : FuncId) (fn : Func) (hf : Tryz.pinned.checked.prog.funcNamed "loop.example/g00955/laws.FnExactFigureCentre" = some f) (hfn : Tryz.pinned.checked.prog.funcs[f]? = some fn) :
    false = Tryz.pinned.checked.prog.looks [] ∧ ∀ (j : Nat) t, fn.params[j]? = some t → Tryz.pinned.checked.prog.wantsStandIn t = false := by
  obtain rfl : f = 6 := Option.some.inj ((show Tryz.prog.funcNamed "loop.example/g00955/laws.FnExactFigureCentre" = some 6 by kernel_rfl).symm.trans hf) |>.symm
  obtain rfl : fn = Tryz.f6 := (Option.some.inj (Tryz.func6.symm.trans hfn)).symm
  refine ⟨by kernel_rfl, fun j t ht => ?_⟩
  rw [Tryz.params6] at ht
  have hm : t ∈ [32, 22] := by simpa using Array.mem_of_getElem? ht
  have hall : ([32, 22].all fun u => !Tryz.prog.wantsStandIn u) = true := by kernel_rfl
  exact (show Tryz.prog.wantsStandIn t = false by simpa using List.all_eq_true.1 hall t hm)

theorem card : Rows.FnExactFigureCentreCardSaid :=
  Claim7.holds_tied_plain_at .later [] _ _ _ _ said (fun _ h => by cases h) (by kernel_rfl) (fun _ h => by cases h) fnExactFigureCentre_row_tie rfl ⟨rfl, rfl⟩ (by kernel_rfl) rfl plain (by kernel_rfl)
#print axioms card
end Go.Proofs.YtoellkbmhpekdaaGreatDoor.fnExactFigureCentre
