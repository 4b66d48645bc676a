/-
  The law FnExactVisibleStars, with what its package variables hold tied to the program's text: for every input the call returns true, and each argument reads afterwards as it read before. No condition. (The card ties the listed variables to a pruned copy of the project: the packages that this seat's roots load.)
-/
import Derived.Test.YtjghopepgfgebaaGreatDoorCards
import Derived.Test.YtjghopepgfgebaaGreatDoorTie
import Derived.Test.YtjghopepgfgebaaGreatDoorPost0
import Derived.Test.YtjghopepgfgebaaGreatDoorVsP
import Derived.Test.YtjghopepgfgebaaGreatDoorFigB
import Derived.Test.YtjghopepgfgebaaGreatDoorPost0
import Derived.WalkKit
import Derived.ProofKit
import Derived.OpenShut
import Derived.ChangeMaps5
import Derived.ChangeSlices
import Derived.Carry
import Derived.Lib.SmallJoins
import Derived.Deep.DeepHandedRow
import Derived.Deep.DeepWitnessRowRef
import Derived.Lay
import Derived.Lib.LaidTab
import Derived.Stop.LaidErr
import Derived.MakeChecks
import Derived.Lib.LaidU8
namespace Go.Proofs.YtjghopepgfgebaaGreatDoor.fnExactVisibleStars
open Go.ChangeShapes Go.WideShapes Go.ChangeAt Go.RowKit Go.ChangeMaps
set_option linter.unusedVariables false

theorem own : ownKnob Tryz.prog.godebug = none := by kernel_rfl

-- DATUM .agg (sinT.map fun z => .lit (.int .i64 z)) SIZE 91 G 0
def Env (w : World) : Prop := SinesOK w
theorem gSn : Tryz.prog.globalNamed "loop.example/g00955/impl.sines" = some 0 := by kernel_rfl
theorem gSnType : (Tryz.prog.globals[0]?).map (·.type) = some 184 := by kernel_rfl
theorem cellsI : Tryz.prog.cellsOf 2 = 1 := by kernel_rfl
theorem listed : Rows.fnExactVisibleStarsRow.laid = [("loop.example/g00955/impl.sines", .agg (sinT.map fun z => .lit (.int .i64 z)))] := rfl
theorem env_of {W : World} (hL : laidMet Tryz.prog Rows.fnExactVisibleStarsRow.laid W) (_hS : W.ShapedOpen Tryz.prog) : Env W := by
  rw [listed] at hL
  obtain ⟨ps, ⟨g, t, cs, fuel, p, q, hg, ht, hv, hd, _, _⟩, _, _⟩ := hL
  obtain rfl := Option.some.inj (gSn.symm.trans hg)
  obtain rfl := Option.some.inj (gSnType.symm.trans ht)
  refine ⟨lt_of_var gSn hv, fun j hj => ?_⟩
  obtain ⟨xs, m, _, ex, _, hl, hel⟩ := DataW.trod_array Tryz.underlying184 hd
  have hE := hel j hj
  rw [cellsI, Nat.mul_one, List.getElem?_eq_getElem (by omega)] at hE
  obtain ⟨z, e1, e2, _⟩ := DataW.trod_int Tryz.underlying2 hE
  have hlen : sinT.length = 91 := rfl
  have e3 : (xs.map (·.1)) = sinT.map fun z => .lit (.int .i64 z) := (DataW.agg.inj (Prod.mk.inj ex).1).symm
  have e4 : (xs.map (·.1))[j]? = (sinT.map fun z => (DataW.lit (.int .i64 z) : DataW Unit))[j]? := by rw [e3]
  rw [List.getElem?_map, List.getElem?_map, List.getElem?_eq_getElem (by omega : j < xs.length), List.getElem?_eq_getElem (by omega : j < sinT.length), e2] at e4
  have hz : z = tab j := by
    simp only [Option.map_some, Option.some.injEq, DataW.lit.injEq, Lit.int.injEq, true_and] at e4
    rw [e4]; unfold tab; rw [List.getD, List.getElem?_eq_getElem (by omega : j < sinT.length)]; rfl
  rw [World.var?_cell hg hv j, ← hz]
  have h0 : ((cs.toList.drop j).take 1)[0]? = some (.int .i64 z) := by rw [e1]; rfl
  simpa using h0
/-- The named variable reads as it did where below the heap's old size nothing has turned. -/
theorem vars_stay {H : Type} {enc : TypeId × Value → H} {W W' : World} (hb : Below W.heap.size W W') {g : Nat} {t : TypeId} {cs : Array Value} {fuel : Nat} {d : DataW H} {p : List MemPlace}
    (h1 : Tryz.prog.globalNamed "loop.example/g00955/impl.sines" = some g) (h2 : (Tryz.prog.globals[g]?).map (·.type) = some t) (h3 : W.var? Tryz.prog "loop.example/g00955/impl.sines" = some cs)
    (h4 : DataW.trod enc Tryz.prog W 0 (fun _ => true) true fuel t cs.toList = some (d, p)) (hp : ∀ x ∈ p, x.block < W.heap.size) (sp : Nat → Bool) (hsp : ∀ x ∈ p, sp x.block = true) :
    DataW.TrodVars enc Tryz.prog W' sp ["loop.example/g00955/impl.sines"] [d] (MemPlace.row ⟨g, 0, none⟩ cs.size ++ p) := by
  obtain rfl := Option.some.inj (gSn.symm.trans h1)
  obtain rfl := Option.some.inj (gSnType.symm.trans h2)
  have hr : Tryz.prog.readableRec 184 = true := by kernel_rfl
  have hl : laidOutB Tryz.prog = true := by kernel_rfl
  exact trodVars_mk1 h1 h2 (var?_below hb h1 (lt_of_var h1 h3) h3)
    (DataW.trod_stays (kids_book hl hr) (book_sized hr) (fun h => by cases h) ⟨of_decide_eq_true (by kernel_rfl), book_self _⟩ h4 (fun x hx => hb.same (hp x hx)) hsp)

set_option maxRecDepth 100000 in
set_option maxHeartbeats 8000000 in
theorem walk (w : World) (s0 : ByteArray) (a0 b0 : Int) (w0 : SiteOk s0 a0 b0) (a1 : Int) (w1 : (Lit.int .i64 a1).wf = true) (v2 : Value) (a2 : List StarV) (w2 : StarsIn w v2 a2) (n2 : a2.length ≤ 9223372036854775807) (a3 : Int) (w3 : (Lit.int .i64 a3).wf = true) (henv : Env w) :
    Calls Tryz.prog 3 #[.agg #[.string s0, .int .i64 a0, .int .i64 b0], .int .i64 a1, v2, .int .i64 a3] w fun e w' => e = .returned (.bool true) ∧ Below w.heap.size w w' := by
  have Z := Lib.hid (fun l h0 h1 w h => szS_any l h0 h1 (w := w) (v := v2) (zs := a2) h n2)
  have I0 := Lib.hid w2
  have OK : Hid (∀ j, (h : j < a2.length) → a2[j].ok) := Lib.hid (by
    intro j hj
    rcases w2 with ⟨a, cap, _, rfl⟩ | ⟨b, off, cap, _, _, hc⟩
    · cases hj
    · exact (hc j hj).2)
  have SM : Hid (s0.size ≤ maxLen) := Lib.hid w0.1
  have E : Hid (SinesOK w) := Lib.hid henv
  have TSi := Lib.hid (fun W => toSite_any s0 a0 b0 W)
  have ZSi := Lib.hid (fun W => szSite_any s0 a0 b0 1048576 (by omega) (by omega) SM.out W)
  clear w0 w1 w2 w3 n2 henv
  go_enter Tryz.func3, Tryz.ntmps3
  go_wp2_with fail
  obtain ⟨wz, hwz⟩ : ∃ W, W = w.alloc (Obj.cells #[Value.string s0, Value.int .i64 a0, Value.int .i64 b0] 23) := ⟨_, rfl⟩
  rw [← hwz]
  have hz0 : Below w.heap.size w wz := by rw [hwz]; exact (Below.refl _ _).alloc (Nat.le_refl _) _
  have qz : wz.cell? ⟨w.heap.size, 0, none⟩ = some (.string s0) ∧ wz.cell? ⟨w.heap.size, 1, none⟩ = some (.int .i64 a0) ∧ wz.cell? ⟨w.heap.size, 2, none⟩ = some (.int .i64 b0) := by
    rw [hwz]
    refine ⟨?_, ?_, ?_⟩ <;> (rw [World.cell?_alloc_at _ _ _ _ (by simp)]; rfl)
  have QB : Hid (∀ W, Below wz.heap.size wz W → W.cell? ⟨w.heap.size, 0, none⟩ = some (.string s0) ∧ W.cell? ⟨w.heap.size, 1, none⟩ = some (.int .i64 a0) ∧ W.cell? ⟨w.heap.size, 2, none⟩ = some (.int .i64 b0)) := Lib.hid (fun W h => by
    obtain ⟨k0, k1, k2⟩ := qz
    obtain ⟨c, _⟩ := bcell h
    have l0 := World.block_lt_of_cell? _ _ k0
    exact ⟨(c _ _ l0).trans k0, (c _ _ l0).trans k1, (c _ _ l0).trans k2⟩)
  have IZ := Lib.hid (I0.out.below hz0)
  have EZ := Lib.hid (E.out.below hz0)
  have HZ := Lib.hid hz0
  have wsz : w.heap.size ≤ wz.heap.size := hz0.size
  clear hwz hz0 I0 E qz
  obtain ⟨q0, q1, q2⟩ := QB.out _ (Below.refl _ wz)
  refine (ZSi.out _).mono ?_
  rintro e w1 ⟨rfl, hb1⟩
  have HQ1 := Lib.hid hb1
  clear q0 q1 q2 hb1 ZSi
  have hy1 : szN s0 1048576 ≤ 1048576 := by unfold szN; split <;> omega
  generalize szN s0 1048576 = y at *
  by_cases hy : y < 0
  · go_wp2_with fail
    go_ret
    exact ⟨rfl, HZ.out.trans (HQ1.out.mono wsz)⟩
  · go_wp2_with fail
    refine (Z.out _ (by omega) (by omega) _ (IZ.out.below HQ1.out)).mono ?_
    rintro e w2 ⟨z, rfl, hz0, hz1, hz2, hb2⟩
    have HQ2 := Lib.hid (HQ1.out.trans (hb2.mono HQ1.out.size))
    by_cases hz : z < 0
    · clear hz2 hb2
      go_wp2_with fail
      go_ret
      exact ⟨rfl, HZ.out.trans (HQ2.out.mono wsz)⟩
    have hl := hz2 (by omega)
    clear hb2 hz2
    have T := Lib.hid (fun w h => toS_any (w := w) (v := v2) (zs := a2) h hl)
    have F1 := Lib.hid (fun g cap w h => specVs_any s0 a0 b0 a1 a3 g cap a2 w (by omega) h)
    have F2 := Lib.hid (fun g cap w hw h => implVs_any s0 a0 b0 a1 a3 SM.out g cap a2 w hw (by omega) h OK.out)
    have EQ := Lib.hid (fun g g' cap cap' w h h' => eqS_full g g' cap cap' a2 w (by omega) h h')
    have MK := Lib.hid (fun g cap w h => markSt_full g cap a2 w (by omega) h)
    have hrl := vsV_len a2 s0 a0 b0 a1 a3
    obtain ⟨L, c, hR⟩ : ∃ L c, vsV a2 s0 a0 b0 a1 a3 = (L, c) := ⟨_, _, rfl⟩
    rw [hR] at F1 F2 hrl
    unfold VisPost at F1 F2
    clear hR
    simp only at hrl F1 F2
    obtain ⟨q0, q1, q2⟩ := QB.out _ HQ2.out
    go_wp2_with fail
    refine (TSi.out _).mono ?_
    rintro e w3 ⟨rfl, hb3⟩
    have HQ3 := Lib.hid (HQ2.out.trans (hb3.mono HQ2.out.size))
    clear hb3 q0 q1 q2
    go_wp2_with fail
    refine (T.out _ (IZ.out.below HQ3.out)).mono ?_
    rintro e w4 ⟨rfl, hR4, hb4⟩
    have HQ4 := Lib.hid (HQ3.out.trans (hb4.mono HQ3.out.size))
    have R4 := Lib.hid hR4
    clear hb4 hR4
    go_wp2_with fail
    refine (F1.out _ _ _ R4.out).mono ?_
    rintro e w5 ⟨v, rfl, ho5, hb5⟩
    have HQ5 := Lib.hid (HQ4.out.trans (hb5.mono HQ4.out.size))
    have O5 := Lib.hid ho5
    clear hb5 ho5
    go_wp2_with fail
    refine (T.out _ (IZ.out.below HQ5.out)).mono ?_
    rintro e w6 ⟨rfl, hR6, hb6⟩
    have HQ6 := Lib.hid (HQ5.out.trans (hb6.mono HQ5.out.size))
    have HC6 := Lib.hid hb6
    have R6 := Lib.hid hR6
    have hg6 : w5.heap.size < w6.heap.size := hR6.lt
    clear hb6 hR6
    obtain ⟨q0, q1, q2⟩ := QB.out _ HQ6.out
    go_wp2_with fail
    refine (TSi.out _).mono ?_
    rintro e w7 ⟨rfl, hb7⟩
    have HQ7 := Lib.hid (HQ6.out.trans (hb7.mono HQ6.out.size))
    have HC7 := Lib.hid (HC6.out.trans (hb7.mono HC6.out.size))
    have R7 := Lib.hid (R6.out.below hb7)
    have hs67 := hb7.size
    clear hb7 q0 q1 q2
    go_wp2_with fail
    refine (F2.out _ _ _ (EZ.out.below HQ7.out) R7.out).mono ?_
    rintro e w8 ⟨u, rfl, ho8, hb8⟩
    have HQ8 := Lib.hid (HQ7.out.trans (hb8.mono HQ7.out.size))
    have HC8 := Lib.hid (HC7.out.trans (hb8.mono HC7.out.size))
    have R8 := Lib.hid (R7.out.below hb8)
    have O8 := Lib.hid ho8
    have hs78 := hb8.size
    clear hb8 ho8
    go_wp2_with fail
    refine (eqI_same hrl O8.out (ownsRow_belowN O5.out HC8.out)).mono ?_
    rintro e w9 ⟨rfl, n1, rfl⟩
    have HQ9 := Lib.hid (bel_d2 HQ8.out n1)
    have HC9 := Lib.hid (bel_d2 HC8.out n1)
    have R9 : Hid (Row (w8.drewN n1) w5.heap.size a2) := Lib.hid R8.out
    have O9 := Lib.hid (owns_drewN O8.out n1)
    have hs9 : w8.heap.size ≤ (w8.drewN n1).heap.size := Nat.le_refl _
    generalize w8.drewN n1 = W9 at *
    go_wp2_with fail
    refine (T.out _ (IZ.out.below HQ9.out)).mono ?_
    rintro e w10 ⟨rfl, hR10, hb10⟩
    have HQ10 := Lib.hid (HQ9.out.trans (hb10.mono HQ9.out.size))
    have HC10 := Lib.hid (HC9.out.trans (hb10.mono HC9.out.size))
    have R10 := Lib.hid (R9.out.below hb10)
    have R10' := Lib.hid hR10
    have O10 := Lib.hid (ownsRow_belowN O9.out hb10)
    have hs10 := hb10.size
    clear hb10 hR10
    go_wp2_with fail
    refine (EQ.out _ _ _ _ _ R10.out R10'.out).mono ?_
    rintro e w11 ⟨rfl, hb11⟩
    have HQ11 := Lib.hid (HQ10.out.trans (hb11.mono HQ10.out.size))
    have HC11 := Lib.hid (HC10.out.trans (hb11.mono HC10.out.size))
    have R11 := Lib.hid (R10.out.below hb11)
    have O11 := Lib.hid (ownsRow_belowN O10.out hb11)
    have hs11 := hb11.size
    clear hb11
    go_wp2_with fail
    refine (MK.out _ _ _ R11.out).mono ?_
    rintro e w12 ⟨rfl, hg12⟩
    have HC12 := Lib.hid (HC11.out.trans (gb_below hg12 (Nat.le_refl _) (by omega)))
    have HQ12 := Lib.hid (HQ11.out.trans (gb_below hg12 HQ5.out.size (by have := HQ5.out.size; omega)))
    have O12 := Lib.hid (O11.out.kept hg12 (owns_far O11.out (by omega)))
    have hs12 := hg12.size
    clear hg12
    go_wp2_with fail
    refine (eqI_same hrl O12.out (ownsRow_belowN O5.out HC12.out)).mono ?_
    rintro e w13 ⟨rfl, n2, rfl⟩
    have HQ13 := Lib.hid (bel_d2 HQ12.out n2)
    have HC13 := Lib.hid (bel_d2 HC12.out n2)
    have O13 := Lib.hid (owns_drewN O12.out n2)
    have hs13 : w12.heap.size ≤ (w12.drewN n2).heap.size := Nat.le_refl _
    generalize w12.drewN n2 = W13 at *
    go_wp2_with fail
    refine (markI_any 1 hrl (by omega) (by omega) O13.out).mono ?_
    rintro e w14 ⟨rfl, ho14, hb14⟩
    have HQ14 := Lib.hid (HQ13.out.trans (hb14.mono HQ7.out.size))
    have HC14 := Lib.hid (HC13.out.trans (hb14.mono HC7.out.size))
    have O14 := Lib.hid ho14
    clear hb14 ho14
    go_wp2_with fail
    refine (heldI_any 1 hrl (by omega) (by omega) O14.out).mono ?_
    rintro e w15 ⟨rfl, rfl⟩
    obtain ⟨q0, q1, q2⟩ := QB.out _ HQ14.out
    go_wp2_with fail
    refine (TSi.out _).mono ?_
    rintro e w16 ⟨rfl, hb16⟩
    have HQ16 := Lib.hid (HQ14.out.trans (hb16.mono HQ14.out.size))
    have HC16 := Lib.hid (HC14.out.trans (hb16.mono HC14.out.size))
    have O16 := Lib.hid (ownsRow_belowN O14.out hb16)
    clear hb16 q0 q1 q2
    go_wp2_with fail
    refine (T.out _ (IZ.out.below HQ16.out)).mono ?_
    rintro e w17 ⟨rfl, hR17, hb17⟩
    have HQ17 := Lib.hid (HQ16.out.trans (hb17.mono HQ16.out.size))
    have HC17 := Lib.hid (HC16.out.trans (hb17.mono HC16.out.size))
    have R17 := Lib.hid hR17
    have O17 := Lib.hid (ownsRow_belowN O16.out hb17)
    clear hb17 hR17
    go_wp2_with fail
    refine (F2.out _ _ _ (EZ.out.below HQ17.out) R17.out).mono ?_
    rintro e w18 ⟨ux, rfl, ho18, hb18⟩
    have HQ18 := Lib.hid (HQ17.out.trans (hb18.mono HQ17.out.size))
    have HC18 := Lib.hid (HC17.out.trans (hb18.mono HC17.out.size))
    have O18 := Lib.hid (ownsRow_belowN O17.out hb18)
    have P18 := Lib.hid ho18
    clear hb18 ho18
    go_wp2_with fail
    refine (eqI_same hrl P18.out (ownsRow_belowN O5.out HC18.out)).mono ?_
    rintro e w19 ⟨rfl, n3, rfl⟩
    have HQ19 := Lib.hid (bel_d2 HQ18.out n3)
    have O19 := Lib.hid (owns_drewN O18.out n3)
    generalize w18.drewN n3 = W19 at *
    go_wp2_with fail
    refine (heldI_any 1 hrl (by omega) (by omega) O19.out).mono ?_
    rintro e w20 ⟨rfl, rfl⟩
    go_wp2_with fail
    go_ret
    exact ⟨rfl, HZ.out.trans (HQ19.out.mono wsz)⟩

set_option maxRecDepth 100000 in
set_option maxHeartbeats 2000000 in
theorem contract (H : Type) (enc : TypeId × Value → H) (W : World) (base : Nat) (args : Array Value) (ds gs : List (DataW H)) (before : List MemPlace)
    (hval : ∀ (j : Nat) t v, Tryz.f3.params[j]? = some t → args[j]? = some v → Value.okWide Tryz.prog W .any base t v)
    (hW : DataW.Whole enc Tryz.prog Tryz.f3.params.toList Rows.fnExactVisibleStarsSpec.vars false W args.toList ds gs before) (henv : Env W) :
    Calls Tryz.prog 3 args W fun e W' => ∃ v, e = .returned v ∧ Rows.fnExactVisibleStarsSpec.post enc Tryz.prog Tryz.f3 false true false false W args v W' := by
  have hW' := hW
  obtain ⟨p, q, hA0, hV, rfl, hfz, hnd⟩ := hW
  have hA : DataW.TrodAll enc Tryz.prog W 0 (fun _ => true) true Tryz.f3.params.toList args.toList ds p := hA0
  rw [Tryz.params3] at hA hval
  obtain ⟨v0, vs0, d0, ds0, p0, q0, hargs0, rfl, rfl, h0, r0⟩ := trodAll_cons hA
  obtain ⟨v1, vs1, d1, ds1, p1, q1, hargs1, rfl, rfl, h1, r1⟩ := trodAll_cons r0
  obtain ⟨v2, vs2, d2, ds2, p2, q2, hargs2, rfl, rfl, h2, r2⟩ := trodAll_cons r1
  obtain ⟨v3, vs3, d3, ds3, p3, q3, hargs3, rfl, rfl, h3, r3⟩ := trodAll_cons r2
  obtain ⟨rfl, rfl, rfl⟩ := trodAll_nil r3
  obtain rfl : args = #[v0, v1, v2, v3] := by cases args; simp_all
  have hlt : ∀ x ∈ q, x.block < W.heap.size := hV.lt
  obtain ⟨gv, tv, cs, fuel, dv, pv, rfl, hg1, hg2, hg3, hg4, rfl⟩ := trodVars_one hV
  have h0k := h0
  obtain ⟨s0, a0, b0, rfl, w0⟩ := site_open (hval 0 23 v0 rfl rfl) h0
  obtain ⟨a1, rfl, rfl, rfl, w1⟩ := open_int Tryz.underlying2 (hval 1 2 v1 rfl rfl) h1
  have h2k := h2
  obtain ⟨sa2, sn2, sc2, rfl⟩ := okWide_slice Tryz.underlying24 (hval 2 24 v2 rfl rfl)
  obtain ⟨a2, w2, n2⟩ := stars_open h2
  obtain ⟨a3, rfl, rfl, rfl, w3⟩ := open_int Tryz.underlying2 (hval 3 2 v3 rfl rfl) h3
  clear hA0
  have hltp : ∀ x ∈ p0 ++ ([] ++ (p2 ++ ([] ++ []))) ++ (MemPlace.row ⟨gv, 0, none⟩ cs.size ++ pv), x.block < W.heap.size := fun x hx => hW'.lt x hx
  refine (walk W s0 a0 b0 w0 a1 w1 _ a2 w2 n2 a3 w3 henv).mono fun e W' ⟨he, hg⟩ => ?_
  subst he
  exact ⟨_, rfl, post_of_below (pa := p0 ++ ([] ++ (p2 ++ ([] ++ [])))) (pv := MemPlace.row ⟨gv, 0, none⟩ cs.size ++ pv) hW' (fun _ _ _ => (trodAll_cons_mk (shut_bool Tryz.underlying4 _) trodAll_mk0)) (fun sp hsp => (trodAll_cons_mk (WideElems.Trod_stays (by kernel_rfl) (by kernel_rfl) (of_decide_eq_true (by kernel_rfl)) h0k (fun x hx => hg.same (hltp x (by simp [hx]))) (fun x hx => hsp x (by simp [hx]))) (trodAll_cons_mk (shut_int Tryz.underlying2 w1) (trodAll_cons_mk (WideElems.Trod_stays (by kernel_rfl) (by kernel_rfl) (of_decide_eq_true (by kernel_rfl)) h2k (fun x hx => hg.same (hltp x (by simp [hx]))) (fun x hx => hsp x (by simp [hx]))) (trodAll_cons_mk (shut_int Tryz.underlying2 w3) trodAll_mk0))))) (fun sp hsp => vars_stay hg hg1 hg2 hg3 hg4 (fun x hx => hlt x (List.mem_append_right _ hx)) sp (fun x hx => hsp x (List.mem_append_right _ (List.mem_append_right _ hx)))) rfl
    hg (ok_one (by kernel_rfl) rfl (okWide_bool_mk Tryz.underlying4 _))⟩

set_option maxRecDepth 100000 in
theorem laid_met (os : Os) : laidMetH Tryz.prog Rows.fnExactVisibleStarsRow.laid ((World.laidAll Tryz.prog os Rows.fnExactVisibleStarsRow.laid).forCall (fun _ _ => 0) ⟨#[], #[.agg #[.string ByteArray.empty, .int .i64 0, .int .i64 0], .int .i64 0, .slice none 0 0, .int .i64 0], []⟩).memory := by
  rw [MakeChecks.laidMetH_plain _ _ _ (by kernel_rfl)]
  exact laidMet_laidAll _ (by kernel_rfl) (by kernel_rfl)
set_option maxRecDepth 100000 in
theorem reads (os : Os) {H : Type} (enc : TypeId × Value → H) : ∃ places, DataW.whole enc Tryz.prog ((World.laidAll Tryz.prog os Rows.fnExactVisibleStarsRow.laid).forCall (fun _ _ => 0) ⟨#[], #[.agg #[.string ByteArray.empty, .int .i64 0, .int .i64 0], .int .i64 0, .slice none 0 0, .int .i64 0], []⟩).memory Tryz.f3.params.toList Rows.fnExactVisibleStarsSpec.vars false #[.agg #[.string ByteArray.empty, .int .i64 0, .int .i64 0], .int .i64 0, .slice none 0 0, .int .i64 0].toList 8 = some ([.agg [.lit (.string []), .lit (.int .i64 0), .lit (.int .i64 0)], .lit (.int .i64 0), .nil, .lit (.int .i64 0)], [.agg (sinT.map fun z => .lit (.int .i64 z))], places) :=
  ⟨MemPlace.row ⟨0, 0, none⟩ 91, by kernel_rfl⟩

set_option maxRecDepth 100000 in
theorem lifted (os : Os) (started : os.Started) (H : Type) (enc : TypeId × Value → H) (F : Stop.Interp) :
    ReturnsInHanded {} Tryz.checked os 3 .any ((OpenSpec.ofChange Rows.fnExactVisibleStarsSpec).preRow enc Tryz.prog Tryz.f3 Rows.fnExactVisibleStarsRow.domain false Rows.fnExactVisibleStarsRow.laid) (((OpenSpec.ofChange Rows.fnExactVisibleStarsSpec).at F).post enc Tryz.prog Tryz.f3 false true false false) := by
  obtain ⟨places, hx⟩ := reads os enc
  refine returnsInHanded_of_row (C := Tryz.checked) (s := OpenSpec.ofChange Rows.fnExactVisibleStarsSpec) own started (by kernel_rfl) Tryz.func3
    (witness_row_at (enc := enc) (C := Tryz.checked) false (World.laidAll Tryz.prog os Rows.fnExactVisibleStarsRow.laid) #[.agg #[.string ByteArray.empty, .int .i64 0, .int .i64 0], .int .i64 0, .slice none 0 0, .int .i64 0] (World.laidAll_os _ _ _) (by kernel_rfl) (by kernel_rfl) (by kernel_rfl)
      (OpenSpec.preRow_of_cond 8 hx (by kernel_rfl) (fun k hk => by cases hk) (by kernel_rfl) (laid_met os))) ?_
  intro W base args ds gs before hval hW _ _ _ hL hS _
  rw [MakeChecks.laidMetH_plain _ _ _ (by kernel_rfl)] at hL
  exact contract H enc W base args ds gs before hval hW (env_of hL hS)

theorem said : Rows.FnExactVisibleStarsSaid :=
  OpenClaim.holds_of_cond 3 Tryz.f3 rfl rfl rfl rfl rfl rfl rfl ⟨rfl, rfl, rfl, rfl, rfl⟩ rfl rfl rfl rfl rfl (by kernel_rfl) Tryz.func3 (by kernel_rfl)
    (of_decide_eq_true (by kernel_rfl)) (by unfold Func.isWrapper; first | (rw [if_pos (by decide +kernel)]; kernel_rfl) | (rw [if_neg (by decide +kernel)]; exact ⟨rfl, rfl⟩))
    (fun os started H enc _ F => by rw [OpenClaim.pre_eq_preRow]; exact lifted os started H enc F)

theorem plain (f : FuncId) (fn : Func) (hf : Tryz.pinned.checked.prog.funcNamed "loop.example/g00955/laws.FnExactVisibleStars" = some f) (hfn : Tryz.pinned.checked.prog.funcs[f]? = some fn) :
    false = Tryz.pinned.checked.prog.looks [] ∧ ∀ (j : Nat) t, fn.params[j]? = some t → Tryz.pinned.checked.prog.wantsStandIn t = false := by
  obtain rfl : f = 3 := Option.some.inj ((show Tryz.prog.funcNamed "loop.example/g00955/laws.FnExactVisibleStars" = some 3 by kernel_rfl).symm.trans hf) |>.symm
  obtain rfl : fn = Tryz.f3 := (Option.some.inj (Tryz.func3.symm.trans hfn)).symm
  refine ⟨by kernel_rfl, fun j t ht => ?_⟩
  rw [Tryz.params3] at ht
  have hm : t ∈ [23, 2, 24, 2] := by simpa using Array.mem_of_getElem? ht
  have hall : ([23, 2, 24, 2].all fun u => !Tryz.prog.wantsStandIn u) = true := by kernel_rfl
  exact (show Tryz.prog.wantsStandIn t = false by simpa using List.all_eq_true.1 hall t hm)

theorem card : Rows.FnExactVisibleStarsCardSaid :=
  Claim7.holds_tied_plain_at .later [] _ _ _ _ said (fun _ h => by cases h) (by kernel_rfl) (fun _ h => by cases h) fnExactVisibleStars_row_tie rfl ⟨rfl, rfl⟩ (by kernel_rfl) rfl plain (by kernel_rfl)
#print axioms card
end Go.Proofs.YtjghopepgfgebaaGreatDoor.fnExactVisibleStars
