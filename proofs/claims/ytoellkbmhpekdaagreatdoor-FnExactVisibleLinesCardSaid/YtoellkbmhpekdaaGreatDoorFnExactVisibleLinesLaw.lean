/-
  The law FnExactVisibleLines, with what its package variables hold tied to the program's text: for every input the call returns true, and each argument reads afterwards as it read before. No condition. (The card ties the listed variables to a pruned copy of the project: the packages that this seat's roots load.)
-/
import Derived.Test.YtoellkbmhpekdaaGreatDoorCards
import Derived.Test.YtoellkbmhpekdaaGreatDoorTie
import Derived.Test.YtoellkbmhpekdaaGreatDoorPost0
import Derived.Test.YtoellkbmhpekdaaGreatDoorVisA
import Derived.Test.YtoellkbmhpekdaaGreatDoorFigB
import Derived.Test.YtoellkbmhpekdaaGreatDoorPost0
import Derived.WalkKit
import Derived.ProofKit
import Derived.OpenShut
import Derived.ChangeMaps5
import Derived.ChangeSlices
import Derived.Carry
import Derived.Lib.SmallJoins
import Derived.Deep.DeepHandedRow
import Derived.Deep.DeepWitnessRowRef
import Derived.Lay
import Derived.Lib.LaidTab
import Derived.Stop.LaidErr
import Derived.MakeChecks
import Derived.Lib.LaidU8
namespace Go.Proofs.YtoellkbmhpekdaaGreatDoor.fnExactVisibleLines
open Go.ChangeShapes Go.WideShapes Go.ChangeAt Go.RowKit Go.ChangeMaps
set_option linter.unusedVariables false

theorem own : ownKnob Tryz.prog.godebug = none := by kernel_rfl

-- DATUM .agg (sinT.map fun z => .lit (.int .i64 z)) SIZE 91 G 0
def Env (w : World) : Prop := SinesOK w
theorem gSn : Tryz.prog.globalNamed "loop.example/g00955/impl.sines" = some 0 := by kernel_rfl
theorem gSnType : (Tryz.prog.globals[0]?).map (·.type) = some 233 := by kernel_rfl
theorem cellsI : Tryz.prog.cellsOf 2 = 1 := by kernel_rfl
theorem listed : Rows.fnExactVisibleLinesRow.laid = [("loop.example/g00955/impl.sines", .agg (sinT.map fun z => .lit (.int .i64 z)))] := rfl
theorem env_of {W : World} (hL : laidMet Tryz.prog Rows.fnExactVisibleLinesRow.laid W) (_hS : W.ShapedOpen Tryz.prog) : Env W := by
  rw [listed] at hL
  obtain ⟨ps, ⟨g, t, cs, fuel, p, q, hg, ht, hv, hd, _, _⟩, _, _⟩ := hL
  obtain rfl := Option.some.inj (gSn.symm.trans hg)
  obtain rfl := Option.some.inj (gSnType.symm.trans ht)
  refine ⟨lt_of_var gSn hv, fun j hj => ?_⟩
  obtain ⟨xs, m, _, ex, _, hl, hel⟩ := DataW.trod_array Tryz.underlying233 hd
  have hE := hel j hj
  rw [cellsI, Nat.mul_one, List.getElem?_eq_getElem (by omega)] at hE
  obtain ⟨z, e1, e2, _⟩ := DataW.trod_int Tryz.underlying2 hE
  have hlen : sinT.length = 91 := rfl
  have e3 : (xs.map (·.1)) = sinT.map fun z => .lit (.int .i64 z) := (DataW.agg.inj (Prod.mk.inj ex).1).symm
  have e4 : (xs.map (·.1))[j]? = (sinT.map fun z => (DataW.lit (.int .i64 z) : DataW Unit))[j]? := by rw [e3]
  rw [List.getElem?_map, List.getElem?_map, List.getElem?_eq_getElem (by omega : j < xs.length), List.getElem?_eq_getElem (by omega : j < sinT.length), e2] at e4
  have hz : z = tab j := by
    simp only [Option.map_some, Option.some.injEq, DataW.lit.injEq, Lit.int.injEq, true_and] at e4
    rw [e4]; unfold tab; rw [List.getD, List.getElem?_eq_getElem (by omega : j < sinT.length)]; rfl
  rw [World.var?_cell hg hv j, ← hz]
  have h0 : ((cs.toList.drop j).take 1)[0]? = some (.int .i64 z) := by rw [e1]; rfl
  simpa using h0
/-- The named variable reads as it did where below the heap's old size nothing has turned. -/
theorem vars_stay {H : Type} {enc : TypeId × Value → H} {W W' : World} (hb : Below W.heap.size W W') {g : Nat} {t : TypeId} {cs : Array Value} {fuel : Nat} {d : DataW H} {p : List MemPlace}
    (h1 : Tryz.prog.globalNamed "loop.example/g00955/impl.sines" = some g) (h2 : (Tryz.prog.globals[g]?).map (·.type) = some t) (h3 : W.var? Tryz.prog "loop.example/g00955/impl.sines" = some cs)
    (h4 : DataW.trod enc Tryz.prog W 0 (fun _ => true) true fuel t cs.toList = some (d, p)) (hp : ∀ x ∈ p, x.block < W.heap.size) (sp : Nat → Bool) (hsp : ∀ x ∈ p, sp x.block = true) :
    DataW.TrodVars enc Tryz.prog W' sp ["loop.example/g00955/impl.sines"] [d] (MemPlace.row ⟨g, 0, none⟩ cs.size ++ p) := by
  obtain rfl := Option.some.inj (gSn.symm.trans h1)
  obtain rfl := Option.some.inj (gSnType.symm.trans h2)
  have hr : Tryz.prog.readableRec 233 = true := by kernel_rfl
  have hl : laidOutB Tryz.prog = true := by kernel_rfl
  exact trodVars_mk1 h1 h2 (var?_below hb h1 (lt_of_var h1 h3) h3)
    (DataW.trod_stays (kids_book hl hr) (book_sized hr) (fun h => by cases h) ⟨of_decide_eq_true (by kernel_rfl), book_self _⟩ h4 (fun x hx => hb.same (hp x hx)) hsp)

set_option maxRecDepth 100000 in
set_option maxHeartbeats 8000000 in
theorem walk (w : World) (s0 : ByteArray) (u0 : Value) (a0 : List (List Int)) (w0 : s0.size ≤ maxLen) (x0 : LinesIn w u0 a0) (n0 : a0.length ≤ 9223372036854775807) (v1 : Value) (a1 : List StarV) (w1 : StarsIn w v1 a1) (n1 : a1.length ≤ 9223372036854775807) (s2 : ByteArray) (a2 b2 : Int) (w2 : SiteOk s2 a2 b2) (a3 : Int) (w3 : (Lit.int .i64 a3).wf = true) (henv : Env w) :
    Calls Tryz.prog 9 #[.agg #[.string s0, u0], v1, .agg #[.string s2, .int .i64 a2, .int .i64 b2], .int .i64 a3] w fun e w' => e = .returned (.bool true) ∧ Below w.heap.size w w' := by
  have ZF := Lib.hid (fun w h => szFigure_any s0 u0 a0 1048576 (by omega) (by omega) w0 w h n0)
  have X0 := Lib.hid x0
  have Z := Lib.hid (fun l h0 h1 w h => szS_any l h0 h1 (w := w) (v := v1) (zs := a1) h n1)
  have I0 := Lib.hid w1
  have OK : Hid (∀ j, (h : j < a1.length) → a1[j].ok) := Lib.hid (by
    intro j hj
    rcases w1 with ⟨a, cap, _, rfl⟩ | ⟨b, off, cap, _, _, hc⟩
    · cases hj
    · exact (hc j hj).2)
  have FT : Hid (∀ j, (h : j < a0.length) → ∀ x ∈ a0[j], fits x) := Lib.hid (lines_fits x0)
  have W0 := Lib.hid w0
  have SM : Hid (s2.size ≤ maxLen) := Lib.hid w2.1
  have E : Hid (SinesOK w) := Lib.hid henv
  have TSi := Lib.hid (fun W => toSite_any s2 a2 b2 W)
  clear x0 w0 w1 w2 w3 henv
  go_enter Tryz.func9, Tryz.ntmps9
  go_wp2_with fail
  obtain ⟨wz, hwz⟩ : ∃ W, W = (w.alloc (Obj.cells #[Value.string s0, u0] 32)).alloc (Obj.cells #[Value.string s2, Value.int .i64 a2, Value.int .i64 b2] 52) := ⟨_, rfl⟩
  rw [← hwz]
  have hz0 : Below w.heap.size w wz := by rw [hwz]; exact ((Below.refl _ _).alloc (Nat.le_refl _) _).alloc (by simp) _
  have qz : wz.cell? ⟨w.heap.size, 0, none⟩ = some (.string s0) ∧ wz.cell? ⟨w.heap.size, 1, none⟩ = some u0 ∧ wz.cell? ⟨w.heap.size + 1, 0, none⟩ = some (.string s2) ∧ wz.cell? ⟨w.heap.size + 1, 1, none⟩ = some (.int .i64 a2) ∧ wz.cell? ⟨w.heap.size + 1, 2, none⟩ = some (.int .i64 b2) := by
    rw [hwz]
    refine ⟨?_, ?_, ?_, ?_, ?_⟩ <;> first | (rw [World.cell?_alloc_at _ _ _ _ (by simp)]; rfl) | (rw [World.cell?_alloc_lt _ _ _ (by simp)]; simp)
  have QB : Hid (∀ W, Below wz.heap.size wz W → W.cell? ⟨w.heap.size, 0, none⟩ = some (.string s0) ∧ W.cell? ⟨w.heap.size, 1, none⟩ = some u0 ∧ W.cell? ⟨w.heap.size + 1, 0, none⟩ = some (.string s2) ∧ W.cell? ⟨w.heap.size + 1, 1, none⟩ = some (.int .i64 a2) ∧ W.cell? ⟨w.heap.size + 1, 2, none⟩ = some (.int .i64 b2)) := Lib.hid (fun W h => by
    obtain ⟨k0, k1, k2, k3, k4⟩ := qz
    obtain ⟨c, _⟩ := bcell h
    have l0 := World.block_lt_of_cell? _ _ k0
    have l1 := World.block_lt_of_cell? _ _ k2
    exact ⟨(c _ _ l0).trans k0, (c _ _ l0).trans k1, (c _ _ l1).trans k2, (c _ _ l1).trans k3, (c _ _ l1).trans k4⟩)
  have XZ := Lib.hid (X0.out.below hz0)
  have IZ := Lib.hid (I0.out.below hz0)
  have EZ := Lib.hid (E.out.below hz0)
  have HZ := Lib.hid hz0
  have wsz : w.heap.size ≤ wz.heap.size := hz0.size
  clear hwz hz0 X0 I0 E
  obtain ⟨q0, q1, q2, q3, q4⟩ := QB.out _ (Below.refl _ wz)
  refine (ZF.out _ XZ.out).mono ?_
  rintro e w1 ⟨z, rfl, hz0, hz1, hz2, hb1⟩
  have HQ1 := Lib.hid hb1
  clear q0 q1 q2 q3 q4
  by_cases hz : z < 0
  · clear hz2 hb1
    go_wp2_with fail
    go_ret
    exact ⟨rfl, HZ.out.trans (HQ1.out.mono wsz)⟩
  · obtain ⟨hl0, hl1⟩ := hz2 (by omega)
    clear hb1
    go_wp2_with fail
    refine (Z.out _ (by omega) (by omega) _ (IZ.out.below HQ1.out)).mono ?_
    rintro e w2 ⟨y, rfl, hy0, hy1, hy2, hb2⟩
    have HQ2 := Lib.hid (HQ1.out.trans (hb2.mono HQ1.out.size))
    by_cases hy : y < 0
    · clear hy2 hb2
      go_wp2_with fail
      go_ret
      exact ⟨rfl, HZ.out.trans (HQ2.out.mono wsz)⟩
    have ZSi := Lib.hid (fun W => szSite_any s2 a2 b2 y (by omega) (by omega) SM.out W)
    obtain ⟨q0, q1, q2, q3, q4⟩ := QB.out _ HQ2.out
    go_wp2_with fail
    refine (ZSi.out _).mono ?_
    rintro e w2c ⟨rfl, hb2c⟩
    have HQ2c := Lib.hid (HQ2.out.trans (hb2c.mono HQ2.out.size))
    clear hb2c q0 q1 q2 q3 q4
    by_cases hyy : szN s2 y < 0
    · generalize szN s2 y = yy at *
      clear hy2 hb2
      go_wp2_with fail
      go_ret
      exact ⟨rfl, HZ.out.trans (HQ2c.out.mono wsz)⟩
    generalize szN s2 y = yy at *
    have hl := hy2 (by omega)
    clear hy2 hb2
    have TF := Lib.hid (fun w h => toFigure_any s0 u0 a0 w h hl0 hl1)
    have TX := Lib.hid (fun w h => toFigureX_any s0 u0 a0 w h hl0 hl1)
    have EF := Lib.hid (fun g g' bs bs' w h h' => eqFigure_any s0 g g' a0 bs bs' w (by omega) (fun j h => by have := hl1 j h; omega) h h')
    have MF := Lib.hid (fun g cap hi bs w h hg hh hw => markF_any s0 g cap hi a0 bs w hl0 hl1 h hg hh hw)
    have T := Lib.hid (fun w h => toS_any (w := w) (v := v1) (zs := a1) h hl)
    have EQ := Lib.hid (fun g g' cap cap' w h h' => eqS_full g g' cap cap' a1 w (by omega) h h')
    have F1 := Lib.hid (fun g bs g' w cap cap' h h' => specVis_any s0 g cap a0 bs g' cap' a1 s2 a2 b2 a3 w (by omega) (fun j h => by have := hl1 j h; omega) FT.out h (by omega) h')
    have F2 := Lib.hid (fun g bs g' w cap cap' hE h h' => implVis_any s0 W0.out g cap a0 bs g' cap' a1 s2 a2 b2 a3 SM.out w hE (by omega) (fun j h => by have := hl1 j h; omega) h (by omega) h' OK.out)
    have tot : totL a0 a0.length ≤ 1099511627776 := by
      have := totL_le a0 hl1 a0.length (Nat.le_refl _)
      omega
    have MS := Lib.hid (fun k0 h0 h1 g cap w h => markSt_from k0 h0 h1 g cap a1 w (by omega) h)
    generalize totL a0 a0.length = tt at *
    have hrl := visLV_len a1 s0 a0 s2 a2 b2 a3
    obtain ⟨L, c, hR⟩ : ∃ L c, visLV a1 s0 a0 s2 a2 b2 a3 = (L, c) := ⟨_, _, rfl⟩
    rw [hR] at F1 F2 hrl
    unfold VisPost at F1 F2
    clear hR
    simp only at hrl F1 F2
    obtain ⟨q0, q1, q2, q3, q4⟩ := QB.out _ HQ2c.out
    have KA : Hid (w2c.cell? ⟨w.heap.size, 0, none⟩ = some (.string s0) ∧ w2c.cell? ⟨w.heap.size, 1, none⟩ = some u0 ∧ w2c.cell? ⟨w.heap.size + 1, 0, none⟩ = some (.string s2) ∧ w2c.cell? ⟨w.heap.size + 1, 1, none⟩ = some (.int .i64 a2) ∧ w2c.cell? ⟨w.heap.size + 1, 2, none⟩ = some (.int .i64 b2) ∧ Below wz.heap.size wz w2c) := Lib.hid ⟨q0, q1, q2, q3, q4, HQ2c.out⟩
    clear q0 q1 q2 q3 q4
    go_wp2_with fail
    go_region_held3 (fun W => W.cell? ⟨w.heap.size, 0, none⟩ = some (.string s0) ∧ W.cell? ⟨w.heap.size, 1, none⟩ = some u0 ∧ W.cell? ⟨w.heap.size + 1, 0, none⟩ = some (.string s2) ∧ W.cell? ⟨w.heap.size + 1, 1, none⟩ = some (.int .i64 a2) ∧ W.cell? ⟨w.heap.size + 1, 2, none⟩ = some (.int .i64 b2) ∧ Below wz.heap.size wz W) (first | (exact keepW5 KA.out (drewG w2c)) | (exact keepW5 KA.out z4) | (exact keepW5 KA.out z3) | (exact keepW5 KA.out z2) | (exact keepW5 KA.out z1) | go_keep) ((first
      | (go_at_call 18; (with_reducible refine (TF.out _ (XZ.out.below (HQ2c.out.trans ((drewG w2c).mono HQ2c.out.size)))).mono ?_); rintro e u1 ⟨g1, bs1, rfl, hA, hu1⟩; have z1 := undrewG hu1)
      | (go_at_call 13; (with_reducible refine (T.out _ (IZ.out.below (HQ2c.out.trans (z1.mono HQ2c.out.size)))).mono ?_); rintro e u2 ⟨rfl, hR, hu2⟩; have z2 := z1.trans (hu2.mono z1.size))
      | (go_at_call 36; (with_reducible refine (TSi.out _).mono ?_); rintro e u3 ⟨rfl, hu3⟩; have z3 := z2.trans (hu3.mono z2.size))
      | (go_at_call 35; (with_reducible refine (F1.out _ _ _ _ _ _ (hA.below (hu2.trans (hu3.mono hu2.size))) (hR.below hu3)).mono ?_); rintro e u4 ⟨v, rfl, ho5, hu4⟩; have z4 := z3.trans (hu4.mono z3.size))))
    rename_i held
    have HQ5 := Lib.hid held.2.2.2.2.2
    have O5 := Lib.hid ho5
    clear held z1 z2 z3 z4 hu1 hu2 hu3 hu4 hA hR ho5 KA
    obtain ⟨q0, q1, q2, q3, q4⟩ := QB.out _ HQ5.out
    go_wp2_with fail
    refine (TX.out _ (XZ.out.below HQ5.out)).mono ?_
    rintro e w6 ⟨g2, bs2, rfl, hA, hb6, hlo, hup⟩
    have HQ6 := Lib.hid (HQ5.out.trans (hb6.mono HQ5.out.size))
    have HC6 := Lib.hid hb6
    have A6 := Lib.hid hA
    have UP := Lib.hid hup
    have LO := Lib.hid hlo
    have HI : Hid (∀ k, k < a0.length → bs2 k < w6.heap.size) := Lib.hid (fun k hk => World.rowIs.lt (hA.each k hk))
    clear hb6 hA hup q0 q1 q2 q3 q4
    go_wp2_with fail
    obtain ⟨w7, hw7⟩ : ∃ W, W = w6.alloc (Obj.cells #[Value.string s0, Value.slice (some { block := g2, off := 0 }) a0.length a0.length] 36) := ⟨_, rfl⟩
    rw [← hw7]
    have hb7 : Below w6.heap.size w6 w7 := by rw [hw7]; exact (Below.refl _ _).alloc (Nat.le_refl _) _
    have QY7 := Lib.hid (box_new w6 (.string s0) (.slice (some ⟨g2, 0, none⟩) a0.length a0.length) 36)
    rw [← hw7] at QY7
    clear hw7
    have A7 := Lib.hid (A6.out.below hb7)
    have HQ7 := Lib.hid (HQ6.out.trans (hb7.mono HQ6.out.size))
    have HC7 := Lib.hid (HC6.out.trans (hb7.mono HC6.out.size))
    have hs7 := hb7.size
    clear hb7 A6
    refine (T.out _ (IZ.out.below HQ7.out)).mono ?_
    rintro e w8 ⟨rfl, hR, hb8⟩
    have A8 := Lib.hid (A7.out.below hb8)
    have QY8 := Lib.hid (box_keep QY7.out hb8)
    have HQ8 := Lib.hid (HQ7.out.trans (hb8.mono HQ7.out.size))
    have HC8 := Lib.hid (HC7.out.trans (hb8.mono HC7.out.size))
    have R8 := Lib.hid hR
    have hg8 : w7.heap.size < w8.heap.size := hR.lt
    clear hb8 hR A7
    obtain ⟨_, p0, p1⟩ := QY8.out
    obtain ⟨q0, q1, q2, q3, q4⟩ := QB.out _ HQ8.out
    have KA : Hid (w8.cell? ⟨w.heap.size, 0, none⟩ = some (.string s0) ∧ w8.cell? ⟨w.heap.size, 1, none⟩ = some u0 ∧ w8.cell? ⟨w.heap.size + 1, 0, none⟩ = some (.string s2) ∧ w8.cell? ⟨w.heap.size + 1, 1, none⟩ = some (.int .i64 a2) ∧ w8.cell? ⟨w.heap.size + 1, 2, none⟩ = some (.int .i64 b2) ∧ w8.cell? ⟨w6.heap.size, 0, none⟩ = some (.string s0) ∧ w8.cell? ⟨w6.heap.size, 1, none⟩ = some (.slice (some ⟨g2, 0, none⟩) a0.length a0.length) ∧ Below wz.heap.size wz w8) := Lib.hid ⟨q0, q1, q2, q3, q4, p0, p1, HQ8.out⟩
    clear q0 q1 q2 q3 q4 p0 p1
    go_wp2_with fail
    go_region_held3 (fun W => W.cell? ⟨w.heap.size, 0, none⟩ = some (.string s0) ∧ W.cell? ⟨w.heap.size, 1, none⟩ = some u0 ∧ W.cell? ⟨w.heap.size + 1, 0, none⟩ = some (.string s2) ∧ W.cell? ⟨w.heap.size + 1, 1, none⟩ = some (.int .i64 a2) ∧ W.cell? ⟨w.heap.size + 1, 2, none⟩ = some (.int .i64 b2) ∧ W.cell? ⟨w6.heap.size, 0, none⟩ = some (.string s0) ∧ W.cell? ⟨w6.heap.size, 1, none⟩ = some (.slice (some ⟨g2, 0, none⟩) a0.length a0.length) ∧ Below wz.heap.size wz W) (first | (exact keepW7 KA.out (drewG w8)) | (exact keepW7 KA.out y2) | (exact keepW7 KA.out y1) | go_keep) ((first
      | (go_at_call 36; (with_reducible refine (TSi.out _).mono ?_); rintro e w8t ⟨rfl, hu1⟩; have y1 := undrewG hu1)
      | (go_at_call 37; (with_reducible refine (F2.out _ _ _ _ _ _ (EZ.out.below (HQ8.out.trans (y1.mono HQ8.out.size))) (A8.out.below y1) (R8.out.below y1)).mono ?_); rintro e w9 ⟨u, rfl, ho9, hu2⟩; have y2 := y1.trans (hu2.mono y1.size))))
    rename_i held
    have A9 := Lib.hid (A8.out.below y2)
    have R9 := Lib.hid (R8.out.below y2)
    have QY9 := Lib.hid (box_keep QY8.out y2)
    have HQ9 := Lib.hid held.2.2.2.2.2.2.2
    have HC9 := Lib.hid (HC8.out.trans (y2.mono HC8.out.size))
    have O9 := Lib.hid (Go.Joins.ownsRow_le ho9 y1.size)
    have hs9 := y2.size
    clear held ho9 hu1 hu2 y1 y2 A8 R8 QY7 KA
    go_wp2_with fail
    refine (eqI_same hrl O9.out (ownsRow_belowN O5.out HC9.out)).mono ?_
    rintro e w10 ⟨rfl, n1, rfl⟩
    have HQ10 := Lib.hid (bel_d2 HQ9.out n1)
    have HC10 := Lib.hid (bel_d2 HC9.out n1)
    have R10 : Hid (Row (w9.drewN n1) w7.heap.size a1) := Lib.hid R9.out
    have A10 : Hid (LRow (w9.drewN n1) g2 a0 bs2) := Lib.hid ⟨A9.out.row, A9.out.each⟩
    have O10 := Lib.hid (owns_drewN O9.out n1)
    have QY10 : Hid (w6.heap.size < (w9.drewN n1).heap.size ∧ (w9.drewN n1).cell? ⟨w6.heap.size, 0, none⟩ = some (.string s0) ∧ (w9.drewN n1).cell? ⟨w6.heap.size, 1, none⟩ = some (.slice (some ⟨g2, 0, none⟩) a0.length a0.length)) := Lib.hid QY9.out
    have hs10 : w9.heap.size ≤ (w9.drewN n1).heap.size := Nat.le_refl _
    clear A9 R9 O9 QY9 QY8
    generalize w9.drewN n1 = w10 at *
    obtain ⟨q0, q1, q2, q3, q4⟩ := QB.out _ HQ10.out
    obtain ⟨_, p0, p1⟩ := QY10.out
    have KB : Hid (w10.cell? ⟨w.heap.size, 0, none⟩ = some (.string s0) ∧ w10.cell? ⟨w.heap.size, 1, none⟩ = some u0 ∧ w10.cell? ⟨w6.heap.size, 0, none⟩ = some (.string s0) ∧ w10.cell? ⟨w6.heap.size, 1, none⟩ = some (.slice (some ⟨g2, 0, none⟩) a0.length a0.length) ∧ Below wz.heap.size wz w10) := Lib.hid ⟨q0, q1, p0, p1, HQ10.out⟩
    clear q0 q1 q2 q3 q4 p0 p1
    go_wp2_with fail
    go_region_held3 (fun W => W.cell? ⟨w.heap.size, 0, none⟩ = some (.string s0) ∧ W.cell? ⟨w.heap.size, 1, none⟩ = some u0 ∧ W.cell? ⟨w6.heap.size, 0, none⟩ = some (.string s0) ∧ W.cell? ⟨w6.heap.size, 1, none⟩ = some (.slice (some ⟨g2, 0, none⟩) a0.length a0.length) ∧ Below wz.heap.size wz W) (first | (exact keepW4 KB.out (drewG w10)) | (exact keepW4 KB.out z2) | (exact keepW4 KB.out z1) | go_keep) ((first
      | (go_at_call 18; refine (TF.out _ (XZ.out.below (HQ10.out.trans ((drewG w10).mono HQ10.out.size)))).mono ?_; rintro e u1 ⟨g3, bs3, rfl, hC, hu1⟩; have z1 := undrewG hu1)
      | (go_at_call 20; refine (EF.out _ _ _ _ _ (A10.out.below z1) hC).mono ?_; rintro e u2 ⟨rfl, hu2⟩; have z2 := z1.trans (hu2.mono z1.size))))
    rename_i w12 held
    have HQ12 := Lib.hid held.2.2.2.2
    have HC12 := Lib.hid (HC10.out.trans (z2.mono HC10.out.size))
    have R12 := Lib.hid (R10.out.below z2)
    have A12 := Lib.hid (A10.out.below z2)
    have O12 := Lib.hid (ownsRow_belowN O10.out z2)
    have QY12 := Lib.hid (box_keep QY10.out z2)
    have hs12 := z2.size
    clear held KB A10 R10 O10
    go_wp2_with fail
    refine (T.out _ (IZ.out.below HQ12.out)).mono ?_
    rintro e w13 ⟨rfl, hC, hb13⟩
    have HQ13 := Lib.hid (HQ12.out.trans (hb13.mono HQ12.out.size))
    have HC13 := Lib.hid (HC12.out.trans (hb13.mono HC12.out.size))
    have R13 := Lib.hid (R12.out.below hb13)
    have A13 := Lib.hid (A12.out.below hb13)
    have O13 := Lib.hid (ownsRow_belowN O12.out hb13)
    have QY13 := Lib.hid (box_keep QY12.out hb13)
    have C13 := Lib.hid hC
    have hs13 := hb13.size
    clear hb13 hC A12 R12 O12
    go_wp2_with fail
    refine (EQ.out _ _ _ _ _ R13.out C13.out).mono ?_
    rintro e w14 ⟨rfl, hb14⟩
    have HQ14 := Lib.hid (HQ13.out.trans (hb14.mono HQ13.out.size))
    have HC14 := Lib.hid (HC13.out.trans (hb14.mono HC13.out.size))
    have R14 := Lib.hid (R13.out.below hb14)
    have A14 := Lib.hid (A13.out.below hb14)
    have O14 := Lib.hid (ownsRow_belowN O13.out hb14)
    have QY14 := Lib.hid (box_keep QY13.out hb14)
    have hs14 := hb14.size
    clear hb14 A13 R13 O13 C13
    obtain ⟨_, p0, p1⟩ := QY14.out
    go_wp2_with fail
    refine (MF.out g2 _ w6.heap.size bs2 _ A14.out UP.out HI.out (by omega)).mono ?_
    rintro e w15 ⟨rfl, hsp⟩
    have hz5 := HQ5.out.size
    have hlo5 := LO.out
    have hz14 := HQ14.out.size
    have hc14 := HC14.out.size
    have HQ15 := Lib.hid (HQ14.out.trans (hsp.below (B := wz.heap.size) (by omega) (by omega)))
    have HC15 := Lib.hid (HC14.out.trans (hsp.below (B := u4.heap.size) (by omega) (by omega)))
    have R15 := Lib.hid (hsp.row R14.out (Or.inr hs7))
    have O15 := Lib.hid (hsp.owns O14.out (by omega))
    have hs15 := hsp.size
    clear hsp A14 R14 O14 p0 p1
    obtain ⟨kk, hkk⟩ : ∃ kk : Nat, (kk : Int) = 1 + (tt : Int) := ⟨1 + tt, by omega⟩
    have hk1 : 1 ≤ kk := by omega
    have hk2 : kk ≤ 1099511627777 := by omega
    rw [← hkk]
    clear hkk
    go_wp2_with fail
    refine (MS.out kk hk1 (by omega) _ _ _ R15.out).mono ?_
    rintro e w16 ⟨rfl, hg16⟩
    have HQ16 := Lib.hid (HQ15.out.trans (gb_below hg16 (by have := HQ7.out.size; omega) (by have := HQ15.out.size; omega)))
    have HC16 := Lib.hid (HC15.out.trans (gb_below hg16 (by have := HC6.out.size; omega) (by have := HC15.out.size; omega)))
    have O16 := Lib.hid (O15.out.kept hg16 (owns_far O15.out hg8))
    have hs16 := hg16.size
    clear hg16 R15 O15
    go_wp2_with fail
    refine (eqI_same hrl O16.out (ownsRow_belowN O5.out HC16.out)).mono ?_
    rintro e w17 ⟨rfl, n2, rfl⟩
    have HQ17 := Lib.hid (bel_d2 HQ16.out n2)
    have HC17 := Lib.hid (bel_d2 HC16.out n2)
    have O17 := Lib.hid (owns_drewN O16.out n2)
    have hs17 : w16.heap.size ≤ (w16.drewN n2).heap.size := Nat.le_refl _
    clear O16
    generalize w16.drewN n2 = w17 at *
    go_wp2_with fail
    refine (markI_any 1 hrl (by omega) (by omega) O17.out).mono ?_
    rintro e w18 ⟨rfl, ho18, hb18⟩
    have HQ18 := Lib.hid (HQ17.out.trans (hb18.mono (by have := HQ8.out.size; omega)))
    have HC18 := Lib.hid (HC17.out.trans (hb18.mono (by have := HC8.out.size; omega)))
    have O18 := Lib.hid ho18
    clear hb18 ho18 O17
    go_wp2_with fail
    refine (heldI_any 1 hrl (by omega) (by omega) O18.out).mono ?_
    rintro e w19 ⟨rfl, rfl⟩
    obtain ⟨q0, q1, q2, q3, q4⟩ := QB.out _ HQ18.out
    have KA : Hid (w18.cell? ⟨w.heap.size, 0, none⟩ = some (.string s0) ∧ w18.cell? ⟨w.heap.size, 1, none⟩ = some u0 ∧ w18.cell? ⟨w.heap.size + 1, 0, none⟩ = some (.string s2) ∧ w18.cell? ⟨w.heap.size + 1, 1, none⟩ = some (.int .i64 a2) ∧ w18.cell? ⟨w.heap.size + 1, 2, none⟩ = some (.int .i64 b2) ∧ Below wz.heap.size wz w18) := Lib.hid ⟨q0, q1, q2, q3, q4, HQ18.out⟩
    clear q0 q1 q2 q3 q4
    go_wp2_with fail
    go_region_held3 (fun W => W.cell? ⟨w.heap.size, 0, none⟩ = some (.string s0) ∧ W.cell? ⟨w.heap.size, 1, none⟩ = some u0 ∧ W.cell? ⟨w.heap.size + 1, 0, none⟩ = some (.string s2) ∧ W.cell? ⟨w.heap.size + 1, 1, none⟩ = some (.int .i64 a2) ∧ W.cell? ⟨w.heap.size + 1, 2, none⟩ = some (.int .i64 b2) ∧ Below wz.heap.size wz W) (first | (exact keepW5 KA.out (drewG w18)) | (exact keepW5 KA.out z4) | (exact keepW5 KA.out z3) | (exact keepW5 KA.out z2) | (exact keepW5 KA.out z1) | go_keep) ((first
      | (go_at_call 18; (with_reducible refine (TF.out _ (XZ.out.below (HQ18.out.trans ((drewG w18).mono HQ18.out.size)))).mono ?_); rintro e u1 ⟨g1, bs1, rfl, hA, hu1⟩; have z1 := undrewG hu1)
      | (go_at_call 13; (with_reducible refine (T.out _ (IZ.out.below (HQ18.out.trans (z1.mono HQ18.out.size)))).mono ?_); rintro e uu2 ⟨rfl, hR, hu2⟩; have z2 := z1.trans (hu2.mono z1.size))
      | (go_at_call 36; (with_reducible refine (TSi.out _).mono ?_); rintro e u3 ⟨rfl, hu3⟩; have z3 := z2.trans (hu3.mono z2.size))
      | (go_at_call 37; (with_reducible refine (F2.out _ _ _ _ _ _ (EZ.out.below (HQ18.out.trans (z3.mono HQ18.out.size))) (hA.below (hu2.trans (hu3.mono hu2.size))) (hR.below hu3)).mono ?_); rintro e v4 ⟨ux, rfl, ho22, hu4⟩; have z4 := z3.trans (hu4.mono z3.size))))
    rename_i held
    have HQ22 := Lib.hid held.2.2.2.2.2
    have HC22 := Lib.hid (HC18.out.trans (z4.mono HC18.out.size))
    have O22 := Lib.hid (ownsRow_belowN O18.out z4)
    have P22 := Lib.hid ho22
    clear held z1 z2 z3 z4 hu1 hu2 hu3 hu4 hA hR ho22 KA
    go_wp2_with fail
    refine (eqI_same hrl P22.out (ownsRow_belowN O5.out HC22.out)).mono ?_
    rintro e w23 ⟨rfl, n3, rfl⟩
    have HQ23 := Lib.hid (bel_d2 HQ22.out n3)
    have O23 := Lib.hid (owns_drewN O22.out n3)
    clear O22 P22
    generalize v4.drewN n3 = w23 at *
    go_wp2_with fail
    refine (heldI_any 1 hrl (by omega) (by omega) O23.out).mono ?_
    rintro e w24 ⟨rfl, rfl⟩
    go_wp2_with fail
    go_ret
    exact ⟨rfl, HZ.out.trans (HQ23.out.mono wsz)⟩

set_option maxRecDepth 100000 in
set_option maxHeartbeats 2000000 in
theorem contract (H : Type) (enc : TypeId × Value → H) (W : World) (base : Nat) (args : Array Value) (ds gs : List (DataW H)) (before : List MemPlace)
    (hval : ∀ (j : Nat) t v, Tryz.f9.params[j]? = some t → args[j]? = some v → Value.okWide Tryz.prog W .any base t v)
    (hW : DataW.Whole enc Tryz.prog Tryz.f9.params.toList Rows.fnExactVisibleLinesSpec.vars false W args.toList ds gs before) (henv : Env W) :
    Calls Tryz.prog 9 args W fun e W' => ∃ v, e = .returned v ∧ Rows.fnExactVisibleLinesSpec.post enc Tryz.prog Tryz.f9 false true false false W args v W' := by
  have hW' := hW
  obtain ⟨p, q, hA0, hV, rfl, hfz, hnd⟩ := hW
  have hA : DataW.TrodAll enc Tryz.prog W 0 (fun _ => true) true Tryz.f9.params.toList args.toList ds p := hA0
  rw [Tryz.params9] at hA hval
  obtain ⟨v0, vs0, d0, ds0, p0, q0, hargs0, rfl, rfl, h0, r0⟩ := trodAll_cons hA
  obtain ⟨v1, vs1, d1, ds1, p1, q1, hargs1, rfl, rfl, h1, r1⟩ := trodAll_cons r0
  obtain ⟨v2, vs2, d2, ds2, p2, q2, hargs2, rfl, rfl, h2, r2⟩ := trodAll_cons r1
  obtain ⟨v3, vs3, d3, ds3, p3, q3, hargs3, rfl, rfl, h3, r3⟩ := trodAll_cons r2
  obtain ⟨rfl, rfl, rfl⟩ := trodAll_nil r3
  obtain rfl : args = #[v0, v1, v2, v3] := by cases args; simp_all
  have hlt : ∀ x ∈ q, x.block < W.heap.size := hV.lt
  obtain ⟨gv, tv, cs, fuel, dv, pv, rfl, hg1, hg2, hg3, hg4, rfl⟩ := trodVars_one hV
  have h0k := h0
  obtain ⟨s0, u0, a0, rfl, w0, x0, n0⟩ := figure_open (hval 0 32 v0 rfl rfl) h0
  have h1k := h1
  obtain ⟨sa1, sn1, sc1, rfl⟩ := okWide_slice Tryz.underlying22 (hval 1 22 v1 rfl rfl)
  obtain ⟨a1, w1, n1⟩ := stars_open h1
  have h2k := h2
  obtain ⟨s2, a2, b2, rfl, w2⟩ := site_open (hval 2 52 v2 rfl rfl) h2
  obtain ⟨a3, rfl, rfl, rfl, w3⟩ := open_int Tryz.underlying2 (hval 3 2 v3 rfl rfl) h3
  clear hA0
  have hltp : ∀ x ∈ p0 ++ (p1 ++ (p2 ++ ([] ++ []))) ++ (MemPlace.row ⟨gv, 0, none⟩ cs.size ++ pv), x.block < W.heap.size := fun x hx => hW'.lt x hx
  refine (walk W s0 u0 a0 w0 x0 n0 _ a1 w1 n1 s2 a2 b2 w2 a3 w3 henv).mono fun e W' ⟨he, hg⟩ => ?_
  subst he
  exact ⟨_, rfl, post_of_below (pa := p0 ++ (p1 ++ (p2 ++ ([] ++ [])))) (pv := MemPlace.row ⟨gv, 0, none⟩ cs.size ++ pv) hW' (fun _ _ _ => (trodAll_cons_mk (shut_bool Tryz.underlying4 _) trodAll_mk0)) (fun sp hsp => (trodAll_cons_mk (WideElems.Trod_stays (by kernel_rfl) (by kernel_rfl) (of_decide_eq_true (by kernel_rfl)) h0k (fun x hx => hg.same (hltp x (by simp [hx]))) (fun x hx => hsp x (by simp [hx]))) (trodAll_cons_mk (WideElems.Trod_stays (by kernel_rfl) (by kernel_rfl) (of_decide_eq_true (by kernel_rfl)) h1k (fun x hx => hg.same (hltp x (by simp [hx]))) (fun x hx => hsp x (by simp [hx]))) (trodAll_cons_mk (WideElems.Trod_stays (by kernel_rfl) (by kernel_rfl) (of_decide_eq_true (by kernel_rfl)) h2k (fun x hx => hg.same (hltp x (by simp [hx]))) (fun x hx => hsp x (by simp [hx]))) (trodAll_cons_mk (shut_int Tryz.underlying2 w3) trodAll_mk0))))) (fun sp hsp => vars_stay hg hg1 hg2 hg3 hg4 (fun x hx => hlt x (List.mem_append_right _ hx)) sp (fun x hx => hsp x (List.mem_append_right _ (List.mem_append_right _ hx)))) rfl
    hg (ok_one (by kernel_rfl) rfl (okWide_bool_mk Tryz.underlying4 _))⟩

set_option maxRecDepth 100000 in
theorem laid_met (os : Os) : laidMetH Tryz.prog Rows.fnExactVisibleLinesRow.laid ((World.laidAll Tryz.prog os Rows.fnExactVisibleLinesRow.laid).forCall (fun _ _ => 0) ⟨#[], #[.agg #[.string ByteArray.empty, .slice none 0 0], .slice none 0 0, .agg #[.string ByteArray.empty, .int .i64 0, .int .i64 0], .int .i64 0], []⟩).memory := by
  rw [MakeChecks.laidMetH_plain _ _ _ (by kernel_rfl)]
  exact laidMet_laidAll _ (by kernel_rfl) (by kernel_rfl)
set_option maxRecDepth 100000 in
theorem reads (os : Os) {H : Type} (enc : TypeId × Value → H) : ∃ places, DataW.whole enc Tryz.prog ((World.laidAll Tryz.prog os Rows.fnExactVisibleLinesRow.laid).forCall (fun _ _ => 0) ⟨#[], #[.agg #[.string ByteArray.empty, .slice none 0 0], .slice none 0 0, .agg #[.string ByteArray.empty, .int .i64 0, .int .i64 0], .int .i64 0], []⟩).memory Tryz.f9.params.toList Rows.fnExactVisibleLinesSpec.vars false #[.agg #[.string ByteArray.empty, .slice none 0 0], .slice none 0 0, .agg #[.string ByteArray.empty, .int .i64 0, .int .i64 0], .int .i64 0].toList 8 = some ([.agg [.lit (.string []), .nil], .nil, .agg [.lit (.string []), .lit (.int .i64 0), .lit (.int .i64 0)], .lit (.int .i64 0)], [.agg (sinT.map fun z => .lit (.int .i64 z))], places) :=
  ⟨MemPlace.row ⟨0, 0, none⟩ 91, by kernel_rfl⟩

set_option maxRecDepth 100000 in
theorem lifted (os : Os) (started : os.Started) (H : Type) (enc : TypeId × Value → H) (F : Stop.Interp) :
    ReturnsInHanded {} Tryz.checked os 9 .any ((OpenSpec.ofChange Rows.fnExactVisibleLinesSpec).preRow enc Tryz.prog Tryz.f9 Rows.fnExactVisibleLinesRow.domain false Rows.fnExactVisibleLinesRow.laid) (((OpenSpec.ofChange Rows.fnExactVisibleLinesSpec).at F).post enc Tryz.prog Tryz.f9 false true false false) := by
  obtain ⟨places, hx⟩ := reads os enc
  refine returnsInHanded_of_row (C := Tryz.checked) (s := OpenSpec.ofChange Rows.fnExactVisibleLinesSpec) own started (by kernel_rfl) Tryz.func9
    (witness_row_at (enc := enc) (C := Tryz.checked) false (World.laidAll Tryz.prog os Rows.fnExactVisibleLinesRow.laid) #[.agg #[.string ByteArray.empty, .slice none 0 0], .slice none 0 0, .agg #[.string ByteArray.empty, .int .i64 0, .int .i64 0], .int .i64 0] (World.laidAll_os _ _ _) (by kernel_rfl) (by kernel_rfl) (by kernel_rfl)
      (OpenSpec.preRow_of_cond 8 hx (by kernel_rfl) (fun k hk => by cases hk) (by kernel_rfl) (laid_met os))) ?_
  intro W base args ds gs before hval hW _ _ _ hL hS _
  rw [MakeChecks.laidMetH_plain _ _ _ (by kernel_rfl)] at hL
  exact contract H enc W base args ds gs before hval hW (env_of hL hS)

theorem said : Rows.FnExactVisibleLinesSaid :=
  OpenClaim.holds_of_cond 9 Tryz.f9 rfl rfl rfl rfl rfl rfl rfl ⟨rfl, rfl, rfl, rfl, rfl⟩ rfl rfl rfl rfl rfl (by kernel_rfl) Tryz.func9 (by kernel_rfl)
    (of_decide_eq_true (by kernel_rfl)) (by unfold Func.isWrapper; first | (rw [if_pos (by decide +kernel)]; kernel_rfl) | (rw [if_neg (by decide +kernel)]; exact ⟨rfl, rfl⟩))
    (fun os started H enc _ F => by rw [OpenClaim.pre_eq_preRow]; exact lifted os started H enc F)

theorem plain (f : FuncId) (fn : Func) (hf : Tryz.pinned.checked.prog.funcNamed "loop.example/g00955/laws.FnExactVisibleLines" = some f) (hfn : Tryz.pinned.checked.prog.funcs[f]? = some fn) :
    false = Tryz.pinned.checked.prog.looks [] ∧ ∀ (j : Nat) t, fn.params[j]? = some t → Tryz.pinned.checked.prog.wantsStandIn t = false := by
  obtain rfl : f = 9 := Option.some.inj ((show Tryz.prog.funcNamed "loop.example/g00955/laws.FnExactVisibleLines" = some 9 by kernel_rfl).symm.trans hf) |>.symm
  obtain rfl : fn = Tryz.f9 := (Option.some.inj (Tryz.func9.symm.trans hfn)).symm
  refine ⟨by kernel_rfl, fun j t ht => ?_⟩
  rw [Tryz.params9] at ht
  have hm : t ∈ [32, 22, 52, 2] := by simpa using Array.mem_of_getElem? ht
  have hall : ([32, 22, 52, 2].all fun u => !Tryz.prog.wantsStandIn u) = true := by kernel_rfl
  exact (show Tryz.prog.wantsStandIn t = false by simpa using List.all_eq_true.1 hall t hm)

theorem card : Rows.FnExactVisibleLinesCardSaid :=
  Claim7.holds_tied_plain_at .later [] _ _ _ _ said (fun _ h => by cases h) (by kernel_rfl) (fun _ h => by cases h) fnExactVisibleLines_row_tie rfl ⟨rfl, rfl⟩ (by kernel_rfl) rfl plain (by kernel_rfl)
#print axioms card
end Go.Proofs.YtoellkbmhpekdaaGreatDoor.fnExactVisibleLines
