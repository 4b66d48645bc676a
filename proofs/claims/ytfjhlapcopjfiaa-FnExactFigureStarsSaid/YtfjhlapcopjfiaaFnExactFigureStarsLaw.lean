/-
  The law FnExactFigureStars: for every input the call returns true, and each argument reads afterwards as it read before. No condition.
-/
import Derived.Test.YtfjhlapcopjfiaaRows
import Derived.Test.YtfjhlapcopjfiaaPost0
import Derived.Test.YtfjhlapcopjfiaaFigSt
import Derived.Test.YtfjhlapcopjfiaaFigM
import Derived.Test.YtfjhlapcopjfiaaKeep
import Derived.WalkKit
import Derived.ProofKit
import Derived.OpenShut
import Derived.ChangeMaps5
import Derived.ChangeSlices
import Derived.Carry
import Derived.Lib.SmallJoins
namespace Go.Proofs.Ytfjhlapcopjfiaa.fnExactFigureStars
open Go.ChangeShapes Go.WideShapes Go.ChangeAt Go.RowKit Go.ChangeMaps
set_option linter.unusedVariables false

theorem own : ownKnob Try.prog.godebug = none := by kernel_rfl

def Env (_w : World) : Prop := True

set_option maxRecDepth 100000 in
set_option maxHeartbeats 8000000 in
theorem walk (w : World) (s0 : ByteArray) (u0 : Value) (a0 : List (List Int)) (w0 : s0.size ≤ maxLen) (x0 : LinesIn w u0 a0) (n0 : a0.length ≤ 9223372036854775807) (v1 : Value) (a1 : List StarV) (w1 : StarsIn w v1 a1) (n1 : a1.length ≤ 9223372036854775807) (henv : Env w) :
    Calls Try.prog 10 #[.agg #[.string s0, u0], v1] w fun e w' => e = .returned (.bool true) ∧ Below w.heap.size w w' := by
  have ZF := Lib.hid (fun w h => szFigure_any s0 u0 a0 1048576 (by omega) (by omega) w0 w h n0)
  have X0 := Lib.hid x0
  have Z := Lib.hid (fun l h0 h1 w h => szS_any l h0 h1 (w := w) (v := v1) (zs := a1) h n1)
  have I0 := Lib.hid w1
  have OK : Hid (∀ j, (h : j < a1.length) → a1[j].ok) := Lib.hid (by
    intro j hj
    rcases w1 with ⟨a, cap, _, rfl⟩ | ⟨b, off, cap, _, _, hc⟩
    · cases hj
    · exact (hc j hj).2)
  have FT : Hid (∀ j, (h : j < a0.length) → ∀ x ∈ a0[j], fits x) := Lib.hid (lines_fits x0)
  have W0 := Lib.hid w0
  clear x0 w0 w1
  go_enter Try.func10, Try.ntmps10
  go_wp2_with fail
  obtain ⟨wz, hwz⟩ : ∃ W, W = w.alloc (Obj.cells #[Value.string s0, u0] 52) := ⟨_, rfl⟩
  rw [← hwz]
  have hz0 : Below w.heap.size w wz := by rw [hwz]; exact (Below.refl _ _).alloc (Nat.le_refl _) _
  have QZ := Lib.hid (box_new w (.string s0) u0 52)
  rw [← hwz] at QZ
  have XZ := Lib.hid (X0.out.below hz0)
  have IZ := Lib.hid (I0.out.below hz0)
  have HZ := Lib.hid hz0
  have wsz : w.heap.size ≤ wz.heap.size := hz0.size
  clear hwz hz0 X0 I0
  refine (ZF.out _ XZ.out).mono ?_
  rintro e w1 ⟨z, rfl, hz0, hz1, hz2, hb1⟩
  have HQ1 := Lib.hid hb1
  by_cases hz : z < 0
  · clear hz2 hb1
    go_wp2_with fail
    go_ret
    exact ⟨rfl, HZ.out.trans (HQ1.out.mono wsz)⟩
  · obtain ⟨hl0, hl1⟩ := hz2 (by omega)
    clear hb1
    go_wp2_with fail
    refine (Z.out _ (by omega) (by omega) _ (IZ.out.below HQ1.out)).mono ?_
    rintro e w2 ⟨y, rfl, hy0, hy1, hy2, hb2⟩
    have HQ2 := Lib.hid (HQ1.out.trans (hb2.mono HQ1.out.size))
    by_cases hy : y < 0
    · clear hy2 hb2
      go_wp2_with fail
      go_ret
      exact ⟨rfl, HZ.out.trans (HQ2.out.mono wsz)⟩
    have hl := hy2 (by omega)
    clear hy2 hb2
    have TF := Lib.hid (fun w h => toFigure_any s0 u0 a0 w h hl0 hl1)
    have TX := Lib.hid (fun w h => toFigureX_any s0 u0 a0 w h hl0 hl1)
    have EF := Lib.hid (fun g g' bs bs' w h h' => eqFigure_any s0 g g' a0 bs bs' w (by omega) (fun j h => by have := hl1 j h; omega) h h')
    have MF := Lib.hid (fun g cap hi bs w h hg hh hw => markF_any s0 g cap hi a0 bs w hl0 hl1 h hg hh hw)
    have T := Lib.hid (fun w h => toS_any (w := w) (v := v1) (zs := a1) h hl)
    have EQ := Lib.hid (fun g g' cap cap' w h h' => eqS_full g g' cap cap' a1 w (by omega) h h')
    have F1 := Lib.hid (fun g bs g' w cap cap' h h' => specFigSt_any s0 g cap a0 bs g' cap' a1 w (by omega) (fun j h => by have := hl1 j h; omega) FT.out h (by omega) h')
    have F2 := Lib.hid (fun g bs g' w cap cap' h h' => implFigSt_any s0 W0.out g cap a0 bs g' cap' a1 w (by omega) (fun j h => by have := hl1 j h; omega) h (by omega) h' OK.out)
    have tot : totL a0 a0.length ≤ 1099511627776 := by
      have := totL_le a0 hl1 a0.length (Nat.le_refl _)
      omega
    have MS := Lib.hid (fun k0 h0 h1 g cap w h => markSt_from k0 h0 h1 g cap a1 w (by omega) h)
    generalize totL a0 a0.length = tt at *
    have hrl := figStV_len a1 s0 a0
    obtain ⟨L, c, hR⟩ : ∃ L c, figStV a1 s0 a0 = (L, c) := ⟨_, _, rfl⟩
    rw [hR] at F1 F2 hrl
    unfold StPost at F1 F2
    clear hR
    simp only at hrl F1 F2
    obtain ⟨_, q0, q1⟩ := box_keep QZ.out HQ2.out
    go_wp2_with fail
    refine (TF.out _ (XZ.out.below HQ2.out)).mono ?_
    rintro e w3 ⟨g1, bs1, rfl, hA, hb3⟩
    have HQ3 := Lib.hid (HQ2.out.trans (hb3.mono HQ2.out.size))
    have A3 := Lib.hid hA
    clear hb3 hA q0 q1
    go_wp2_with fail
    refine (T.out _ (IZ.out.below HQ3.out)).mono ?_
    rintro e w4 ⟨rfl, hR, hb4⟩
    have HQ4 := Lib.hid (HQ3.out.trans (hb4.mono HQ3.out.size))
    have A4 := Lib.hid (A3.out.below hb4)
    have R4 := Lib.hid hR
    clear hb4 hR
    go_wp2_with fail
    refine (F1.out _ _ _ _ _ _ A4.out R4.out).mono ?_
    rintro e w5 ⟨v, rfl, ho5, hb5⟩
    have HQ5 := Lib.hid (HQ4.out.trans (hb5.mono HQ4.out.size))
    have O5 := Lib.hid ho5
    clear hb5 ho5 A3 A4 R4
    obtain ⟨_, q0, q1⟩ := box_keep QZ.out HQ5.out
    go_wp2_with fail
    refine (TX.out _ (XZ.out.below HQ5.out)).mono ?_
    rintro e w6 ⟨g2, bs2, rfl, hA, hb6, hlo, hup⟩
    have HQ6 := Lib.hid (HQ5.out.trans (hb6.mono HQ5.out.size))
    have HC6 := Lib.hid hb6
    have A6 := Lib.hid hA
    have UP := Lib.hid hup
    have LO := Lib.hid hlo
    have HI : Hid (∀ k, k < a0.length → bs2 k < w6.heap.size) := Lib.hid (fun k hk => World.rowIs.lt (hA.each k hk))
    clear hb6 hA hup q0 q1
    go_wp2_with fail
    obtain ⟨w7, hw7⟩ : ∃ W, W = w6.alloc (Obj.cells #[Value.string s0, Value.slice (some { block := g2, off := 0 }) a0.length a0.length] 55) := ⟨_, rfl⟩
    rw [← hw7]
    have hb7 : Below w6.heap.size w6 w7 := by rw [hw7]; exact (Below.refl _ _).alloc (Nat.le_refl _) _
    have QY7 := Lib.hid (box_new w6 (.string s0) (.slice (some ⟨g2, 0, none⟩) a0.length a0.length) 55)
    rw [← hw7] at QY7
    clear hw7
    have A7 := Lib.hid (A6.out.below hb7)
    have HQ7 := Lib.hid (HQ6.out.trans (hb7.mono HQ6.out.size))
    have HC7 := Lib.hid (HC6.out.trans (hb7.mono HC6.out.size))
    have hs7 := hb7.size
    clear hb7 A6
    refine (T.out _ (IZ.out.below HQ7.out)).mono ?_
    rintro e w8 ⟨rfl, hR, hb8⟩
    have A8 := Lib.hid (A7.out.below hb8)
    have QY8 := Lib.hid (box_keep QY7.out hb8)
    have HQ8 := Lib.hid (HQ7.out.trans (hb8.mono HQ7.out.size))
    have HC8 := Lib.hid (HC7.out.trans (hb8.mono HC7.out.size))
    have R8 := Lib.hid hR
    have hg8 : w7.heap.size < w8.heap.size := hR.lt
    clear hb8 hR A7
    obtain ⟨_, p0, p1⟩ := QY8.out
    go_wp2_with fail
    refine (F2.out _ _ _ _ _ _ A8.out R8.out).mono ?_
    rintro e w9 ⟨u, rfl, ho9, hb9⟩
    have A9 := Lib.hid (A8.out.below hb9)
    have R9 := Lib.hid (R8.out.below hb9)
    have QY9 := Lib.hid (box_keep QY8.out hb9)
    have HQ9 := Lib.hid (HQ8.out.trans (hb9.mono HQ8.out.size))
    have HC9 := Lib.hid (HC8.out.trans (hb9.mono HC8.out.size))
    have O9 := Lib.hid ho9
    have hs9 := hb9.size
    clear hb9 ho9 p0 p1 A8 R8 QY7
    go_wp2_with fail
    refine (eqI_same hrl O9.out (ownsRow_belowN O5.out HC9.out)).mono ?_
    rintro e w10 ⟨rfl, n1, rfl⟩
    have HQ10 := Lib.hid (bel_d2 HQ9.out n1)
    have HC10 := Lib.hid (bel_d2 HC9.out n1)
    have R10 : Hid (Row (w9.drewN n1) w7.heap.size a1) := Lib.hid R9.out
    have A10 : Hid (LRow (w9.drewN n1) g2 a0 bs2) := Lib.hid ⟨A9.out.row, A9.out.each⟩
    have O10 := Lib.hid (owns_drewN O9.out n1)
    have QY10 : Hid (w6.heap.size < (w9.drewN n1).heap.size ∧ (w9.drewN n1).cell? ⟨w6.heap.size, 0, none⟩ = some (.string s0) ∧ (w9.drewN n1).cell? ⟨w6.heap.size, 1, none⟩ = some (.slice (some ⟨g2, 0, none⟩) a0.length a0.length)) := Lib.hid QY9.out
    have hs10 : w9.heap.size ≤ (w9.drewN n1).heap.size := Nat.le_refl _
    clear A9 R9 O9 QY9 QY8
    generalize w9.drewN n1 = w10 at *
    obtain ⟨_, q0, q1⟩ := box_keep QZ.out HQ10.out
    obtain ⟨_, p0, p1⟩ := QY10.out
    have KB : Hid (w10.cell? ⟨w.heap.size, 0, none⟩ = some (.string s0) ∧ w10.cell? ⟨w.heap.size, 1, none⟩ = some u0 ∧ w10.cell? ⟨w6.heap.size, 0, none⟩ = some (.string s0) ∧ w10.cell? ⟨w6.heap.size, 1, none⟩ = some (.slice (some ⟨g2, 0, none⟩) a0.length a0.length) ∧ Below wz.heap.size wz w10) := Lib.hid ⟨q0, q1, p0, p1, HQ10.out⟩
    clear q0 q1 p0 p1
    go_wp2_with fail
    go_region_held3 (fun W => W.cell? ⟨w.heap.size, 0, none⟩ = some (.string s0) ∧ W.cell? ⟨w.heap.size, 1, none⟩ = some u0 ∧ W.cell? ⟨w6.heap.size, 0, none⟩ = some (.string s0) ∧ W.cell? ⟨w6.heap.size, 1, none⟩ = some (.slice (some ⟨g2, 0, none⟩) a0.length a0.length) ∧ Below wz.heap.size wz W) (first | (exact keepW4 KB.out (drewG w10)) | (exact keepW4 KB.out z2) | (exact keepW4 KB.out z1) | go_keep) ((first
      | (go_at_call 37; refine (TF.out _ (XZ.out.below (HQ10.out.trans ((drewG w10).mono HQ10.out.size)))).mono ?_; rintro e u1 ⟨g3, bs3, rfl, hC, hu1⟩; have z1 := undrewG hu1)
      | (go_at_call 39; refine (EF.out _ _ _ _ _ (A10.out.below z1) hC).mono ?_; rintro e u2 ⟨rfl, hu2⟩; have z2 := z1.trans (hu2.mono z1.size))))
    rename_i w12 held
    have HQ12 := Lib.hid held.2.2.2.2
    have HC12 := Lib.hid (HC10.out.trans (z2.mono HC10.out.size))
    have R12 := Lib.hid (R10.out.below z2)
    have A12 := Lib.hid (A10.out.below z2)
    have O12 := Lib.hid (ownsRow_belowN O10.out z2)
    have QY12 := Lib.hid (box_keep QY10.out z2)
    have hs12 := z2.size
    clear held KB A10 R10 O10
    go_wp2_with fail
    refine (T.out _ (IZ.out.below HQ12.out)).mono ?_
    rintro e w13 ⟨rfl, hC, hb13⟩
    have HQ13 := Lib.hid (HQ12.out.trans (hb13.mono HQ12.out.size))
    have HC13 := Lib.hid (HC12.out.trans (hb13.mono HC12.out.size))
    have R13 := Lib.hid (R12.out.below hb13)
    have A13 := Lib.hid (A12.out.below hb13)
    have O13 := Lib.hid (ownsRow_belowN O12.out hb13)
    have QY13 := Lib.hid (box_keep QY12.out hb13)
    have C13 := Lib.hid hC
    have hs13 := hb13.size
    clear hb13 hC A12 R12 O12
    go_wp2_with fail
    refine (EQ.out _ _ _ _ _ R13.out C13.out).mono ?_
    rintro e w14 ⟨rfl, hb14⟩
    have HQ14 := Lib.hid (HQ13.out.trans (hb14.mono HQ13.out.size))
    have HC14 := Lib.hid (HC13.out.trans (hb14.mono HC13.out.size))
    have R14 := Lib.hid (R13.out.below hb14)
    have A14 := Lib.hid (A13.out.below hb14)
    have O14 := Lib.hid (ownsRow_belowN O13.out hb14)
    have QY14 := Lib.hid (box_keep QY13.out hb14)
    have hs14 := hb14.size
    clear hb14 A13 R13 O13 C13
    obtain ⟨_, p0, p1⟩ := QY14.out
    go_wp2_with fail
    refine (MF.out g2 _ w6.heap.size bs2 _ A14.out UP.out HI.out (by omega)).mono ?_
    rintro e w15 ⟨rfl, hsp⟩
    have hz5 := HQ5.out.size
    have hlo5 := LO.out
    have hz14 := HQ14.out.size
    have hc14 := HC14.out.size
    have HQ15 := Lib.hid (HQ14.out.trans (hsp.below (B := wz.heap.size) (by omega) (by omega)))
    have HC15 := Lib.hid (HC14.out.trans (hsp.below (B := w5.heap.size) (by omega) (by omega)))
    have R15 := Lib.hid (hsp.row R14.out (Or.inr hs7))
    have O15 := Lib.hid (hsp.owns O14.out (by omega))
    have hs15 := hsp.size
    clear hsp A14 R14 O14 p0 p1
    obtain ⟨kk, hkk⟩ : ∃ kk : Nat, (kk : Int) = 1 + (tt : Int) := ⟨1 + tt, by omega⟩
    have hk1 : 1 ≤ kk := by omega
    have hk2 : kk ≤ 1099511627777 := by omega
    rw [← hkk]
    clear hkk
    go_wp2_with fail
    refine (MS.out kk hk1 (by omega) _ _ _ R15.out).mono ?_
    rintro e w16 ⟨rfl, hg16⟩
    have HQ16 := Lib.hid (HQ15.out.trans (gb_below hg16 (by have := HQ7.out.size; omega) (by have := HQ15.out.size; omega)))
    have HC16 := Lib.hid (HC15.out.trans (gb_below hg16 (by have := HC6.out.size; omega) (by have := HC15.out.size; omega)))
    have O16 := Lib.hid (O15.out.kept hg16 (owns_far O15.out hg8))
    have hs16 := hg16.size
    clear hg16 R15 O15
    go_wp2_with fail
    refine (eqI_same hrl O16.out (ownsRow_belowN O5.out HC16.out)).mono ?_
    rintro e w17 ⟨rfl, n2, rfl⟩
    have HQ17 := Lib.hid (bel_d2 HQ16.out n2)
    have HC17 := Lib.hid (bel_d2 HC16.out n2)
    have O17 := Lib.hid (owns_drewN O16.out n2)
    have hs17 : w16.heap.size ≤ (w16.drewN n2).heap.size := Nat.le_refl _
    clear O16
    generalize w16.drewN n2 = w17 at *
    go_wp2_with fail
    refine (markI_any 1 hrl (by omega) (by omega) O17.out).mono ?_
    rintro e w18 ⟨rfl, ho18, hb18⟩
    have HQ18 := Lib.hid (HQ17.out.trans (hb18.mono (by have := HQ8.out.size; omega)))
    have HC18 := Lib.hid (HC17.out.trans (hb18.mono (by have := HC8.out.size; omega)))
    have O18 := Lib.hid ho18
    clear hb18 ho18 O17
    go_wp2_with fail
    refine (heldI_any 1 hrl (by omega) (by omega) O18.out).mono ?_
    rintro e w19 ⟨rfl, rfl⟩
    obtain ⟨_, q0, q1⟩ := box_keep QZ.out HQ18.out
    go_wp2_with fail
    refine (TF.out _ (XZ.out.below HQ18.out)).mono ?_
    rintro e w20 ⟨g4, bs4, rfl, hA, hb20⟩
    have HQ20 := Lib.hid (HQ18.out.trans (hb20.mono HQ18.out.size))
    have HC20 := Lib.hid (HC18.out.trans (hb20.mono HC18.out.size))
    have O20 := Lib.hid (ownsRow_belowN O18.out hb20)
    have A20 := Lib.hid hA
    clear hb20 hA q0 q1 O18
    go_wp2_with fail
    refine (T.out _ (IZ.out.below HQ20.out)).mono ?_
    rintro e w21 ⟨rfl, hR, hb21⟩
    have HQ21 := Lib.hid (HQ20.out.trans (hb21.mono HQ20.out.size))
    have HC21 := Lib.hid (HC20.out.trans (hb21.mono HC20.out.size))
    have O21 := Lib.hid (ownsRow_belowN O20.out hb21)
    have A21 := Lib.hid (A20.out.below hb21)
    have R21 := Lib.hid hR
    clear hb21 hR O20 A20
    go_wp2_with fail
    refine (F2.out _ _ _ _ _ _ A21.out R21.out).mono ?_
    rintro e w22 ⟨u2, rfl, ho22, hb22⟩
    have HQ22 := Lib.hid (HQ21.out.trans (hb22.mono HQ21.out.size))
    have HC22 := Lib.hid (HC21.out.trans (hb22.mono HC21.out.size))
    have O22 := Lib.hid (ownsRow_belowN O21.out hb22)
    have P22 := Lib.hid ho22
    clear hb22 ho22 O21 A21 R21
    go_wp2_with fail
    refine (eqI_same hrl P22.out (ownsRow_belowN O5.out HC22.out)).mono ?_
    rintro e w23 ⟨rfl, n3, rfl⟩
    have HQ23 := Lib.hid (bel_d2 HQ22.out n3)
    have O23 := Lib.hid (owns_drewN O22.out n3)
    clear O22 P22
    generalize w22.drewN n3 = w23 at *
    go_wp2_with fail
    refine (heldI_any 1 hrl (by omega) (by omega) O23.out).mono ?_
    rintro e w24 ⟨rfl, rfl⟩
    go_wp2_with fail
    go_ret
    exact ⟨rfl, HZ.out.trans (HQ23.out.mono wsz)⟩

set_option maxRecDepth 100000 in
set_option maxHeartbeats 2000000 in
theorem contract (H : Type) (enc : TypeId × Value → H) (W : World) (base : Nat) (args : Array Value) (ds gs : List (DataW H)) (before : List MemPlace)
    (hval : ∀ (j : Nat) t v, Try.f10.params[j]? = some t → args[j]? = some v → Value.okWide Try.prog W .any base t v)
    (hW : DataW.Whole enc Try.prog Try.f10.params.toList Rows.fnExactFigureStarsSpec.vars false W args.toList ds gs before) (henv : Env W) :
    Calls Try.prog 10 args W fun e W' => ∃ v, e = .returned v ∧ Rows.fnExactFigureStarsSpec.post enc Try.prog Try.f10 false true false false W args v W' := by
  have hW' := hW
  obtain ⟨p, q, hA0, hV, rfl, hfz, hnd⟩ := hW
  have hA : DataW.TrodAll enc Try.prog W 0 (fun _ => true) true Try.f10.params.toList args.toList ds p := hA0
  rw [Try.params10] at hA hval
  obtain ⟨v0, vs0, d0, ds0, p0, q0, hargs0, rfl, rfl, h0, r0⟩ := trodAll_cons hA
  obtain ⟨v1, vs1, d1, ds1, p1, q1, hargs1, rfl, rfl, h1, r1⟩ := trodAll_cons r0
  obtain ⟨rfl, rfl, rfl⟩ := trodAll_nil r1
  obtain rfl : args = #[v0, v1] := by cases args; simp_all
  obtain ⟨rfl, rfl⟩ := trodVars_none hV
  have h0k := h0
  obtain ⟨s0, u0, a0, rfl, w0, x0, n0⟩ := figure_open (hval 0 52 v0 rfl rfl) h0
  have h1k := h1
  obtain ⟨sa1, sn1, sc1, rfl⟩ := okWide_slice Try.underlying29 (hval 1 29 v1 rfl rfl)
  obtain ⟨a1, w1, n1⟩ := stars_open h1
  clear hA0
  have hltp : ∀ x ∈ p0 ++ (p1 ++ []) ++ [], x.block < W.heap.size := fun x hx => hW'.lt x hx
  refine (walk W s0 u0 a0 w0 x0 n0 _ a1 w1 n1 henv).mono fun e W' ⟨he, hg⟩ => ?_
  subst he
  exact ⟨_, rfl, post_of_below (pa := p0 ++ (p1 ++ [])) (pv := []) hW' (fun _ _ _ => (trodAll_cons_mk (shut_bool Try.underlying4 _) trodAll_mk0)) (fun sp hsp => (trodAll_cons_mk (WideElems.Trod_stays (by kernel_rfl) (by kernel_rfl) (of_decide_eq_true (by kernel_rfl)) h0k (fun x hx => hg.same (hltp x (by simp [hx]))) (fun x hx => hsp x (by simp [hx]))) (trodAll_cons_mk (WideElems.Trod_stays (by kernel_rfl) (by kernel_rfl) (of_decide_eq_true (by kernel_rfl)) h1k (fun x hx => hg.same (hltp x (by simp [hx]))) (fun x hx => hsp x (by simp [hx]))) trodAll_mk0))) (fun _ _ => rfl) rfl
    hg (ok_one (by kernel_rfl) rfl (okWide_bool_mk Try.underlying4 _))⟩

set_option maxRecDepth 100000 in
theorem lifted (os : Os) (started : os.Started) (H : Type) (enc : TypeId × Value → H) :
    ReturnsInHanded {} Try.checked os 10 .any (Rows.fnExactFigureStarsSpec.pre6 enc Try.prog Try.f10 Rows.fnExactFigureStarsRow.domain false) (Rows.fnExactFigureStarsSpec.post enc Try.prog Try.f10 false true false false) := by
  refine returnsInHanded_of_change (C := Try.checked) own started (by kernel_rfl) Try.func10
    (ChangeSpec.witness6 (enc := enc) (C := Try.checked) false ⟨#[], #[.agg #[.string ByteArray.empty, .slice none 0 0], .slice none 0 0], []⟩ 8 (by kernel_rfl) (by kernel_rfl) (by kernel_rfl) (by kernel_rfl)) ?_
  intro W base args ds gs before hval hW _ _
  exact contract H enc W base args ds gs before hval hW trivial

theorem over : Rows.fnExactFigureStarsRow.holds Try.pinned (OpenSpec.ofChange Rows.fnExactFigureStarsSpec) :=
  OpenClaim.holds_of_wide 10 Try.f10 rfl rfl rfl rfl rfl rfl rfl ⟨rfl, rfl, rfl, rfl, rfl⟩ rfl rfl rfl rfl rfl (by kernel_rfl) Try.func10 (by kernel_rfl)
    (of_decide_eq_true (by kernel_rfl)) (by unfold Func.isWrapper; first | (rw [if_pos (by decide +kernel)]; kernel_rfl) | (rw [if_neg (by decide +kernel)]; exact ⟨rfl, rfl⟩))
    (fun os started H enc _ => lifted os started H enc)

theorem proved : Rows.FnExactFigureStarsSaid :=
  over
#print axioms proved
end Go.Proofs.Ytfjhlapcopjfiaa.fnExactFigureStars
