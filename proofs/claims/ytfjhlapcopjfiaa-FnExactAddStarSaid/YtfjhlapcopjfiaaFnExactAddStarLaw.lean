/-
  The law FnExactAddStar: for every input the call returns true, and each argument reads afterwards as it read before. No condition.
-/
import Derived.Test.YtfjhlapcopjfiaaRows
import Derived.Test.YtfjhlapcopjfiaaPost0
import Derived.Test.YtfjhlapcopjfiaaAddJ
import Derived.Test.YtfjhlapcopjfiaaKeep
import Derived.WalkKit
import Derived.ProofKit
import Derived.OpenShut
import Derived.ChangeMaps5
import Derived.ChangeSlices
import Derived.Carry
import Derived.Lib.SmallJoins
namespace Go.Proofs.Ytfjhlapcopjfiaa.fnExactAddStar
open Go.ChangeShapes Go.WideShapes Go.ChangeAt Go.RowKit Go.ChangeMaps
set_option linter.unusedVariables false

theorem own : ownKnob Try.prog.godebug = none := by kernel_rfl

def Env (_w : World) : Prop := True

set_option maxRecDepth 100000 in
set_option maxHeartbeats 8000000 in
theorem walk (w : World) (v0 : Value) (a0 : List StarV) (w0 : StarsIn w v0 a0) (n0 : a0.length ≤ 9223372036854775807) (s1 : ByteArray) (a1 b1 c1 d1 : Int) (w1 : StarOk s1 a1 b1 c1 d1) (henv : Env w) :
    Calls Try.prog 13 #[v0, .agg #[.string s1, .int .i64 a1, .int .i64 b1, .int .i64 c1, .int .i64 d1]] w fun e w' => e = .returned (.bool true) ∧ Below w.heap.size w w' := by
  have Z := Lib.hid (fun w h => szS_any 1048576 (by omega) (by omega) (w := w) (v := v0) (zs := a0) h n0)
  have I0 := Lib.hid w0
  have OK : Hid (∀ j, (h : j < a0.length) → a0[j].ok) := Lib.hid (by
    intro j hj
    rcases w0 with ⟨a, cap, _, rfl⟩ | ⟨b, off, cap, _, _, hc⟩
    · cases hj
    · exact (hc j hj).2)
  clear w0 n0
  have hm1 : s1.size ≤ maxLen := w1.1
  have okk : StarOk s1 a1 b1 c1 d1 := w1
  clear w1
  go_enter Try.func13, Try.ntmps13
  go_wp2_with fail
  obtain ⟨wz, hwz⟩ : ∃ W, W = w.alloc (.cells #[.string s1, .int .i64 a1, .int .i64 b1, .int .i64 c1, .int .i64 d1] 23) := ⟨_, rfl⟩
  rw [← hwz]
  have hz00 : Below w.heap.size w wz := by rw [hwz]; exact (Below.refl _ _).alloc (Nat.le_refl _) _
  have qz : StarAt wz w.heap.size 0 ⟨s1, a1, b1, c1, d1⟩ := by rw [hwz]; exact ⟨by simp, by simp, by simp, by simp, by simp⟩
  have QK : Hid (∀ W, Below wz.heap.size wz W → W.cell? ⟨w.heap.size, 0, none⟩ = some (.string s1) ∧ W.cell? ⟨w.heap.size, 1, none⟩ = some (.int .i64 a1) ∧ W.cell? ⟨w.heap.size, 2, none⟩ = some (.int .i64 b1) ∧ W.cell? ⟨w.heap.size, 3, none⟩ = some (.int .i64 c1) ∧ W.cell? ⟨w.heap.size, 4, none⟩ = some (.int .i64 d1)) := Lib.hid (fun W h => by
    have q := qz.below h
    exact ⟨q.c0, q.c1, q.c2, q.c3, q.c4⟩)
  have IZ := Lib.hid (I0.out.below hz00)
  have HZ := Lib.hid hz00
  have wsz : w.heap.size ≤ wz.heap.size := hz00.size
  clear hwz hz00 qz I0
  refine (Z.out _ IZ.out).mono ?_
  rintro e w1 ⟨z, rfl, hz0, hz1, hz2, hb1⟩
  have HB1 := Lib.hid hb1
  by_cases hz : z < 0
  · clear hz2 hb1
    go_wp2_with fail
    go_ret
    exact ⟨rfl, HZ.out.trans (HB1.out.mono wsz)⟩
  have ZS := Lib.hid (fun w => szStar_any s1 a1 b1 c1 d1 z (by omega) (by omega) hm1 w)
  obtain ⟨k0, k1, k2, k3, k4⟩ := QK.out _ HB1.out
  go_wp2_with fail
  refine (ZS.out _).mono ?_
  rintro e w1b ⟨rfl, hb1b⟩
  have HB1b := Lib.hid (HB1.out.trans (hb1b.mono HB1.out.size))
  clear k0 k1 k2 k3 k4
  by_cases hzz : szN s1 z < 0
  · clear hz2 hb1 hb1b
    generalize szN s1 z = zz at *
    go_wp2_with fail
    go_ret
    exact ⟨rfl, HZ.out.trans (HB1b.out.mono wsz)⟩
  · generalize szN s1 z = zz at *
    clear hb1b
    have hl := hz2 (by omega)
    clear hb1 hz2
    have T := Lib.hid (fun w h => toS_any (w := w) (v := v0) (zs := a0) h hl)
    have F1 := Lib.hid (fun g w h => specAdd_any g a0 s1 a1 b1 c1 d1 w (by omega) h)
    have F2 := Lib.hid (fun g w h => implAdd_any g a0 s1 a1 b1 c1 d1 w (by omega) h OK.out hm1)
    have EQ := Lib.hid (fun g g' cap cap' w h h' => eqS_full g g' cap cap' a0 w (by omega) h h')
    have MK := Lib.hid (fun g cap w h => markSt_full g cap a0 w (by omega) h)
    have TS := Lib.hid (fun w => toStar_any s1 a1 b1 c1 d1 w)
    have hrl : (addV a0 ⟨s1, a1, b1, c1, d1⟩).1.length ≤ 1048576 := by
      unfold addV
      split
      · rename_i h
        have := okL_lenD (zs := a0) (by simp only [Bool.and_eq_true] at h; exact h.1)
        split
        · exact Nat.zero_le _
        · split
          · exact Nat.zero_le _
          · show (a0.take _ ++ [_] ++ a0.drop _).length ≤ _
            rw [List.length_append, List.length_append, List.length_take, List.length_drop]
            simp only [List.length_cons, List.length_nil]
            omega
      · exact Nat.zero_le _
    obtain ⟨L, c, hR⟩ : ∃ L c, addV a0 ⟨s1, a1, b1, c1, d1⟩ = (L, c) := ⟨_, _, rfl⟩
    rw [hR] at F1 F2 hrl
    unfold SPost at F1 F2
    clear hR
    simp only at hrl F1 F2
    obtain ⟨k0, k1, k2, k3, k4⟩ := QK.out _ HB1b.out
    have Kw1b : Hid (w1b.cell? ⟨w.heap.size, 0, none⟩ = some (.string s1) ∧ w1b.cell? ⟨w.heap.size, 1, none⟩ = some (.int .i64 a1) ∧ w1b.cell? ⟨w.heap.size, 2, none⟩ = some (.int .i64 b1) ∧ w1b.cell? ⟨w.heap.size, 3, none⟩ = some (.int .i64 c1) ∧ w1b.cell? ⟨w.heap.size, 4, none⟩ = some (.int .i64 d1) ∧ Below wz.heap.size wz w1b) := Lib.hid ⟨k0, k1, k2, k3, k4, HB1b.out⟩
    clear k0 k1 k2 k3 k4
    go_wp2_with fail
    go_region_held3 (fun W => W.cell? ⟨w.heap.size, 0, none⟩ = some (.string s1) ∧ W.cell? ⟨w.heap.size, 1, none⟩ = some (.int .i64 a1) ∧ W.cell? ⟨w.heap.size, 2, none⟩ = some (.int .i64 b1) ∧ W.cell? ⟨w.heap.size, 3, none⟩ = some (.int .i64 c1) ∧ W.cell? ⟨w.heap.size, 4, none⟩ = some (.int .i64 d1) ∧ Below wz.heap.size wz W) (first | (exact keepW5 Kw1b.out (drewG w1b)) | (exact keepW5 Kw1b.out z3) | (exact keepW5 Kw1b.out z2) | (exact keepW5 Kw1b.out z1) | go_keep) ((first
      | (go_at_call 20; (with_reducible refine (T.out _ (IZ.out.below (HB1b.out.trans ((drewG w1b).mono HB1b.out.size)))).mono ?_); rintro e u1 ⟨rfl, hR1q, hu1⟩; have hR1 : Row u1 w1b.heap.size a0 := hR1q; clear hR1q; have z1 := undrewG hu1)
      | (go_at_call 16; (with_reducible refine (TS.out _).mono ?_); rintro e u2 ⟨rfl, hu2⟩; have z2 := z1.trans (hu2.mono z1.size))
      | (go_at_call 52; (with_reducible refine (F1.out _ _ (hR1.below hu2)).mono ?_); rintro e u3 ⟨v, rfl, ho3, hu3⟩; have z3 := z2.trans (hu3.mono z2.size))))
    rename_i held
    have HB3 := Lib.hid held.2.2.2.2.2
    have O3 := Lib.hid ho3
    clear held z1 z2 z3 hu1 hu2 hu3 hR1 ho3 Kw1b
    go_wp2_with fail
    refine (T.out _ (IZ.out.below HB3.out)).mono ?_
    rintro e w4 ⟨rfl, hR4, hb4⟩
    have HB4 := Lib.hid (HB3.out.trans (hb4.mono HB3.out.size))
    have HC4 := Lib.hid hb4
    have R4 := Lib.hid hR4
    have hg4 : u3.heap.size < w4.heap.size := hR4.lt
    clear hb4 hR4
    obtain ⟨k0, k1, k2, k3, k4⟩ := QK.out _ HB4.out
    go_wp2_with fail
    refine (TS.out _).mono ?_
    rintro e w4s ⟨rfl, hb4s⟩
    have HB4s := Lib.hid (HB4.out.trans (hb4s.mono HB4.out.size))
    have HC4s := Lib.hid (HC4.out.trans (hb4s.mono HC4.out.size))
    have R4s := Lib.hid (R4.out.below hb4s)
    have hs4s := hb4s.size
    clear hb4s k0 k1 k2 k3 k4
    go_wp2_with fail
    refine (F2.out _ _ R4s.out).mono ?_
    rintro e w5 ⟨u, rfl, ho5, hb5⟩
    have HB5 := Lib.hid (HB4s.out.trans (hb5.mono HB4s.out.size))
    have HC5 := Lib.hid (HC4s.out.trans (hb5.mono HC4s.out.size))
    have R5 := Lib.hid (R4s.out.below hb5)
    have O5 := Lib.hid ho5
    have hs5 := hb5.size
    clear hb5 ho5
    go_wp2_with fail
    refine (eqSO_any hrl O5.out (O3.out.keep HC5.out)).mono ?_
    rintro e w6 ⟨rfl, hb6⟩
    have HB6 := Lib.hid (HB5.out.trans (hb6.mono HB5.out.size))
    have HC6 := Lib.hid (HC5.out.trans (hb6.mono HC5.out.size))
    have R6 := Lib.hid (R5.out.below hb6)
    have O6 := Lib.hid (O5.out.keep hb6)
    have hs6 := hb6.size
    clear hb6
    go_wp2_with fail
    refine (T.out _ (IZ.out.below HB6.out)).mono ?_
    rintro e w7 ⟨rfl, hR7, hb7⟩
    have HB7 := Lib.hid (HB6.out.trans (hb7.mono HB6.out.size))
    have HC7 := Lib.hid (HC6.out.trans (hb7.mono HC6.out.size))
    have R7 := Lib.hid (R6.out.below hb7)
    have R7' := Lib.hid hR7
    have O7 := Lib.hid (O6.out.keep hb7)
    have hs7 := hb7.size
    clear hb7 hR7
    go_wp2_with fail
    refine (EQ.out _ _ _ _ _ R7.out R7'.out).mono ?_
    rintro e w8 ⟨rfl, hb8⟩
    have HB8 := Lib.hid (HB7.out.trans (hb8.mono HB7.out.size))
    have HC8 := Lib.hid (HC7.out.trans (hb8.mono HC7.out.size))
    have R8 := Lib.hid (R7.out.below hb8)
    have O8 := Lib.hid (O7.out.keep hb8)
    have hs8 := hb8.size
    clear hb8
    go_wp2_with fail
    refine (MK.out _ _ _ R8.out).mono ?_
    rintro e w9 ⟨rfl, hg9⟩
    have HC9 := Lib.hid (HC8.out.trans (gb_below hg9 (Nat.le_refl _) (by omega)))
    have HB9 := Lib.hid (HB8.out.trans (gb_below hg9 HB3.out.size (by have := HB3.out.size; omega)))
    have O9 := Lib.hid (O8.out.gb hg9 (by omega))
    have hs9 := hg9.size
    clear hg9
    go_wp2_with fail
    refine (eqSO_any hrl O9.out (O3.out.keep HC9.out)).mono ?_
    rintro e w10 ⟨rfl, hb10⟩
    have HB10 := Lib.hid (HB9.out.trans (hb10.mono HB9.out.size))
    have HC10 := Lib.hid (HC9.out.trans (hb10.mono HC9.out.size))
    have O10 := Lib.hid (O9.out.keep hb10)
    have hs10 := hb10.size
    clear hb10
    go_wp2_with fail
    refine (markSO_any 1 (by omega) (by omega) (by omega) (by omega) O10.out).mono ?_
    rintro e w11 ⟨rfl, ho11, hb11⟩
    have HB11 := Lib.hid (HB10.out.trans (hb11.mono HB4s.out.size))
    have HC11 := Lib.hid (HC10.out.trans (hb11.mono (by omega)))
    have O11 := Lib.hid ho11
    have hs11 := hb11.size
    clear hb11 ho11
    go_wp2_with fail
    refine (heldSO_any 1 (by omega) (by omega) (by omega) O11.out).mono ?_
    rintro e w12 ⟨rfl, hb12⟩
    have HB12 := Lib.hid (HB11.out.trans (hb12.mono HB11.out.size))
    have HC12 := Lib.hid (HC11.out.trans (hb12.mono HC11.out.size))
    have O12 := Lib.hid (O11.out.keep hb12)
    clear hb12
    obtain ⟨k0, k1, k2, k3, k4⟩ := QK.out _ HB12.out
    have Kw12 : Hid (w12.cell? ⟨w.heap.size, 0, none⟩ = some (.string s1) ∧ w12.cell? ⟨w.heap.size, 1, none⟩ = some (.int .i64 a1) ∧ w12.cell? ⟨w.heap.size, 2, none⟩ = some (.int .i64 b1) ∧ w12.cell? ⟨w.heap.size, 3, none⟩ = some (.int .i64 c1) ∧ w12.cell? ⟨w.heap.size, 4, none⟩ = some (.int .i64 d1) ∧ Below wz.heap.size wz w12) := Lib.hid ⟨k0, k1, k2, k3, k4, HB12.out⟩
    clear k0 k1 k2 k3 k4
    go_wp2_with fail
    go_region_held3 (fun W => W.cell? ⟨w.heap.size, 0, none⟩ = some (.string s1) ∧ W.cell? ⟨w.heap.size, 1, none⟩ = some (.int .i64 a1) ∧ W.cell? ⟨w.heap.size, 2, none⟩ = some (.int .i64 b1) ∧ W.cell? ⟨w.heap.size, 3, none⟩ = some (.int .i64 c1) ∧ W.cell? ⟨w.heap.size, 4, none⟩ = some (.int .i64 d1) ∧ Below wz.heap.size wz W) (first | (exact keepW5 Kw12.out (drewG w12)) | (exact keepW5 Kw12.out z3) | (exact keepW5 Kw12.out z2) | (exact keepW5 Kw12.out z1) | go_keep) ((first
      | (go_at_call 20; (with_reducible refine (T.out _ (IZ.out.below (HB12.out.trans ((drewG w12).mono HB12.out.size)))).mono ?_); rintro e u1 ⟨rfl, hR1q, hu1⟩; have hR1 : Row u1 w12.heap.size a0 := hR1q; clear hR1q; have z1 := undrewG hu1)
      | (go_at_call 16; (with_reducible refine (TS.out _).mono ?_); rintro e u2 ⟨rfl, hu2⟩; have z2 := z1.trans (hu2.mono z1.size))
      | (go_at_call 53; (with_reducible refine (F2.out _ _ (hR1.below hu2)).mono ?_); rintro e u3 ⟨uu, rfl, ho14, hu3⟩; have z3 := z2.trans (hu3.mono z2.size))))
    rename_i held
    have HB14 := Lib.hid held.2.2.2.2.2
    have HC14 := Lib.hid (HC12.out.trans (z3.mono HC12.out.size))
    have O14 := Lib.hid (O12.out.keep z3)
    have P14 := Lib.hid ho14
    clear held z1 z2 z3 hu1 hu2 hu3 hR1 ho14 Kw12
    go_wp2_with fail
    refine (eqSO_any hrl P14.out (O3.out.keep HC14.out)).mono ?_
    rintro e w15 ⟨rfl, hb15⟩
    have HB15 := Lib.hid (HB14.out.trans (hb15.mono HB14.out.size))
    have O15 := Lib.hid (O14.out.keep hb15)
    clear hb15
    go_wp2_with fail
    refine (heldSO_any 1 (by omega) (by omega) (by omega) O15.out).mono ?_
    rintro e w16 ⟨rfl, hb16⟩
    have HB16 := Lib.hid (HB15.out.trans (hb16.mono HB15.out.size))
    clear hb16
    go_wp2_with fail
    go_ret
    exact ⟨rfl, HZ.out.trans (HB16.out.mono wsz)⟩

set_option maxRecDepth 100000 in
set_option maxHeartbeats 2000000 in
theorem contract (H : Type) (enc : TypeId × Value → H) (W : World) (base : Nat) (args : Array Value) (ds gs : List (DataW H)) (before : List MemPlace)
    (hval : ∀ (j : Nat) t v, Try.f13.params[j]? = some t → args[j]? = some v → Value.okWide Try.prog W .any base t v)
    (hW : DataW.Whole enc Try.prog Try.f13.params.toList Rows.fnExactAddStarSpec.vars false W args.toList ds gs before) (henv : Env W) :
    Calls Try.prog 13 args W fun e W' => ∃ v, e = .returned v ∧ Rows.fnExactAddStarSpec.post enc Try.prog Try.f13 false true false false W args v W' := by
  have hW' := hW
  obtain ⟨p, q, hA0, hV, rfl, hfz, hnd⟩ := hW
  have hA : DataW.TrodAll enc Try.prog W 0 (fun _ => true) true Try.f13.params.toList args.toList ds p := hA0
  rw [Try.params13] at hA hval
  obtain ⟨v0, vs0, d0, ds0, p0, q0, hargs0, rfl, rfl, h0, r0⟩ := trodAll_cons hA
  obtain ⟨v1, vs1, d1, ds1, p1, q1, hargs1, rfl, rfl, h1, r1⟩ := trodAll_cons r0
  obtain ⟨rfl, rfl, rfl⟩ := trodAll_nil r1
  obtain rfl : args = #[v0, v1] := by cases args; simp_all
  obtain ⟨rfl, rfl⟩ := trodVars_none hV
  have h0k := h0
  obtain ⟨sa0, sn0, sc0, rfl⟩ := okWide_slice Try.underlying29 (hval 0 29 v0 rfl rfl)
  obtain ⟨a0, w0, n0⟩ := stars_open h0
  have h1k := h1
  obtain ⟨s1, a1, b1, c1, d1, rfl, w1⟩ := star_open (hval 1 23 v1 rfl rfl) h1
  clear hA0
  have hltp : ∀ x ∈ p0 ++ (p1 ++ []) ++ [], x.block < W.heap.size := fun x hx => hW'.lt x hx
  refine (walk W _ a0 w0 n0 s1 a1 b1 c1 d1 w1 henv).mono fun e W' ⟨he, hg⟩ => ?_
  subst he
  exact ⟨_, rfl, post_of_below (pa := p0 ++ (p1 ++ [])) (pv := []) hW' (fun _ _ _ => (trodAll_cons_mk (shut_bool Try.underlying4 _) trodAll_mk0)) (fun sp hsp => (trodAll_cons_mk (WideElems.Trod_stays (by kernel_rfl) (by kernel_rfl) (of_decide_eq_true (by kernel_rfl)) h0k (fun x hx => hg.same (hltp x (by simp [hx]))) (fun x hx => hsp x (by simp [hx]))) (trodAll_cons_mk (WideElems.Trod_stays (by kernel_rfl) (by kernel_rfl) (of_decide_eq_true (by kernel_rfl)) h1k (fun x hx => hg.same (hltp x (by simp [hx]))) (fun x hx => hsp x (by simp [hx]))) trodAll_mk0))) (fun _ _ => rfl) rfl
    hg (ok_one (by kernel_rfl) rfl (okWide_bool_mk Try.underlying4 _))⟩

set_option maxRecDepth 100000 in
theorem lifted (os : Os) (started : os.Started) (H : Type) (enc : TypeId × Value → H) :
    ReturnsInHanded {} Try.checked os 13 .any (Rows.fnExactAddStarSpec.pre6 enc Try.prog Try.f13 Rows.fnExactAddStarRow.domain false) (Rows.fnExactAddStarSpec.post enc Try.prog Try.f13 false true false false) := by
  refine returnsInHanded_of_change (C := Try.checked) own started (by kernel_rfl) Try.func13
    (ChangeSpec.witness6 (enc := enc) (C := Try.checked) false ⟨#[], #[.slice none 0 0, .agg #[.string ByteArray.empty, .int .i64 0, .int .i64 0, .int .i64 0, .int .i64 0]], []⟩ 8 (by kernel_rfl) (by kernel_rfl) (by kernel_rfl) (by kernel_rfl)) ?_
  intro W base args ds gs before hval hW _ _
  exact contract H enc W base args ds gs before hval hW trivial

theorem over : Rows.fnExactAddStarRow.holds Try.pinned (OpenSpec.ofChange Rows.fnExactAddStarSpec) :=
  OpenClaim.holds_of_wide 13 Try.f13 rfl rfl rfl rfl rfl rfl rfl ⟨rfl, rfl, rfl, rfl, rfl⟩ rfl rfl rfl rfl rfl (by kernel_rfl) Try.func13 (by kernel_rfl)
    (of_decide_eq_true (by kernel_rfl)) (by unfold Func.isWrapper; first | (rw [if_pos (by decide +kernel)]; kernel_rfl) | (rw [if_neg (by decide +kernel)]; exact ⟨rfl, rfl⟩))
    (fun os started H enc _ => lifted os started H enc)

theorem proved : Rows.FnExactAddStarSaid :=
  over
#print axioms proved
end Go.Proofs.Ytfjhlapcopjfiaa.fnExactAddStar
