/-
  ComposeCurves (both packages).
-/
import Derived.Test.YtleaoemckdkndaaKnG
import Derived.Test.YtleaoemckdkndaaPow
namespace Go.Proofs.Ytleaoemckdkndaa.Kn
open Go.RowKit
set_option linter.unusedVariables false

theorem specLev_any (g cap : Nat) (zs : List V) (x : Int) (w : World) (h1 : Row w g zs) (hc : Cur zs) :
    Calls Try.prog 85 #[.slice (some ⟨g, 0, none⟩) zs.length cap, .int .i64 x] w fun e w' => e = .returned (.int .i64 (levI zs x)) ∧ Below w.heap.size w w' :=
  (l12At_any g cap zs x w h1 hc).mono fun e w' ⟨he, m, hm⟩ => ⟨he, by rw [hm]; exact bel_dK (Below.refl _ _) _⟩
set_option maxRecDepth 100000 in
set_option maxHeartbeats 1000000 in
theorem chainAt_any (ga gb ca cb : Nat) (za zb : List V) (x : Int) (w : World) (ha : Row w ga za) (hb : Row w gb zb) (hca : Cur za) (hcb : Cur zb) :
    Calls Try.prog 160 #[.agg #[.iface 100 (.slice (some ⟨ga, 0, none⟩) za.length ca), .iface 100 (.slice (some ⟨gb, 0, none⟩) zb.length cb)], .int .i64 x] w fun e w' => e = .returned (.int .i64 (levI zb (levI za x))) ∧ Below w.heap.size w w' := by
  have A1 := Lib.hid (fun (W : World) (hB : Below w.heap.size w W) => levelAt_any ga ca za x W (ha.below hB) hca)
  have A2 := Lib.hid (fun (W : World) (hB : Below w.heap.size w W) => levelAt_any gb cb zb (levI za x) W (hb.below hB) hcb)
  clear ha hb hca hcb
  generalize levI za x = y at *
  generalize levI zb y = z at *
  obtain ⟨W0, hW0⟩ : ∃ W0, W0 = w.alloc (Obj.cells #[.iface 100 (.slice (some ⟨ga, 0, none⟩) za.length ca), .iface 100 (.slice (some ⟨gb, 0, none⟩) zb.length cb)] 107) := ⟨_, rfl⟩
  have hB0 : Below w.heap.size w W0 := by rw [hW0]; exact (Below.refl _ w).alloc (Nat.le_refl _) _
  have e0 : W0.cell? ⟨w.heap.size, 0, none⟩ = some (.iface 100 (.slice (some ⟨ga, 0, none⟩) za.length ca)) := by rw [hW0]; simp
  have e1 : W0.cell? ⟨w.heap.size, 1, none⟩ = some (.iface 100 (.slice (some ⟨gb, 0, none⟩) zb.length cb)) := by rw [hW0]; simp
  have HW := Lib.hid hW0
  have HB0 := Lib.hid hB0
  clear hW0 hB0
  go_enter Try.func160, Try.ntmps160
  go_wp2_with fail
  rw [← HW.out]
  have K : Hid (W0.cell? ⟨w.heap.size, 0, none⟩ = some (.iface 100 (.slice (some ⟨ga, 0, none⟩) za.length ca)) ∧ W0.cell? ⟨w.heap.size, 1, none⟩ = some (.iface 100 (.slice (some ⟨gb, 0, none⟩) zb.length cb)) ∧ Below w.heap.size w W0) := Lib.hid ⟨e0, e1, HB0.out⟩
  clear e0 e1 HW
  go_region_held3 (fun W => W.cell? ⟨w.heap.size, 0, none⟩ = some (.iface 100 (.slice (some ⟨ga, 0, none⟩) za.length ca)) ∧ W.cell? ⟨w.heap.size, 1, none⟩ = some (.iface 100 (.slice (some ⟨gb, 0, none⟩) zb.length cb)) ∧ Below w.heap.size w W) (first | (exact keepW2 K.out (drewG W0)) | (exact keepW2 K.out y2) | (exact keepW2 K.out y1) | go_keep) ((first
    | ((try go_invoke); (try go_at_call 86); (with_reducible refine (A1.out _ (HB0.out.trans ((drewG W0).mono HB0.out.size))).mono ?_); rintro e x1 ⟨rfl, hx1⟩; have y1 := undrewG hx1)
    | ((try go_invoke); (try go_at_call 86); (with_reducible refine (A2.out _ (HB0.out.trans (y1.mono HB0.out.size))).mono ?_); rintro e x2 ⟨rfl, hx2⟩; have y2 := y1.trans (hx2.mono y1.size))))
  all_goals
    rename_i held
    have HH := Lib.hid held.2.2
    clear held K
    go_wp2_with fail
    go_ret
    exact ⟨rfl, HH.out⟩

set_option maxRecDepth 100000 in
set_option maxHeartbeats 2000000 in
theorem knotsOf_chain (ga gb ca cb : Nat) (za zb : List V) (w : World) (ha : Row w ga za) (hb : Row w gb zb) (hca : Cur za) (hcb : Cur zb) :
    Calls Try.prog 89 #[.iface 107 (.agg #[.iface 100 (.slice (some ⟨ga, 0, none⟩) za.length ca), .iface 100 (.slice (some ⟨gb, 0, none⟩) zb.length cb)])] w fun e' w' => ∃ u, e' = .returned u ∧ Own w' w.heap.size w'.heap.size u (knL (fun x => levI zb (levI za x)) 11) ∧ Below w.heap.size w w' := by
  obtain ⟨i0, hi, hzz⟩ := Option.map_eq_some_iff.1 info_rec
  simp only [Prod.mk.injEq] at hzz
  obtain ⟨hz0, hz1, hz2⟩ := hzz
  have HI0 := Lib.hid hi
  have HZ0 := Lib.hid hz0
  have HZ1 := Lib.hid hz1
  have HZ2 := Lib.hid hz2
  clear hi hz0 hz1 hz2
  have A := Lib.hid (fun x (W : World) (hB : Below w.heap.size w W) => chainAt_any ga gb ca cb za zb x W (ha.below hB) (hb.below hB) hca hcb)
  generalize hf : (fun x => levI zb (levI za x)) = f
  have ef : ∀ x, levI zb (levI za x) = f x := fun x => by rw [← hf]
  simp only [ef] at A
  have NX := Lib.hid (knL_next f)
  have LL := Lib.hid (knL_len f)
  clear hf ef ha hb hca hcb
  generalize hL : knL f = KL at *
  have O0 : Own (w.alloc (Obj.cells #[] 91)) w.heap.size (w.alloc (Obj.cells #[] 91)).heap.size (.slice (some ⟨w.heap.size, 0, none⟩) 0 0) (KL 0) := by
    have e0 : KL 0 = [] := by rw [← hL]; rfl
    rw [e0]
    exact Own.mk (World.ownsRow_made w #[] 0 (Nat.le_refl _) (Nat.zero_le _) rfl)
  have HO0 := Lib.hid O0
  clear O0 hL
  have HB0 : Hid (Below w.heap.size w (w.alloc (Obj.cells #[] 91))) := Lib.hid ((Below.refl _ _).alloc (Nat.le_refl _) _)
  go_enter Try.func89, Try.ntmps89
  go_wp2_with fail
  go_loopg [4, 3] 12 (fun kx s4 s3 wr => ∃ (k : Nat) (a : Option Addr) (cap : Nat), s4 = .int .i64 (100 * (k : Int)) ∧ s3 = .slice a k cap ∧ k ≤ 11 ∧ kx = 12 - k ∧ Hid (Own wr w.heap.size wr.heap.size (.slice a k cap) (KL k)) ∧ Hid (Below w.heap.size w wr))
  case atStart => exact ⟨0, _, _, rfl, rfl, Nat.zero_le _, rfl, HO0, HB0⟩
  case round =>
    obtain ⟨k, a, cap, rfl, rfl, hk, rfl, HO, HB⟩ := hrel
    by_cases hlt : k < 11
    · have C := Lib.hid (A.out (100 * (k : Int)))
      have N := Lib.hid (NX.out k)
      have hl := LL.out k
      generalize f (100 * (k : Int)) = p at *
      generalize KL k = L at *
      go_wp2_with fail
      refine (C.out _ HB.out).mono ?_
      rintro e w2 ⟨rfl, hb2⟩
      have HB2 := Lib.hid (HB.out.trans (hb2.mono HB.out.size))
      have O2 := (HO.out.below hb2).1
      have hs2 := hb2.size
      clear hb2
      have hi := HI0.out
      have hz0 := HZ0.out
      have hz1 := HZ1.out
      have hz2 := HZ2.out
      have hsB := HB2.out.size
      rw [hl] at O2
      go_wp2_with (at_builtin; refine wpList_append_lies _ rfl _ _ 41 rfl w.heap.size 91 i0 (.agg #[.int .i64 0, .int .i64 0]) 2 16 Try.underlying41 hi hz0 hz1 hz2 rfl (by decide) _ _ _ rfl (O2.alloc _) ⟨w2.heap.size, 0, none⟩ 1 1 [.int .i64 (100 * (k : Int)), .int .i64 p] rfl rfl ?c1 ?c2 ?c0 ?c3 ?c4 ?c5 (w2.heap.size + 1) ?c6 ?_)
      case c1 => exact new_cells _ _ _ _
      case c2 => exact cells_one _ _
      case c0 => omega
      case c3 => unfold maxLen; omega
      case c4 => omega
      case c5 => simp; omega
      case c6 => simp
      intro gg cap3 w5 hown' hgrow hlies hlt3
      have HB5 := Lib.hid (own_belowK O2 HB2.out hsB hgrow)
      have O5 : Hid (Own w5 w.heap.size w5.heap.size (.slice (some ⟨gg, 0, none⟩) (k + 1) cap3) (KL (k + 1))) := Lib.hid (by
        rw [N.out]
        refine Own.mk ?_
        rw [List.length_append, flat_app, hl]
        exact hown')
      clear hown' hgrow hlies O2 hi hz0 hz1 hz2 hl
      go_wp2_with fail
      go_roundg (12 - (k + 1))
      case measure => omega
      case rel => exact ⟨k + 1, _, _, by first | go_num | (simp; omega), rfl, by omega, by omega, by first | exact O5 | (have := O5; simpa using this), HB5⟩
    · obtain rfl : k = 11 := by omega
      go_wp2_with fail
      go_returns
      exact ⟨_, rfl, HO.out, HB.out⟩
def compV (za zb : List V) : KR := if (curveB za && curveB zb) = true then (knL (fun x => levI zb (levI za x)) 11, 0) else ([], 1)
theorem compV_len (za zb : List V) : (compV za zb).1.length ≤ 1048576 := by
  unfold compV
  split
  · rw [knL_len]; omega
  · exact Nat.zero_le _
set_option maxRecDepth 100000 in
set_option maxHeartbeats 2000000 in
theorem implComp_any (ga gb ca cb : Nat) (za zb : List V) (w : World) (ba : za.length ≤ 1048577) (bb : zb.length ≤ 1048577) (ha : Row w ga za) (hb : Row w gb zb) :
    Calls Try.prog 36 #[.slice (some ⟨ga, 0, none⟩) za.length ca, .slice (some ⟨gb, 0, none⟩) zb.length cb] w (KPost (compV za zb) w) := by
  have V1 := Lib.hid (implCurve_any ga ca za w ba ha)
  have V2 := Lib.hid (fun (W : World) (hB : Below w.heap.size w W) => implCurve_any gb cb zb W bb (hb.below hB))
  have KO := Lib.hid (fun (W : World) (hB : Below w.heap.size w W) h1 h2 => knotsOf_chain ga gb ca cb za zb W (ha.below hB) (hb.below hB) h1 h2)
  clear ha hb
  unfold compV
  cases h1 : curveB za with
  | false =>
    rw [Bool.false_and, if_neg (by simp)]
    rw [h1] at V1
    clear h1
    go_enter Try.func36, Try.ntmps36
    go_wp2_with fail
    refine V1.out.mono ?_
    rintro e w1 ⟨rfl, hb1⟩
    have HB1 := Lib.hid hb1
    clear hb1
    go_wp2_with fail
    go_ret2
    exact ⟨_, rfl, Own.nil _ _ _, HB1.out⟩
  | true =>
    rw [Bool.true_and]
    rw [h1] at V1
    cases h2 : curveB zb with
    | false =>
      rw [if_neg (by simp)]
      rw [h2] at V2
      clear h1 h2
      go_enter Try.func36, Try.ntmps36
      go_wp2_with fail
      refine V1.out.mono ?_
      rintro e w1 ⟨rfl, hb1⟩
      have HB1 := Lib.hid hb1
      clear hb1
      go_wp2_with fail
      refine (V2.out _ HB1.out).mono ?_
      rintro e w2 ⟨rfl, hb2⟩
      have HB2 := Lib.hid (HB1.out.trans (hb2.mono HB1.out.size))
      clear hb2
      go_wp2_with fail
      go_ret2
      exact ⟨_, rfl, Own.nil _ _ _, HB2.out⟩
    | true =>
      rw [if_pos rfl]
      rw [h2] at V2
      have K := Lib.hid (fun (W : World) (hB : Below w.heap.size w W) => KO.out W hB (cur_of h1) (cur_of h2))
      clear h1 h2 KO
      generalize knL (fun x => levI zb (levI za x)) 11 = L at *
      go_enter Try.func36, Try.ntmps36
      go_wp2_with fail
      refine V1.out.mono ?_
      rintro e w1 ⟨rfl, hb1⟩
      have HB1 := Lib.hid hb1
      clear hb1
      go_wp2_with fail
      refine (V2.out _ HB1.out).mono ?_
      rintro e w2 ⟨rfl, hb2⟩
      have HB2 := Lib.hid (HB1.out.trans (hb2.mono HB1.out.size))
      clear hb2
      go_wp2_with fail
      refine (K.out _ HB2.out).mono ?_
      rintro e w3 ⟨u, rfl, ho3, hb3⟩
      have HB3 := Lib.hid (HB2.out.trans (hb3.mono HB2.out.size))
      have HO3 := Lib.hid (ho3.le HB2.out.size (Nat.le_refl _))
      clear hb3 ho3
      go_wp2_with fail
      go_ret2
      exact ⟨_, rfl, HO3.out, HB3.out⟩
set_option maxRecDepth 100000 in
set_option maxHeartbeats 4000000 in
theorem specComp_any (ga gb ca cb : Nat) (za zb : List V) (w : World) (ba : za.length ≤ 1048577) (bb : zb.length ≤ 1048577) (ha : Row w ga za) (hb : Row w gb zb) :
    Calls Try.prog 35 #[.slice (some ⟨ga, 0, none⟩) za.length ca, .slice (some ⟨gb, 0, none⟩) zb.length cb] w (KPost (compV za zb) w) := by
  have V1 := Lib.hid (l12Ok_any ga ca za w ba ha)
  have V2 := Lib.hid (fun (W : World) (hB : Below w.heap.size w W) => l12Ok_any gb cb zb W bb (hb.below hB))
  have A1 := Lib.hid (fun (W : World) (hB : Below w.heap.size w W) x h1 => specLev_any ga ca za x W (ha.below hB) h1)
  have A2 := Lib.hid (fun (W : World) (hB : Below w.heap.size w W) x h2 => specLev_any gb cb zb x W (hb.below hB) h2)
  clear ha hb
  unfold compV
  cases h1 : curveB za with
  | false =>
    rw [Bool.false_and, if_neg (by simp)]
    rw [h1] at V1
    clear h1
    go_enter Try.func35, Try.ntmps35
    go_wp2_with fail
    refine V1.out.mono ?_
    rintro e w1 ⟨rfl, hb1⟩
    have HB1 := Lib.hid hb1
    clear hb1
    go_wp2_with fail
    go_ret2
    exact ⟨_, rfl, Own.nil _ _ _, HB1.out⟩
  | true =>
    rw [Bool.true_and]
    rw [h1] at V1
    cases h2 : curveB zb with
    | false =>
      rw [if_neg (by simp)]
      rw [h2] at V2
      clear h1 h2
      go_enter Try.func35, Try.ntmps35
      go_wp2_with fail
      refine V1.out.mono ?_
      rintro e w1 ⟨rfl, hb1⟩
      have HB1 := Lib.hid hb1
      clear hb1
      go_wp2_with fail
      refine (V2.out _ HB1.out).mono ?_
      rintro e w2 ⟨rfl, hb2⟩
      have HB2 := Lib.hid (HB1.out.trans (hb2.mono HB1.out.size))
      clear hb2
      go_wp2_with fail
      go_ret2
      exact ⟨_, rfl, Own.nil _ _ _, HB2.out⟩
    | true =>
      rw [if_pos rfl]
      rw [h2] at V2
      obtain ⟨i0, hi, hzz⟩ := Option.map_eq_some_iff.1 info_rec
      simp only [Prod.mk.injEq] at hzz
      obtain ⟨hz0, hz1, hz2⟩ := hzz
      have HI0 := Lib.hid hi
      have HZ0 := Lib.hid hz0
      have HZ1 := Lib.hid hz1
      have HZ2 := Lib.hid hz2
      clear hi hz0 hz1 hz2
      have B1 := Lib.hid (fun (W : World) (hB : Below w.heap.size w W) x => A1.out W hB x (cur_of h1))
      have B2 := Lib.hid (fun (W : World) (hB : Below w.heap.size w W) x => A2.out W hB x (cur_of h2))
      clear A1 A2 h1 h2
      generalize hf : (fun x => levI zb (levI za x)) = f
      have ef : ∀ x, levI zb (levI za x) = f x := fun x => by rw [← hf]
      have EF := Lib.hid ef
      have NX := Lib.hid (knL_next f)
      have LL := Lib.hid (knL_len f)
      have e0 : knL f 0 = [] := rfl
      clear hf ef
      generalize knL f = KL at *
      generalize levI za = fa at *
      generalize levI zb = fb at *
      go_enter Try.func35, Try.ntmps35
      go_wp2_with fail
      refine V1.out.mono ?_
      rintro e w1 ⟨rfl, hb1⟩
      have HB1 := Lib.hid hb1
      clear hb1
      go_wp2_with fail
      refine (V2.out _ HB1.out).mono ?_
      rintro e wz ⟨rfl, hb2⟩
      have HBz := Lib.hid (HB1.out.trans (hb2.mono HB1.out.size))
      clear hb2 HB1
      have hsz := HBz.out.size
      have O0 : Own (wz.alloc (Obj.cells #[] 91)) w.heap.size (wz.alloc (Obj.cells #[] 91)).heap.size (.slice (some ⟨wz.heap.size, 0, none⟩) 0 0) (KL 0) := by
        rw [e0]
        exact Own.mk (World.ownsRow_made wz #[] 0 hsz (Nat.zero_le _) rfl)
      have HO0 := Lib.hid O0
      have HB0 : Hid (Below w.heap.size w (wz.alloc (Obj.cells #[] 91))) := Lib.hid (HBz.out.alloc hsz _)
      clear O0 e0
      go_wp2_with fail
      go_loopg [7, 6] 12 (fun kx s4 s3 wr => ∃ (k : Nat) (a : Option Addr) (cap : Nat), s4 = .int .i64 (100 * (k : Int)) ∧ s3 = .slice a k cap ∧ k ≤ 11 ∧ kx = 12 - k ∧ Hid (Own wr w.heap.size wr.heap.size (.slice a k cap) (KL k)) ∧ Hid (Below w.heap.size w wr))
      case atStart => exact ⟨0, _, _, rfl, rfl, Nat.zero_le _, rfl, HO0, HB0⟩
      case round =>
        obtain ⟨k, a, cap, rfl, rfl, hk, rfl, HO, HB⟩ := hrel
        by_cases hlt : k < 11
        · have C1 := Lib.hid (fun W hB => B1.out W hB (100 * (k : Int)))
          have C2 := Lib.hid (fun W hB => B2.out W hB (fa (100 * (k : Int))))
          have N := Lib.hid (NX.out k)
          have ef := EF.out (100 * (k : Int))
          rw [ef] at C2
          have hl := LL.out k
          clear ef
          generalize f (100 * (k : Int)) = p at *
          generalize fa (100 * (k : Int)) = y at *
          generalize KL k = L at *
          go_wp2_with fail
          refine (C1.out _ HB.out).mono ?_
          rintro e wy ⟨rfl, hby⟩
          have HBy := Lib.hid (HB.out.trans (hby.mono HB.out.size))
          have Oy := Lib.hid ((HO.out.below hby).le (Nat.le_refl _) hby.size)
          have hsy := hby.size
          clear hby
          go_wp2_with fail
          refine (C2.out _ HBy.out).mono ?_
          rintro e w2 ⟨rfl, hb2⟩
          have HB2 := Lib.hid (HBy.out.trans (hb2.mono HBy.out.size))
          have O2 := (Oy.out.below hb2).1
          have hs2 := hb2.size
          clear hb2
          have hi := HI0.out
          have hz0 := HZ0.out
          have hz1 := HZ1.out
          have hz2 := HZ2.out
          have hsB := HB2.out.size
          rw [hl] at O2
          go_wp2_with (at_builtin; refine wpList_append_lies _ rfl _ _ 41 rfl w.heap.size 91 i0 (.agg #[.int .i64 0, .int .i64 0]) 2 16 Try.underlying41 hi hz0 hz1 hz2 rfl (by decide) _ _ _ rfl (O2.alloc _) ⟨w2.heap.size, 0, none⟩ 1 1 [.int .i64 (100 * (k : Int)), .int .i64 p] rfl rfl ?c1 ?c2 ?c0 ?c3 ?c4 ?c5 (w2.heap.size + 1) ?c6 ?_)
          case c1 => exact new_cells _ _ _ _
          case c2 => exact cells_one _ _
          case c0 => omega
          case c3 => unfold maxLen; omega
          case c4 => omega
          case c5 => simp; omega
          case c6 => simp
          intro gg cap3 w5 hown' hgrow hlies hlt3
          have HB5 := Lib.hid (own_belowK O2 HB2.out hsB hgrow)
          have O5 : Hid (Own w5 w.heap.size w5.heap.size (.slice (some ⟨gg, 0, none⟩) (k + 1) cap3) (KL (k + 1))) := Lib.hid (by
            rw [N.out]
            refine Own.mk ?_
            rw [List.length_append, flat_app, hl]
            exact hown')
          clear hown' hgrow hlies O2 hi hz0 hz1 hz2 hl
          go_wp2_with fail
          go_roundg (12 - (k + 1))
          case measure => omega
          case rel => exact ⟨k + 1, _, _, by first | go_num | (simp; omega), rfl, by omega, by omega, by first | exact O5 | (have := O5; simpa using this), HB5⟩
        · obtain rfl : k = 11 := by omega
          go_wp2_with fail
          go_ret2
          exact ⟨_, rfl, HO.out, HB.out⟩
end Go.Proofs.Ytleaoemckdkndaa.Kn
