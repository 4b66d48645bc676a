/-
  EvenPowers (package spec).
-/
import Derived.Test.YtlklcpnnaolbeaaEvenM
import Derived.StillTailTactics
import Derived.Deep.RegionWith
import Derived.Handy
namespace Go.Proofs.Ytlklcpnnaolbeaa
open Go.RowKit
set_option linter.unusedVariables false

theorem quiet_wE {P : Program} {f : FuncId} {args : Array Value} {w : World} {v : Value}
    (h : Calls P f args w fun e w' => e = .returned v ∧ w = w') : Calls P f args w fun e w' => e = .returned v ∧ w' = w :=
  h.mono fun _ _ ⟨he, hm⟩ => ⟨he, hm.symm⟩
theorem okL_goodE {zs : List StarV} (h : okL zs = true) : (∀ j, (hj : j < zs.length) → zs[j].good = true) ∧ zs.length ≤ 6 := by
  unfold okL okZ at h
  simp only [Bool.and_eq_true, decide_eq_true_eq, List.all_eq_true, List.mem_range] at h
  refine ⟨fun j hj => ?_, h.2⟩
  have := h.1 j hj
  unfold stepB at this
  rw [getD_at zs j hj, Bool.and_eq_true] at this
  exact this.1
theorem lowD_zero (zs : List StarV) (y : Int) (hy : y ≤ 1000) : lowD zs y 0 = y := by unfold lowD minD; split <;> omega
theorem lowD_next (zs : List StarV) (y : Int) (k : Nat) (hk : k < zs.length) : (if lowD zs y k < zs[k].d then lowD zs y k else zs[k].d) = lowD zs y (k + 1) := by
  have e : minD zs (k + 1) = if zs[k].d < minD zs k then zs[k].d else minD zs k := by
    show (if (zs.getD k star0).d < minD zs k then (zs.getD k star0).d else minD zs k) = _
    rw [getD_at zs k hk]
  unfold lowD
  rw [e]
  repeat (first | split | omega)
theorem lowD_all (zs : List StarV) (i : Nat) (hi : i < zs.length) : lowD zs zs[i].d zs.length = minD zs zs.length := by
  have := minD_mem zs zs.length i hi
  rw [getD_at zs i hi] at this
  unfold lowD
  split <;> omega
theorem sown_len0 {w : World} {B : Nat} {v : Value} {zs : List StarV} (h : SOwn w B v zs) : ∃ a c, v = .slice a zs.length c := by
  rcases h.forms with ⟨rfl, rfl⟩ | ⟨g, cap, rfl, _⟩
  · exact ⟨_, _, rfl⟩
  · exact ⟨_, _, rfl⟩

set_option maxRecDepth 100000 in
set_option maxHeartbeats 4000000 in
theorem specEven_any (g cap : Nat) (zs : List StarV) (w : World) (hb : zs.length ≤ 1048577) (h1 : Row w g zs) :
    Calls Try.prog 10 #[.slice (some ⟨g, 0, none⟩) zs.length cap] w (SPost (evenV zs) w) := by
  have OK := Lib.hid (l10Ok_any g cap zs w hb h1)
  cases hk : okL zs with
  | false =>
    have HR : Hid (evenV zs = ([], 1)) := Lib.hid (by unfold evenV; rw [hk, if_neg (by simp)])
    rw [hk] at OK
    clear hk h1
    go_enter Try.func10, Try.ntmps10
    go_wp2_with fail
    refine (OK.out).mono ?_
    rintro e w1 ⟨rfl, hb⟩
    have hsw1 := hb.size
    try simp at hsw1
    obtain ⟨hcw1, hfw1⟩ := bcell hb
    have HBw1 : Hid (Below w.heap.size w w1) := by
      apply Lib.hid
      refine Below.trans ?_ (hb.mono ?_)
      · repeat (first | exact Below.refl _ _ | refine Below.setCell ?_ (by first | (simp; done) | omega | (simp; omega)) _ | refine Below.alloc ?_ (by first | (simp; done) | omega | (simp; omega)) _)
      · first | (simp; done) | omega | (simp; omega)
    clear hb
    go_wp2_with fail
    go_returns
    exact ⟨_, by rw [HR.out]; rfl, by rw [HR.out]; exact SOwn.nil _ _, HBw1.out⟩
  | true =>
    have HR : Hid (evenV zs = (zs.map (fun x => pw x (minD zs zs.length)), 0)) := Lib.hid (by unfold evenV; rw [hk, if_pos rfl])
    obtain ⟨hgood, h6⟩ := okL_goodE hk
    have HD : Hid (∀ j, (hj : j < zs.length) → zs[j].d ≤ 1000) := Lib.hid (fun j hj => (starB_bd (hgood j hj)).2.2.2.2)
    rw [hk] at OK
    have H1 := Lib.hid h1
    clear hk h1 hgood
    obtain ⟨i0, hi, hzz⟩ := Option.map_eq_some_iff.1 info_star
    simp only [Prod.mk.injEq] at hzz
    obtain ⟨hz0, hz1, hz2⟩ := hzz
    go_enter Try.func10, Try.ntmps10
    go_wp2_with fail
    refine OK.out.mono ?_
    rintro e w1 ⟨rfl, hb1⟩
    have HB1 := Lib.hid hb1
    clear hb1
    have own0 : (w1.alloc (Obj.cells #[] 35)).ownsRow w.heap.size 35 5 (.slice (some ⟨w1.heap.size, 0, none⟩) 0 0) 0 [] := World.ownsRow_made w1 #[] 0 HB1.out.size (Nat.zero_le _) rfl
    have hb2 : Below w.heap.size w (w1.alloc (Obj.cells #[] 35)) := HB1.out.alloc HB1.out.size _
    have L1 : (flatS zs).length = zs.length * 5 := flatS_len zs
    have P1 := flatS_one zs
    have S1 := (H1.out.below hb2).srcE
    have hm1 : 0 + zs.length ≤ maxLen := by unfold maxLen; omega
    have hy1 : (0 + zs.length) * 48 ≤ 140737488355328 := by omega
    go_wp2_with (at_builtin; refine wpList_append_own _ rfl _ _ 25 rfl w.heap.size 35 i0 (.agg #[.string ByteArray.empty, .int .i64 0, .int .i64 0, .int .i64 0, .int .i64 0]) 5 48 Try.underlying25 hi hz0 hz1 hz2 rfl (by decide) _ _ _ rfl own0 ⟨g, 0, none⟩ zs.length _ (flatS zs) rfl L1 S1 P1 hm1 hy1 hb2.size ?_; intro v3 w3 hown3 hgrow3 _; have hb3 : Below w.heap.size w w3 := hb2.grown hgrow3 hb2.size (fun kk hk => (own0.lt kk hk).1); have O3 : Hid (SOwn w3 w.heap.size v3 zs) := Lib.hid (by unfold SOwn; simpa using hown3))
    have HB3 := Lib.hid hb3
    clear hb3 hgrow3 hown3 own0 hb2 L1 P1 S1 hi hz0 hz1 hz2
    have hlt3 : g < w3.heap.size := by
      have h1 := H1.out.lt
      have h2 := HB3.out.size
      omega
    generalize he : minD zs zs.length = m at *
    have HE := Lib.hid he
    clear he
    go_loopg [5] (zs.length + 1) (fun kx s5 wr => ∃ i : Nat, s5 = .int .i64 (i : Int) ∧ i ≤ zs.length ∧ kx = zs.length + 1 - i ∧ Hid (SOwn wr w.heap.size v3 (evL zs m i)) ∧ Hid (Below w.heap.size w wr))
    case atStart => exact ⟨0, rfl, Nat.zero_le _, rfl, Lib.hid (by rw [evL_zero]; exact O3.out), HB3⟩
    case round =>
      clear O3 HB3 hlt3
      obtain ⟨i, rfl, hi, rfl, HO, HB⟩ := hrel
      by_cases hlt : i < zs.length
      · have hform : ∃ a c, v3 = .slice (some ⟨a, 0, none⟩) zs.length c ∧ w.heap.size ≤ a ∧ a < wr.heap.size := by
          rcases HO.out.forms with ⟨_, h0⟩ | ⟨a, c, h2, h3, h4⟩
          · have := evL_len zs m i hi
            rw [h0] at this
            simp at this
            omega
          · rw [evL_len zs m i hi] at h2
            exact ⟨a, c, h2, h3, h4⟩
        obtain ⟨a, c, rfl, ha, _⟩ := hform
        have i0 : (0 : Int) ≤ (i : Int) := by omega
        have i1 : (i : Int) < (zs.length : Int) := by omega
        go_wp2_with fail
        go_loopg [6] (zs.length + 1) (fun kx s6 wr => ∃ k : Nat, s6 = .int .i64 (k : Int) ∧ k ≤ zs.length ∧ kx = zs.length + 1 - k ∧ Hid (SOwn wr w.heap.size (.slice (some ⟨a, 0, none⟩) zs.length c) ((evL zs m i).set i (pw zs[i] (lowD zs zs[i].d k)))) ∧ Hid (Below w.heap.size w wr))
        case atStart =>
          refine ⟨0, rfl, Nat.zero_le _, rfl, Lib.hid ?_, HB⟩
          rw [lowD_zero zs _ (HD.out i hlt)]
          have e : (evL zs m i).set i (pw zs[i] zs[i].d) = evL zs m i := set_same _ _ _ (by rw [List.getElem?_eq_getElem (by rw [evL_len zs m i hi]; exact hlt), evL_here zs m i hlt]; rfl)
          rw [e]
          exact HO.out
        case round =>
          clear HO HB
          obtain ⟨k, rfl, hk, rfl, HO, HB⟩ := hrel
          by_cases hlt2 : k < zs.length
          · have k0 : (0 : Int) ≤ (k : Int) := by omega
            have k1 : (k : Int) < (zs.length : Int) := by omega
            have hel : ((evL zs m i).set i (pw zs[i] (lowD zs zs[i].d k))).length = zs.length := by rw [List.length_set, evL_len zs m i hi]
            have ho : SOwn wr w.heap.size (.slice (some ⟨a, 0, none⟩) ((evL zs m i).set i (pw zs[i] (lowD zs zs[i].d k))).length c) ((evL zs m i).set i (pw zs[i] (lowD zs zs[i].d k))) := by rw [hel]; exact HO.out
            have hat := ho.at i (by rw [hel]; exact hlt)
            have hel2 : ((evL zs m i).set i (pw zs[i] (lowD zs zs[i].d k)))[i]'(by rw [hel]; exact hlt) = pw zs[i] (lowD zs zs[i].d k) := List.getElem_set_self _
            rw [hel2] at hat
            have d1 := hat.c4
            have d2 := ((H1.out.below HB.out).at k hlt2).c4
            have fz := ho.freeE (i * 5 + 4)
            have NL := Lib.hid (lowD_next zs zs[i].d k hlt2)
            have MN := Lib.hid (fun w => l00Min_any (lowD zs zs[i].d k) zs[k].d w)
            rw [NL.out] at MN
            have PW := Lib.hid (fun d => ho.pow i (by rw [hel]; exact hlt) d)
            have ST : Hid (∀ W : World, wr.heap = W.heap → SOwn (W.setCell ⟨a, i * 5 + 4, none⟩ (.int .i64 (lowD zs zs[i].d (k + 1)))) w.heap.size (.slice (some ⟨a, 0, none⟩) zs.length c) ((evL zs m i).set i (pw zs[i] (lowD zs zs[i].d (k + 1))))) := Lib.hid (fun W hW => by
              have h := PW.out (lowD zs zs[i].d (k + 1))
              rw [hel2, hel, List.set_set] at h
              refine SOwn.heapE h ?_
              simp only [World.setCell, hW])
            change wr.cell? ⟨a, i * 5 + 4, none⟩ = some (.int .i64 (lowD zs zs[i].d k)) at d1
            clear hel ho hat hel2 PW NL
            generalize lowD zs zs[i].d k = y at *
            generalize hy : lowD zs zs[i].d (k + 1) = y' at *
            have HY := Lib.hid hy
            clear hy
            generalize zs[k].d = z at *
            go_wp2_with fail
            refine wp_region_still_tail 15 (by kernel_rfl) (by kernel_rfl) ?_
            have hw2 : ∃ W : World, W = ({ heap := wr.heap, tape := wr.tape, drawn := wr.drawn + 1, os := wr.os, output := wr.output } : World) := ⟨_, rfl⟩
            obtain ⟨w2, hw2⟩ := hw2
            have e1 : w2.cell? ⟨a, i * 5 + 4, none⟩ = some (.int .i64 y) := by rw [hw2]; exact d1
            have e2 : w2.cell? ⟨g, k * 5 + 4, none⟩ = some (.int .i64 z) := by rw [hw2]; exact d2
            have e3 : w2.frozen? ⟨a, i * 5 + 4, none⟩ = false := by rw [hw2]; exact fz
            have HW2 : Hid (wr.heap = w2.heap) := Lib.hid (by rw [hw2])
            have HB2 : Hid (Below w.heap.size w w2) := Lib.hid (by rw [hw2]; exact HB.out.trans ((show Below wr.heap.size wr ({ heap := wr.heap, tape := wr.tape, drawn := wr.drawn + 1, os := wr.os, output := wr.output } : World) from ⟨rfl, rfl, rfl, Nat.le_refl _, fun _ _ => rfl⟩).mono HB.out.size))
            rw [← hw2]
            clear hw2 d1 d2 fz
            simp only [List.take_succ_cons, List.take_zero, List.drop_succ_cons, List.drop_zero]
            repeat still_step
            still_call (quiet_wE (MN.out _))
            repeat still_step
            refine wpStill_nil ?_
            have HO2 := Lib.hid (ST.out w2 HW2.out)
            have HB3 : Hid (Below w.heap.size w (w2.setCell ⟨a, i * 5 + 4, none⟩ (.int .i64 y'))) := Lib.hid (HB2.out.setCell ha _)
            clear e2 HB2 HW2 ST MN
            go_wp2_with fail
            go_roundg (zs.length + 1 - (k + 1))
            case measure => omega
            case rel => exact ⟨k + 1, by go_num, by omega, rfl, by rw [HY.out]; exact HO2, HB3⟩
          · obtain rfl : k = zs.length := by omega
            have HO2 : Hid (SOwn wr w.heap.size (.slice (some ⟨a, 0, none⟩) zs.length c) (evL zs m (i + 1))) := Lib.hid (by
              have h := HO.out
              rw [lowD_all zs i hlt, HE.out, evL_set zs m i hlt] at h
              exact h)
            clear HO
            go_wp2_with fail
            go_roundg (zs.length + 1 - (i + 1))
            case measure => omega
            case rel => exact ⟨i + 1, by go_num, by omega, rfl, HO2, HB⟩
      · obtain rfl : i = zs.length := by omega
        obtain ⟨a, c, rfl⟩ : ∃ a c, v3 = .slice a zs.length c := by
          have h := sown_len0 HO.out
          rw [evL_len zs m _ hi] at h
          exact h
        have HO2 := HO.out
        rw [evL_all] at HO2
        have HO3 := Lib.hid HO2
        clear HO2 HO
        go_wp2_with fail
        go_returns
        exact ⟨_, by rw [HR.out]; rfl, by rw [HR.out]; exact HO3.out, HB.out⟩
end Go.Proofs.Ytlklcpnnaolbeaa
