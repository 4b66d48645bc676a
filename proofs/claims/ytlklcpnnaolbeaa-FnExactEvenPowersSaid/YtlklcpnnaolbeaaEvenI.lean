/-
  EvenPowers (package impl).
-/
import Derived.Test.YtlklcpnnaolbeaaEvenS
namespace Go.Proofs.Ytlklcpnnaolbeaa
open Go.RowKit
set_option linter.unusedVariables false

theorem nilP (g n cap : Nat) (w : World) : (binOp .eql 25 (.slice (some ⟨g, 0, none⟩) n cap) (.slice none 0 0)).run Try.prog w = .ok (.bool false) w := by kernel_rfl
set_option maxRecDepth 100000 in
set_option maxHeartbeats 2000000 in
theorem clone_any (g cap : Nat) (zs : List StarV) (w : World) (hb : zs.length ≤ 1048577) (h1 : Row w g zs) :
    Calls Try.prog 22 #[.slice (some ⟨g, 0, none⟩) zs.length cap] w fun e w' => ∃ v, e = .returned v ∧ SOwn w' w.heap.size v zs ∧ Below w.heap.size w w' := by
  have H1 := Lib.hid h1
  have HB0 := Lib.hid (Below.refl w.heap.size w)
  have NP := nilP
  clear h1
  obtain ⟨i0, hi, hzz⟩ := Option.map_eq_some_iff.1 info_star
  simp only [Prod.mk.injEq] at hzz
  obtain ⟨hz0, hz1, hz2⟩ := hzz
  go_enter Try.func22, Try.ntmps22
  have own0 : (w.alloc (Obj.cells #[] 35)).ownsRow w.heap.size 35 5 (.slice (some ⟨w.heap.size, 0, none⟩) 0 0) 0 [] := World.ownsRow_made w #[] 0 HB0.out.size (Nat.zero_le _) rfl
  have hb2 : Below w.heap.size w (w.alloc (Obj.cells #[] 35)) := HB0.out.alloc HB0.out.size _
  have L1 : (flatS zs).length = zs.length * 5 := flatS_len zs
  have P1 := flatS_one zs
  have S1 := (H1.out.below hb2).srcE
  have hm1 : 0 + zs.length ≤ maxLen := by unfold maxLen; omega
  have hy1 : (0 + zs.length) * 48 ≤ 140737488355328 := by omega
  go_wp2_with (at_builtin; refine wpList_append_own _ rfl _ _ 25 rfl w.heap.size 35 i0 (.agg #[.string ByteArray.empty, .int .i64 0, .int .i64 0, .int .i64 0, .int .i64 0]) 5 48 Try.underlying25 hi hz0 hz1 hz2 rfl (by decide) _ _ _ rfl own0 ⟨g, 0, none⟩ zs.length _ (flatS zs) rfl L1 S1 P1 hm1 hy1 hb2.size ?_; intro v3 w3 hown3 hgrow3 _; have hb3 : Below w.heap.size w w3 := hb2.grown hgrow3 hb2.size (fun kk hk => (own0.lt kk hk).1); have O3 : Hid (SOwn w3 w.heap.size v3 zs) := Lib.hid (by unfold SOwn; simpa using hown3))
  have HB3 := Lib.hid hb3
  clear hb3 hgrow3 hown3 own0 hb2 L1 P1 S1 hi hz0 hz1 hz2
  go_returns
  exact ⟨_, rfl, O3.out, HB3.out⟩

set_option maxRecDepth 100000 in
set_option maxHeartbeats 4000000 in
theorem implEven_any (g cap : Nat) (zs : List StarV) (w : World) (hb : zs.length ≤ 1048577) (h1 : Row w g zs) (hok : ∀ j, (h : j < zs.length) → zs[j].ok) :
    Calls Try.prog 11 #[.slice (some ⟨g, 0, none⟩) zs.length cap] w (SPost (evenV zs) w) := by
  have OK := Lib.hid (validProjs_any g cap zs w hb h1 hok)
  clear hok
  cases hk : okL zs with
  | false =>
    have HR : Hid (evenV zs = ([], 1)) := Lib.hid (by unfold evenV; rw [hk, if_neg (by simp)])
    rw [hk] at OK
    clear hk h1
    go_enter Try.func11, Try.ntmps11
    go_wp2_with fail
    refine (OK.out).mono ?_
    rintro e w1 ⟨rfl, hb⟩
    have hsw1 := hb.size
    try simp at hsw1
    obtain ⟨hcw1, hfw1⟩ := bcell hb
    have HBw1 : Hid (Below w.heap.size w w1) := by
      apply Lib.hid
      refine Below.trans ?_ (hb.mono ?_)
      · repeat (first | exact Below.refl _ _ | refine Below.setCell ?_ (by first | (simp; done) | omega | (simp; omega)) _ | refine Below.alloc ?_ (by first | (simp; done) | omega | (simp; omega)) _)
      · first | (simp; done) | omega | (simp; omega)
    clear hb
    go_wp2_with fail
    go_returns
    exact ⟨_, by rw [HR.out]; rfl, by rw [HR.out]; exact SOwn.nil _ _, HBw1.out⟩
  | true =>
    have HR : Hid (evenV zs = (zs.map (fun x => pw x (minD zs zs.length)), 0)) := Lib.hid (by unfold evenV; rw [hk, if_pos rfl])
    rw [hk] at OK
    have H1 := Lib.hid h1
    clear hk h1
    go_enter Try.func11, Try.ntmps11
    go_wp2_with fail
    refine OK.out.mono ?_
    rintro e w1 ⟨rfl, hb1⟩
    have HB1 := Lib.hid hb1
    clear hb1
    go_wp2_with fail
    go_loopg [4, 14] (zs.length + 1) (fun kx s4 s14 wr => ∃ k : Nat, s14 = .int .i64 (k : Int) ∧ s4 = .int .i64 (minD zs k) ∧ k ≤ zs.length ∧ kx = zs.length + 1 - k ∧ Hid (Below w.heap.size w wr))
    case atStart => exact ⟨0, rfl, rfl, Nat.zero_le _, rfl, HB1⟩
    case round =>
      clear HB1
      obtain ⟨k, rfl, rfl, hk, rfl, HB⟩ := hrel
      by_cases hlt : k < zs.length
      · have k0 : (0 : Int) ≤ (k : Int) := by omega
        have k1 : (k : Int) < (zs.length : Int) := by omega
        have hat := (H1.out.below HB.out).at k hlt
        have MN : Hid (minD zs (k + 1) = if zs[k].d < minD zs k then zs[k].d else minD zs k) := Lib.hid (by
          show (if (zs.getD k star0).d < minD zs k then (zs.getD k star0).d else minD zs k) = _
          rw [getD_at zs k hlt])
        generalize hmm : minD zs (k + 1) = m' at *
        have HM := Lib.hid hmm
        clear hmm
        generalize minD zs k = m at *
        generalize zs[k] = x at *
        obtain ⟨xs, xa, xb, xc, xd⟩ := x
        obtain ⟨c0, c1, c2, c3, c4⟩ := hat
        simp only at c0 c1 c2 c3 c4 MN
        have HB2 : Hid (Below w.heap.size w (wr.alloc (Obj.cells #[.string xs, .int .i64 xa, .int .i64 xb, .int .i64 xc, .int .i64 xd] 35))) := Lib.hid (HB.out.alloc HB.out.size _)
        by_cases hlo : xd < m
        · have hm : m' = xd := by rw [MN.out, if_pos hlo]
          have hm2 : (if m ≤ xd then m else xd) = xd := if_neg (by omega)
          have hm3 : (if xd < m then xd else m) = xd := if_pos hlo
          go_wp2_with fail
          go_roundg (zs.length + 1 - (k + 1))
          case measure => omega
          case rel => exact ⟨k + 1, by go_num, by first | (rw [HM.out, hm]; done) | (rw [HM.out, hm]; rfl) | (rw [HM.out, hm]; simp [hm2, hm3, hlo]) | (rw [HM.out, hm]; simp; omega), by omega, rfl, HB2⟩
        · have hm : m' = m := by rw [MN.out, if_neg hlo]
          have hm3 : (if xd < m then xd else m) = m := if_neg hlo
          go_wp2_with fail
          go_roundg (zs.length + 1 - (k + 1))
          case measure => omega
          case rel => exact ⟨k + 1, by go_num, by first | (rw [HM.out, hm]; done) | (rw [HM.out, hm]; rfl) | (rw [HM.out, hm]; simp [hm3, hlo]) | (rw [HM.out, hm]; simp; omega), by omega, rfl, HB2⟩
      · obtain rfl : k = zs.length := by omega
        have CL := Lib.hid (clone_any g cap zs wr hb (H1.out.below HB.out))
        generalize minD zs zs.length = m at *
        go_wp2_with fail
        refine CL.out.mono ?_
        rintro e w3 ⟨v3, rfl, ho3, hb3⟩
        have HB3 := Lib.hid (HB.out.trans (hb3.mono HB.out.size))
        have O3 := Lib.hid (ho3.le HB.out.size)
        clear ho3 hb3
        obtain ⟨a3, c3, hv3⟩ := sown_len0 O3.out
        subst hv3
        go_wp2_with fail
        go_loopg [27] (zs.length + 1) (fun kx s27 wr => ∃ i : Nat, s27 = .int .i64 (i : Int) ∧ i ≤ zs.length ∧ kx = zs.length + 1 - i ∧ Hid (SOwn wr w.heap.size (.slice a3 zs.length c3) (evL zs m i)) ∧ Hid (Below w.heap.size w wr))
        case atStart => exact ⟨0, rfl, Nat.zero_le _, rfl, Lib.hid (by rw [evL_zero]; exact O3.out), HB3⟩
        case round =>
          clear O3 HB3 HB CL
          obtain ⟨i, rfl, hi, rfl, HO, HB⟩ := hrel
          by_cases hlt : i < zs.length
          · have hform : ∃ a, a3 = some ⟨a, 0, none⟩ ∧ w.heap.size ≤ a := by
              rcases HO.out.forms with ⟨_, h0⟩ | ⟨a, c, h2, h3, h4⟩
              · have := evL_len zs m i hi
                rw [h0] at this
                simp at this
                omega
              · injection h2 with h2 _ _
                exact ⟨a, h2, h3⟩
            obtain ⟨a, rfl, ha⟩ := hform
            have i0 : (0 : Int) ≤ (i : Int) := by omega
            have i1 : (i : Int) < (zs.length : Int) := by omega
            have hel := evL_len zs m i hi
            have ho : SOwn wr w.heap.size (.slice (some ⟨a, 0, none⟩) (evL zs m i).length c3) (evL zs m i) := by rw [hel]; exact HO.out
            have hat := ho.at i (by rw [hel]; exact hlt)
            have d1 := hat.c4
            rw [evL_here zs m i hlt] at d1
            have fz := ho.freeE (i * 5 + 4)
            have PW := ho.pow i (by rw [hel]; exact hlt) m
            have e : pw ((evL zs m i)[i]'(by rw [hel]; exact hlt)) m = pw zs[i] m := by rw [evL_here zs m i hlt]
            rw [e, evL_set zs m i hlt, hel] at PW
            have HO2 := Lib.hid PW
            have HB2 : Hid (Below w.heap.size w (wr.setCell ⟨a, i * 5 + 4, none⟩ (.int .i64 m))) := Lib.hid (HB.out.setCell ha _)
            clear PW e hat ho hel HO
            go_wp2_with fail
            go_roundg (zs.length + 1 - (i + 1))
            case measure => omega
            case rel => exact ⟨i + 1, by go_num, by omega, rfl, HO2, HB2⟩
          · obtain rfl : i = zs.length := by omega
            have HO2 := HO.out
            rw [evL_all] at HO2
            have HO3 := Lib.hid HO2
            clear HO2 HO
            go_wp2_with fail
            go_returns
            exact ⟨_, by rw [HR.out]; rfl, by rw [HR.out]; exact HO3.out, HB.out⟩
end Go.Proofs.Ytlklcpnnaolbeaa
