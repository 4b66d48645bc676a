/-
  FastestOf (package impl).
-/
import Derived.Test.YtdbocpcijkngpaaTkP
namespace Go.Proofs.Ytdbocpcijkngpaa.Tk
open Go.RowKit
open Ky (V In Own Row At gk)
set_option linter.unusedVariables false

set_option maxRecDepth 100000 in
set_option maxHeartbeats 4000000 in
theorem implFast_any (s : ByteArray) (hs : s.size ≤ maxLen) (g cap : Nat) (zs : List V) (w : World) (hb : zs.length ≤ 1048577) (hcz : zs.length ≤ cap) (h1 : Row w g zs) :
    Calls Try.prog 46 #[.agg #[.string s, .slice (some ⟨g, 0, none⟩) zs.length cap]] w (N3Post (fastV s zs) w) := by
  obtain ⟨W0, hW0⟩ : ∃ W, W = w.alloc (Obj.cells #[Value.string s, Value.slice (some ⟨g, 0, none⟩) zs.length cap] 29) := ⟨_, rfl⟩
  have hB0 : Below w.heap.size w W0 := by rw [hW0]; exact (Below.refl _ _).alloc (Nat.le_refl _) _
  have T0 : TAt W0 w.heap.size s (.slice (some ⟨g, 0, none⟩) zs.length cap) := by rw [hW0]; exact TAt.new _ _ _ _
  have V := Lib.hid (implValid_any s hs g cap zs W0 hb (h1.below hB0))
  have RP := Lib.hid (fun (W : World) (hB : Below w.heap.size w W) k hk => Ky.Row.gk (h1.below hB) k hk)
  have HT0 := Lib.hid T0
  have HB0 := Lib.hid hB0
  obtain ⟨m0, m1⟩ := T0
  have HW := Lib.hid hW0
  clear h1 hs hB0 hW0
  cases ho : trackB s zs with
  | false =>
    have HOF := Lib.hid ho
    rw [ho] at V
    clear ho
    go_enter Try.func46, Try.ntmps46
    go_wp2_with fail
    rw [← HW.out]
    clear HW
    go_wp2_with fail
    refine V.out.mono ?_
    rintro e w1 ⟨rfl, hb1⟩
    clear m0 m1
    have HB1 := Lib.hid (HB0.out.trans (hb1.mono HB0.out.size))
    have HT1 := Lib.hid (HT0.out.below hb1)
    clear hb1
    go_wp2_with fail
    refine bodyPost_ret (v := .tuple #[.int .i64 0, .int .i64 0, .int .i64 1]) (by simp [results, Try.results46, go_sem]) rfl ⟨by unfold fastV; rw [if_neg (by rw [HOF.out]; simp)], HB1.out⟩
  | true =>
    have hT := trk_of ho
    have n1 := hT.n1
    have n24 := hT.n24
    have KI := Lib.hid hT.i
    have KS := Lib.hid hT.s
    have SB := Lib.hid (fun j hj => spd_bd hT j hj)
    have SE : Hid (∀ j, spd zs j = upQ (sz ((gk zs (j + 1)).f1 - (gk zs j).f1) * 1000) ((gk zs (j + 1)).f0 - (gk zs j).f0)) := Lib.hid (fun _ => rfl)
    obtain ⟨R, hR⟩ : ∃ R, R = fastV s zs := ⟨_, rfl⟩
    have HR1 : Hid (zs.length = 1 → R = (0, 0, 6)) := Lib.hid (fun h => by rw [hR]; unfold fastV; rw [if_pos ho, if_pos h])
    have HR2 : Hid (¬ zs.length = 1 → R = (((bsF (spd zs) (zs.length - 1)).1 : Int), (bsF (spd zs) (zs.length - 1)).2, 0)) := Lib.hid (fun h => by rw [hR]; unfold fastV; rw [if_pos ho, if_neg h])
    rw [← hR]
    rw [ho] at V
    clear ho hT hR
    obtain ⟨f, hf⟩ : ∃ f, f = spd zs := ⟨_, rfl⟩
    rw [← hf] at SB SE HR2
    clear hf
    have BI := Lib.hid (fun n hn hp => bsF_is f n hn hp)
    obtain ⟨i0, hi, hzz⟩ := Option.map_eq_some_iff.1 info_i64t
    simp only [Prod.mk.injEq] at hzz
    obtain ⟨hz0, hz1, hz2⟩ := hzz
    have HI0 := Lib.hid hi
    have HZ0 := Lib.hid hz0
    have HZ1 := Lib.hid hz1
    have HZ2 := Lib.hid hz2
    clear hi hz0 hz1 hz2
    go_enter Try.func46, Try.ntmps46
    go_wp2_with fail
    rw [← HW.out]
    clear HW
    go_wp2_with fail
    refine V.out.mono ?_
    rintro e w1 ⟨rfl, hb1⟩
    clear m0 m1
    have HB1 := Lib.hid (HB0.out.trans (hb1.mono HB0.out.size))
    have HT1 := Lib.hid (HT0.out.below hb1)
    clear hb1
    have hw1 := HT1.out.lt
    obtain ⟨m0, m1⟩ := HT1.out
    by_cases hl : zs.length = 1
    · have HR := Lib.hid (HR1.out hl)
      have l1 : ((zs.length : Int) == 1) = true := by rw [hl]; rfl
      have l2 : (zs.length : Int) = 1 := by omega
      clear hl HR2
      go_wp2_with fail
      refine bodyPost_ret (v := .tuple #[.int .i64 0, .int .i64 0, .int .i64 6]) (by simp [results, Try.results46, go_sem]) rfl ⟨by rw [HR.out], HB1.out⟩
    · have HR := Lib.hid (HR2.out hl)
      have l1 : ((zs.length : Int) == 1) = false := beq_eq_false_iff_ne.2 (by omega)
      have l2 : ¬ (zs.length : Int) = 1 := by omega
      have l3 : (1 : Int) ≤ (zs.length : Int) := by omega
      have l4 : 1 ≤ zs.length := n1
      have l5 : ¬ cap = 1 := by omega
      obtain ⟨nn, hnn⟩ : ∃ nn : Nat, nn = zs.length - 1 := ⟨_, rfl⟩
      have hn2 : zs.length = nn + 1 := by omega
      have HNN := Lib.hid hn2
      have hnn1 : 1 ≤ nn := by omega
      clear hl HR1 HR2
      rw [← hnn] at HR
      have hq : ((zs.length - 1 : Nat) : Int) = (nn : Int) := by omega
      clear hn2 hnn
      have hsz := HB1.out.size
      obtain ⟨W2, hW2⟩ : ∃ W, W = w1.alloc (Obj.cells #[] 2) := ⟨_, rfl⟩
      have ST : Hid (W2.ownsRow w.heap.size 2 1 (.slice (some ⟨w1.heap.size, 0, none⟩) 0 0) 0 ((List.range 0).map fun i => .int .i64 (f i))) := Lib.hid (by
        rw [hW2]
        exact World.ownsRow_lit (base := w.heap.size) (e := 2) (size := 1) w1 #[] 0 hsz (by decide) rfl)
      have HB2 : Hid (Below w.heap.size w W2) := Lib.hid (by rw [hW2]; exact HB1.out.alloc hsz _)
      have HT2 : Hid (TAt W2 w.heap.size s (.slice (some ⟨g, 0, none⟩) zs.length cap)) := Lib.hid (by rw [hW2]; exact HT1.out.below ((Below.refl _ _).alloc (Nat.le_refl _) _))
      have hs2 : W2.heap.size = w1.heap.size + 1 := by rw [hW2]; simp
      have HAD0 : Hid (∀ b, (Value.slice (some ⟨w1.heap.size, 0, none⟩) 0 0).ownBlock = some b → w.heap.size < b ∧ b < W2.heap.size) := Lib.hid (fun b hb => by
        simp only [Value.ownBlock] at hb
        injection hb with hb
        omega)
      have HW2 := Lib.hid hW2
      clear hW2 HT1 HB1
      obtain ⟨m0, m1⟩ := HT2.out
      go_wp2_with fail
      rw [← HW2.out]
      clear HW2
      go_wp2_with fail
      clear m0 m1
      go_loopg [5, 24] (zs.length + 1) (fun kx s5 s24 wr => ∃ (j m : Nat) (ad : Option Addr) (cap5 : Nat), s5 = .slice ad m cap5 ∧ s24 = .int .i64 (j : Int) ∧ Hid (m = j) ∧ j ≤ nn ∧ kx = zs.length + 1 - j ∧ Hid (wr.ownsRow w.heap.size 2 1 (.slice ad m cap5) j ((List.range j).map fun i => .int .i64 (f i))) ∧ Hid (Below w.heap.size w wr) ∧ Hid (TAt wr w.heap.size s (.slice (some ⟨g, 0, none⟩) zs.length cap)) ∧ w.heap.size < wr.heap.size ∧ Hid (∀ b, (Value.slice ad m cap5).ownBlock = some b → w.heap.size < b ∧ b < wr.heap.size))
      case atStart => exact ⟨0, 0, _, _, rfl, rfl, Lib.hid rfl, Nat.zero_le _, rfl, ST, HB2, HT2, HT2.out.lt, HAD0⟩
      case round =>
        obtain ⟨j, m, ad, cap5, rfl, rfl, HM, hj, rfl, HO, HB, HT, hwr, HAD⟩ := hrel
        obtain ⟨m0, m1⟩ := HT.out
        by_cases hlt : j < nn
        · have hltz : j + 1 < zs.length := by have := HNN.out; omega
          have j0 : (0 : Int) ≤ (j : Int) := by omega
          have j1 : (j : Int) < (zs.length : Int) := by omega
          have j2 : (j : Int) < (nn : Int) := by omega
          have nb : nn ≤ 24 := by have := HNN.out; omega
          obtain ⟨c0, c1⟩ := RP.out wr HB.out j (by omega)
          obtain ⟨d0, d1⟩ := RP.out wr HB.out (j + 1) hltz
          have d2 : wr.cell? ⟨g, 2 + j * 2, none⟩ = some (.int .i64 (gk zs (j + 1)).f0) := by rw [show 2 + j * 2 = (j + 1) * 2 by omega]; exact d0
          have d3 : wr.cell? ⟨g, 2 + j * 2 + 1, none⟩ = some (.int .i64 (gk zs (j + 1)).f1) := by rw [show 2 + j * 2 = (j + 1) * 2 by omega]; exact d1
          have k1 := KI.out j (by omega)
          have k2 := KI.out (j + 1) hltz
          have ks := KS.out j hltz
          have se := SE.out j
          generalize (gk zs j).f0 = x0 at *
          generalize (gk zs j).f1 = x1 at *
          generalize (gk zs (j + 1)).f0 = y0 at *
          generalize (gk zs (j + 1)).f1 = y1 at *
          have s0 := sz_nonneg (y1 - x1)
          have s1 := sz_le (y1 - x1) 2000000 (by omega) (by omega)
          have CT := Lib.hid (fun w => changeTo_any x0 x1 y0 y1 k1.2 k2.2 w)
          have w2 : IntKind.i64.wrap (y0 - x0) = y0 - x0 := IntWalk.i64_in _ (by omega)
          obtain ⟨z, hz⟩ : ∃ z, z = sz (y1 - x1) := ⟨_, rfl⟩
          rw [← hz] at CT s0 s1 se
          clear hz
          have UU := Lib.hid (fun w => quotientUp_any (z * 1000) (y0 - x0) w (by omega) (by omega) (by omega) (by omega))
          rw [← se] at UU
          clear se k1 k2 ks
          obtain ⟨v, hv⟩ : ∃ v, v = f j := ⟨_, rfl⟩
          rw [← hv] at UU
          have HV := Lib.hid hv
          clear hv
          have HBW : Hid (Below w.heap.size w ((wr.alloc (Obj.cells #[.int .i64 y0, .int .i64 y1] 48)).alloc (Obj.cells #[.int .i64 x0, .int .i64 x1] 48))) := Lib.hid ((HB.out.alloc HB.out.size _).alloc (by have := HB.out.size; simp; omega) _)
          have hgl : g < wr.heap.size := World.block_lt_of_cell? wr ⟨g, j * 2, none⟩ c0
          have c0a : (wr.alloc (Obj.cells #[.int .i64 y0, .int .i64 y1] 48)).cell? ⟨g, j * 2, none⟩ = some (.int .i64 x0) := (((Below.refl _ wr).alloc (Nat.le_refl _) _).cell (p := ⟨g, j * 2, none⟩) hgl).trans c0
          have c1a : (wr.alloc (Obj.cells #[.int .i64 y0, .int .i64 y1] 48)).cell? ⟨g, j * 2 + 1, none⟩ = some (.int .i64 x1) := (((Below.refl _ wr).alloc (Nat.le_refl _) _).cell (p := ⟨g, j * 2 + 1, none⟩) hgl).trans c1
          obtain ⟨WS, hWS⟩ : ∃ W, W = (wr.alloc (Obj.cells #[.int .i64 y0, .int .i64 y1] 48)).alloc (Obj.cells #[.int .i64 x0, .int .i64 x1] 48) := ⟨_, rfl⟩
          have hBS : Below wr.heap.size wr WS := by rw [hWS]; exact ((Below.refl _ _).alloc (Nat.le_refl _) _).alloc (by simp) _
          have hsS : WS.heap.size = wr.heap.size + 2 := by rw [hWS]; simp
          have e0 : WS.cell? ⟨wr.heap.size, 0, none⟩ = some (.int .i64 y0) := by rw [hWS, World.cell?_alloc_lt _ _ _ (by simp)]; simp
          have e1 : WS.cell? ⟨wr.heap.size, 1, none⟩ = some (.int .i64 y1) := by rw [hWS, World.cell?_alloc_lt _ _ _ (by simp)]; simp
          have e2 : WS.cell? ⟨wr.heap.size + 1, 0, none⟩ = some (.int .i64 x0) := by rw [hWS]; first | (simp; done) | (rw [World.cell?_alloc_at _ _ _ _ (by simp)]; rfl)
          have e3 : WS.cell? ⟨wr.heap.size + 1, 1, none⟩ = some (.int .i64 x1) := by rw [hWS]; first | (simp; done) | (rw [World.cell?_alloc_at _ _ _ _ (by simp)]; rfl)
          have KC : Hid (WS.cell? ⟨wr.heap.size, 0, none⟩ = some (.int .i64 y0) ∧ WS.cell? ⟨wr.heap.size, 1, none⟩ = some (.int .i64 y1) ∧ WS.cell? ⟨wr.heap.size + 1, 0, none⟩ = some (.int .i64 x0) ∧ WS.cell? ⟨wr.heap.size + 1, 1, none⟩ = some (.int .i64 x1) ∧ Below w.heap.size w WS) := Lib.hid ⟨e0, e1, e2, e3, HB.out.trans (hBS.mono HB.out.size)⟩
          rw [← hWS] at HBW
          have HOS := Lib.hid (World.ownsRow.kept HO.out (⟨hBS.os, hBS.tape, hBS.output, hBS.size, fun k hk _ => hBS.block k hk⟩ : wr.grownBy WS none) (by cases hv : (Value.slice ad m cap5).ownBlock <;> simp))
          have HTS := Lib.hid (HT.out.below hBS)
          have HBSH := Lib.hid hBS
          have HWE := Lib.hid hWS
          clear hWS hBS e0 e1 e2 e3
          go_wp2_with fail
          rw [← HWE.out]
          clear HWE m0 m1 c0 c1 d0 d1 c0a c1a d2 d3
          refine wp_region_held_drew (S := fun W => W.cell? ⟨wr.heap.size, 0, none⟩ = some (.int .i64 y0) ∧ W.cell? ⟨wr.heap.size, 1, none⟩ = some (.int .i64 y1) ∧ W.cell? ⟨wr.heap.size + 1, 0, none⟩ = some (.int .i64 x0) ∧ W.cell? ⟨wr.heap.size + 1, 1, none⟩ = some (.int .i64 x1) ∧ Below w.heap.size w W) (by kernel_rfl) ?_ (fun hHeld => ?_)
          · exact keepW4 KC.out (drewG WS)
          refine wpAnyH_take (i := 0) rfl (by kernel_rfl) (by kernel_rfl) (by kernel_rfl) (fun _ _ _ h => h) (Or.inl ⟨by kernel_rfl, fun w hSw => by (try dsimp only at hSw); (try obtain ⟨s0, s1, s2, s3, s4⟩ := hSw); go_simp; (try with_reducible rfl)⟩) hHeld ?_
          try simp only [List.getElem_toArray, List.getElem_cons_zero, List.getElem_cons_succ, Act.put, List.setIfInBounds_toArray, List.set_cons_zero, List.set_cons_succ]
          refine wpAnyH_take (i := 1) rfl (by kernel_rfl) (by kernel_rfl) (by kernel_rfl) (fun _ _ _ h => h) (Or.inl ⟨by kernel_rfl, fun w hSw => by (try dsimp only at hSw); (try obtain ⟨s0, s1, s2, s3, s4⟩ := hSw); go_simp; (try with_reducible rfl)⟩) hHeld ?_
          try simp only [List.getElem_toArray, List.getElem_cons_zero, List.getElem_cons_succ, Act.put, List.setIfInBounds_toArray, List.set_cons_zero, List.set_cons_succ]
          refine wpAnyH_take (i := 2) rfl (by kernel_rfl) (by kernel_rfl) (by kernel_rfl) (fun _ _ _ h => h) (Or.inl ⟨by kernel_rfl, fun w hSw => by (try dsimp only at hSw); (try obtain ⟨s0, s1, s2, s3, s4⟩ := hSw); go_simp; (try with_reducible rfl)⟩) hHeld ?_
          try simp only [List.getElem_toArray, List.getElem_cons_zero, List.getElem_cons_succ, Act.put, List.setIfInBounds_toArray, List.set_cons_zero, List.set_cons_succ]
          refine wpAnyH_take (i := 4) rfl (by kernel_rfl) (by kernel_rfl) (by kernel_rfl) (fun _ _ _ h => h) (Or.inl ⟨by kernel_rfl, fun w hSw => by (try dsimp only at hSw); (try obtain ⟨s0, s1, s2, s3, s4⟩ := hSw); go_simp; (try with_reducible rfl)⟩) hHeld ?_
          try simp only [List.getElem_toArray, List.getElem_cons_zero, List.getElem_cons_succ, Act.put, List.setIfInBounds_toArray, List.set_cons_zero, List.set_cons_succ]
          refine wpAnyH_take (i := 5) rfl (by kernel_rfl) (by kernel_rfl) (by kernel_rfl) (fun _ _ _ h => h) (Or.inl ⟨by kernel_rfl, fun w hSw => by (try dsimp only at hSw); (try obtain ⟨s0, s1, s2, s3, s4⟩ := hSw); go_simp; (try with_reducible rfl)⟩) hHeld ?_
          try simp only [List.getElem_toArray, List.getElem_cons_zero, List.getElem_cons_succ, Act.put, List.setIfInBounds_toArray, List.set_cons_zero, List.set_cons_succ]
          refine wpAnyH_take (i := 6) rfl (by kernel_rfl) (by kernel_rfl) (by kernel_rfl) (fun _ _ _ h => h) (Or.inl ⟨by kernel_rfl, fun w hSw => by (try dsimp only at hSw); (try obtain ⟨s0, s1, s2, s3, s4⟩ := hSw); go_simp; (try with_reducible rfl)⟩) hHeld ?_
          try simp only [List.getElem_toArray, List.getElem_cons_zero, List.getElem_cons_succ, Act.put, List.setIfInBounds_toArray, List.set_cons_zero, List.set_cons_succ]
          refine wpAnyH_take (i := 7) rfl (by kernel_rfl) (by kernel_rfl) (by kernel_rfl) (fun _ _ _ h => h) (Or.inl ⟨by kernel_rfl, fun w hSw => by (try dsimp only at hSw); (try obtain ⟨s0, s1, s2, s3, s4⟩ := hSw); go_simp; (try with_reducible rfl)⟩) hHeld ?_
          try simp only [List.getElem_toArray, List.getElem_cons_zero, List.getElem_cons_succ, Act.put, List.setIfInBounds_toArray, List.set_cons_zero, List.set_cons_succ]
          refine wpAnyH_take (i := 8) rfl (by kernel_rfl) (by kernel_rfl) (by kernel_rfl) (fun _ _ _ h => h) (Or.inl ⟨by kernel_rfl, fun w hSw => by (try dsimp only at hSw); (try obtain ⟨s0, s1, s2, s3, s4⟩ := hSw); go_simp; (try with_reducible rfl)⟩) hHeld ?_
          try simp only [List.getElem_toArray, List.getElem_cons_zero, List.getElem_cons_succ, Act.put, List.setIfInBounds_toArray, List.set_cons_zero, List.set_cons_succ]
          refine wpAnyH_ready (rs := [3]) (by kernel_rfl) (by simp) ?_
          refine AllReadyH.cons rfl (fun KK hK => ?_) AllReadyH.nil
          go_simp
          first | go_at_call 88 | skip
          refine (CT.out _).mono ?_
          rintro e w5 ⟨rfl, hb5⟩
          have hb6 := undrewG hb5
          refine hK.out _ _ ?_ (fun hH2 => ?_)
          · exact keepW4 KC.out hb6
          clear hK KK hHeld hb5
          try simp only [List.getElem_toArray, List.getElem_cons_zero, List.getElem_cons_succ, Act.put, List.setIfInBounds_toArray, List.set_cons_zero, List.set_cons_succ]
          refine wpAnyH_ready (rs := [9]) (by kernel_rfl) (by simp) ?_
          refine AllReadyH.cons rfl (fun KK hK => ?_) AllReadyH.nil
          go_simp
          first | go_at_call 87 | skip
          refine (UU.out _).mono ?_
          rintro e w6 ⟨rfl, rfl⟩
          refine hK.out _ _ hH2 (fun hH3 => ?_)
          clear hK KK hH2
          try simp only [List.getElem_toArray, List.getElem_cons_zero, List.getElem_cons_succ, Act.put, List.setIfInBounds_toArray, List.set_cons_zero, List.set_cons_succ]
          refine wpAnyH_ready (rs := [10]) (by kernel_rfl) (by simp) ?_
          refine AllReadyH.cons rfl (fun KK hK => ?_) AllReadyH.nil
          go_simp
          have hb7 : Below WS.heap.size WS (w5.alloc (Obj.cells #[.int .i64 v] 2)) := hb6.alloc hb6.size _
          refine hK.out _ _ ?_ (fun hH4 => ?_)
          · exact keepW4 KC.out hb7
          clear hK KK hH3
          try simp only [List.getElem_toArray, List.getElem_cons_zero, List.getElem_cons_succ, Act.put, List.setIfInBounds_toArray, List.set_cons_zero, List.set_cons_succ]
          refine wpAnyH_ready (rs := [11]) (by kernel_rfl) (by simp) ?_
          refine AllReadyH.cons rfl (fun KK hK => ?_) AllReadyH.nil
          have hO7 := World.ownsRow.kept HOS.out (⟨hb7.os, hb7.tape, hb7.output, hb7.size, fun k hk _ => hb7.block k hk⟩ : WS.grownBy (w5.alloc (Obj.cells #[.int .i64 v] 2)) none) (by cases hv : (Value.slice ad m cap5).ownBlock <;> simp)
          rw [← HM.out] at hO7
          have hB7 : Below w.heap.size w (w5.alloc (Obj.cells #[.int .i64 v] 2)) := HBW.out.trans (hb7.mono HBW.out.size)
          have hsz5 := hb6.size
          refine step_append_lies _ (by rfl) _ _ _ (by rfl) w.heap.size 2 i0 (.int .i64 0) 1 8 Try.underlying59 HI0.out HZ0.out HZ1.out HZ2.out rfl (by decide) _ m _ (by rfl) hO7 ⟨w5.heap.size, 0, none⟩ 1 1 [.int .i64 v] (by rfl) (by rfl) (one_cellI w5 _ v) (one_plainI v) (by omega) (by have := HM.out; unfold maxLen; omega) (by have := HM.out; omega) (by have := hB7.size; exact this) (w5.heap.size + 1) (by simp) ?_
          intro gg cap7 w8 hown' hgrow hlies hlt'
          have hB8 : Below w.heap.size w w8 := hB7.grown hgrow hB7.size (fun k hk => (hO7.lt k hk).1)
          have hne : ∀ b, WS.heap.size - 2 ≤ b → some b ≠ (Value.slice ad m cap5).ownBlock := fun b hb e => by
            have := (HAD.out _ e.symm).2
            omega
          have k7 := keepW4 KC.out hb7
          have hlt0 : wr.heap.size < (w5.alloc (Obj.cells #[.int .i64 v] 2)).heap.size := by have := hb7.size; omega
          have hlt1 : wr.heap.size + 1 < (w5.alloc (Obj.cells #[.int .i64 v] 2)).heap.size := by have := hb7.size; omega
          refine hK.out _ _ ?_ (fun hH5 => ?_)
          · exact ⟨(hgrow.cell_far ⟨wr.heap.size, 0, none⟩ hlt0 (hne wr.heap.size (by omega))).trans k7.1, (hgrow.cell_far ⟨wr.heap.size, 1, none⟩ hlt0 (hne wr.heap.size (by omega))).trans k7.2.1, (hgrow.cell_far ⟨wr.heap.size + 1, 0, none⟩ hlt1 (hne (wr.heap.size + 1) (by omega))).trans k7.2.2.1, (hgrow.cell_far ⟨wr.heap.size + 1, 1, none⟩ hlt1 (hne (wr.heap.size + 1) (by omega))).trans k7.2.2.2.1, hB8⟩
          clear hK KK hH4
          try simp only [List.getElem_toArray, List.getElem_cons_zero, List.getElem_cons_succ, Act.put, List.setIfInBounds_toArray, List.set_cons_zero, List.set_cons_succ]
          refine wpAnyH_take (i := 12) rfl (by kernel_rfl) (by kernel_rfl) (by kernel_rfl) (fun _ _ _ h => h) (Or.inl ⟨by kernel_rfl, fun w hSw => by (try dsimp only at hSw); (try obtain ⟨s0, s1, s2, s3, s4⟩ := hSw); go_simp; (try with_reducible rfl)⟩) hH5 ?_
          try simp only [List.getElem_toArray, List.getElem_cons_zero, List.getElem_cons_succ, Act.put, List.setIfInBounds_toArray, List.set_cons_zero, List.set_cons_succ]
          refine wpAnyH_done (by kernel_rfl) ?_ _
          have HB8 := Lib.hid hB8
          have HT8 : Hid (TAt w8 w.heap.size s (.slice (some ⟨g, 0, none⟩) zs.length cap)) := Lib.hid (by
            have t1 := HTS.out.below hb7
            have hn : some w.heap.size ≠ (Value.slice ad m cap5).ownBlock := fun e => by
              have := (HAD.out _ e.symm).1
              omega
            exact ⟨(hgrow.cell_far ⟨w.heap.size, 0, none⟩ t1.lt hn).trans t1.c0, (hgrow.cell_far ⟨w.heap.size, 1, none⟩ t1.lt hn).trans t1.c1⟩)
          have hl2 : m + 1 = j + 1 := by have := HM.out; omega
          have O8 : Hid (w8.ownsRow w.heap.size 2 1 (.slice (some ⟨gg, 0, none⟩) (m + 1) cap7) (j + 1) ((List.range (j + 1)).map fun i => .int .i64 (f i))) := Lib.hid (by
            have h := hown'
            rw [HM.out] at h ⊢
            rw [List.range_succ, List.map_append, show ([j].map fun i => Value.int .i64 (f i)) = [Value.int .i64 v] by rw [List.map_cons, List.map_nil, HV.out]]
            exact h)
          have HAD8 : Hid (∀ b, (Value.slice (some ⟨gg, 0, none⟩) (m + 1) cap7).ownBlock = some b → w.heap.size < b ∧ b < w8.heap.size) := Lib.hid (fun b hb => by
            simp only [Value.ownBlock] at hb
            injection hb with hb
            refine ⟨?_, by omega⟩
            rcases hlies with e | e
            · have := (HAD.out _ e).1
              omega
            · omega)
          have hw8 : w.heap.size < w8.heap.size := HT8.out.lt
          have HM2 : Hid (m + 1 = j + 1) := Lib.hid hl2
          clear hH5 hO7 hown' hgrow hlies hB7 hB8 hne k7 hl2 hb6 hb7 KC
          go_wp2_with fail
          go_roundg (zs.length + 1 - (j + 1))
          case measure => omega
          case rel => exact ⟨j + 1, m + 1, _, _, rfl, by go_num, HM2, by omega, by omega, O8, HB8, HT8, hw8, HAD8⟩
        · have hjn : j = nn := by omega
          subst hjn
          have hmj := HM.out
          subst hmj
          obtain ⟨p, hp⟩ : ∃ p, p = bsF f m := ⟨_, rfl⟩
          have BIm := BI.out m hnn1 (fun i hi => (SB.out i (by have := HNN.out; omega)).1)
          rw [← hp] at BIm
          have hO := HO.out
          obtain ⟨gg, rfl⟩ : ∃ gg, ad = some ⟨gg, 0, none⟩ := by
            rcases hO.2 with ⟨e, h0⟩ | ⟨g', cap', cur, hv, _⟩
            · exfalso
              omega
            · injection hv with e1 _ _
              exact ⟨g', e1⟩
          have hcl : ∀ i, i < m → wr.cell? ⟨gg, i, none⟩ = some (.int .i64 (f i)) := fun i hi => by
            have h := World.ownsRow.cells hO (g := gg) rfl i (.int .i64 (f i)) (by rw [List.getElem?_map, List.getElem?_range hi]; rfl)
            rw [add_pl, Nat.zero_add] at h
            exact h
          have nb : m ≤ 24 := by have := HNN.out; omega
          have MX := Lib.hid (fun h => maxI_any gg cap5 m f wr hnn1 (by omega) h hcl)
          have MX2 := Lib.hid (MX.out (fun i hi => (SB.out i (by have := HNN.out; omega)).1))
          rw [← hp] at MX2
          have IX := Lib.hid (indexI_any gg cap5 m p.1 p.2 f wr (by omega) BIm.1 BIm.2.1 BIm.2.2 hcl)
          have HRE : Hid (R = ((p.1 : Int), p.2, 0)) := Lib.hid (by rw [HR.out, hp])
          clear hp MX hcl hO BIm
          have j2 : ¬ (m : Int) < (m : Int) := by omega
          obtain ⟨p1, p2⟩ := p
          simp only at MX2 IX HRE
          go_wp2_with fail
          refine (MX2.out).mono ?_
          rintro e w' ⟨rfl, rfl⟩
          go_wp2_with fail
          refine (IX.out).mono ?_
          rintro e w' ⟨rfl, rfl⟩
          go_wp2_with fail
          refine bodyPost_ret (v := .tuple #[.int .i64 (p1 : Int), .int .i64 p2, .int .i64 0]) (by simp [results, Try.results46, go_sem]) rfl ⟨by rw [HRE.out], HB.out⟩
end Go.Proofs.Ytdbocpcijkngpaa.Tk
