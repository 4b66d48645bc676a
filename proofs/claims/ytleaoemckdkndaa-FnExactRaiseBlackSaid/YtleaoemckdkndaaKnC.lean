/-
  ValidCurve (packages impl and spec).
-/
import Derived.Test.YtleaoemckdkndaaKnV
import Derived.Test.YtleaoemckdkndaaKnR
import Derived.StillTailTactics
import Derived.Deep.LoopGhost
import Derived.Handy
namespace Go.Proofs.Ytleaoemckdkndaa.Kn
open Go.RowKit
set_option linter.unusedVariables false

set_option maxRecDepth 100000 in
set_option maxHeartbeats 4000000 in
theorem implCurve_any (g cap : Nat) (zs : List V) (w : World) (hb : zs.length ≤ 1048577) (h1 : Row w g zs) :
    Calls Try.prog 29 #[.slice (some ⟨g, 0, none⟩) zs.length cap] w fun e w' => e = .returned (.bool (curveB zs)) ∧ Below w.heap.size w w' := by
  have H1 := Lib.hid h1
  have hlg := h1.lt
  have RP := Lib.hid (fun (W : World) (hW : Row W g zs) k hk => Row.gk hW k hk)
  have WI := Lib.hid (fun b cap W (hc : W.cell? ⟨b, 0, none⟩ = some (.int .i64 (zs.length : Int))) => withinInt 2 16 b 0 1 cap [(zs.length : Int)] W rfl (by omega) (fun j hj => by
    have : j = 0 := by simpa using hj
    subst this
    exact hc))
  have SN := Lib.hid (allK_next (stepI zs))
  have SS := Lib.hid (fun j (hj : j < zs.length) (h : stepI zs j = false) => allK_stop j hj h)
  clear h1
  unfold curveB headB
  cases hn : inR 2 16 [(zs.length : Int)] with
  | false =>
    rw [hn] at WI
    rw [Bool.false_and, Bool.false_and]
    clear hn RP SN SS
    go_enter Try.func29, Try.ntmps29
    go_wp2_with fail
    refine (WI.out _ _ _ (by simp)).mono ?_
    rintro e w' ⟨rfl, rfl⟩
    go_wp2_with fail
    go_ret
    refine ⟨rfl, ?_⟩
    repeat (first | exact Below.refl _ _ | refine Below.setCell ?_ (by first | (simp; done) | omega | (simp; omega)) _ | refine Below.alloc ?_ (by first | (simp; done) | omega | (simp; omega)) _ | refine bel_drew ?_)
  | true =>
    rw [hn] at WI
    rw [Bool.true_and]
    rw [inR_1] at hn
    obtain ⟨c0, d0⟩ := RP.out w H1.out 0 (by omega)
    obtain ⟨c1, d1⟩ := RP.out w H1.out (zs.length - 1) (by omega)
    have ek : (zs.length : Int) - 1 = ((zs.length - 1 : Nat) : Int) := by omega
    have k1 : zs.length - 1 < zs.length := by omega
    have HN := Lib.hid hn
    have l0 : (0 : Int) < (zs.length : Int) := by omega
    have l1 : (((zs.length - 1 : Nat) : Int)) < (zs.length : Int) := by omega
    generalize (gk zs 0).f0 = x0 at *
    generalize (gk zs (zs.length - 1)).f0 = x1 at *
    clear d0 d1
    by_cases hz : x0 = 0
    · subst hz
      rw [show decide ((0 : Int) = 0) = true by simp, Bool.true_and]
      by_cases hl : x1 = 1000
      · subst hl
        rw [show decide ((1000 : Int) = 1000) = true by simp, Bool.true_and]
        have AL : Hid (∀ b, allK (stepI zs) zs.length = b → b = allK (stepI zs) zs.length) := Lib.hid (fun b h => h.symm)
        generalize hr : allK (stepI zs) zs.length = r at *
        have HR := Lib.hid hr
        clear hr AL
        go_enter Try.func29, Try.ntmps29
        go_wp2_with fail
        refine (WI.out _ _ _ (by simp)).mono ?_
        rintro e w' ⟨rfl, rfl⟩
        go_wp2_with fail
        have HB0 : Hid (Below w.heap.size w (w.alloc (Obj.cells #[Value.int IntKind.i64 (zs.length : Int)] 3))) := Lib.hid ((Below.refl _ _).alloc (Nat.le_refl _) _)
        clear c0 c1 ek k1 l0 l1
        go_loopg [29] (zs.length + 1) (fun kx s29 wr => ∃ j : Nat, s29 = .int .i64 (j : Int) ∧ j ≤ zs.length ∧ kx = zs.length + 1 - j ∧ Hid (allK (stepI zs) j = true) ∧ Hid (Below w.heap.size w wr))
        case atStart => exact ⟨0, rfl, Nat.zero_le _, rfl, Lib.hid rfl, HB0⟩
        case round =>
          obtain ⟨j, rfl, hj, rfl, HO, HB⟩ := hrel
          by_cases hlt : j < zs.length
          · obtain ⟨c0, c1⟩ := RP.out wr (H1.out.below HB.out) j hlt
            have SJ := stepI_at zs j
            have HSS := Lib.hid (SS.out j hlt)
            have HSN := Lib.hid (SN.out j)
            have HP : Hid (0 < j → At wr g ((j - 1) * 2) (gk zs (j - 1))) := Lib.hid (fun h => RP.out wr (H1.out.below HB.out) (j - 1) (by omega))
            have FB : folB zs j = (decide (j = 0) || bfB (gk zs (j - 1)).f0 (gk zs (j - 1)).f1 (gk zs j).f0 (gk zs j).f1) := rfl
            rw [FB] at SJ
            generalize (gk zs j).f0 = y0 at *
            generalize (gk zs j).f1 = y1 at *
            have L := Lib.hid (fun b cap w hc hc' => areLevels2_any y0 y1 b cap w hc hc')
            have j0 : (0 : Int) ≤ (j : Int) := by omega
            have j1 : (j : Int) < (zs.length : Int) := by omega
            have HB1 : Hid (Below w.heap.size w (wr.alloc (Obj.cells #[.int .i64 y0, .int .i64 y1] 91))) := Lib.hid (HB.out.alloc HB.out.size _)
            cases hv : inR 0 1000 [y0, y1] with
            | false =>
              rw [hv] at L SJ
              rw [Bool.false_and] at SJ
              have HX := Lib.hid (HSS.out SJ)
              clear SJ HSS HSN hv FB HP
              go_wp2_with fail
              obtain ⟨W1, hW1⟩ : ∃ W, W = wr.alloc (Obj.cells #[Value.int .i64 y0, Value.int .i64 y1] 91) := ⟨_, rfl⟩
              rw [← hW1]
              have q0 : W1.cell? ⟨wr.heap.size, 0, none⟩ = some (.int .i64 y0) := by rw [hW1]; simp
              have q1 : W1.cell? ⟨wr.heap.size, 1, none⟩ = some (.int .i64 y1) := by rw [hW1]; simp
              rw [← hW1] at HB1
              clear hW1 c0 c1
              have KW : Hid (W1.cell? ⟨wr.heap.size, 0, none⟩ = some (.int .i64 y0) ∧ W1.cell? ⟨wr.heap.size, 1, none⟩ = some (.int .i64 y1) ∧ Below w.heap.size w W1) := Lib.hid ⟨q0, q1, HB1.out⟩
              clear q0 q1
              refine wp_region_held_drew (S := fun W => W.cell? ⟨wr.heap.size, 0, none⟩ = some (.int .i64 y0) ∧ W.cell? ⟨wr.heap.size, 1, none⟩ = some (.int .i64 y1) ∧ Below w.heap.size w W) (by kernel_rfl) ?_ (fun hHeld => ?_)
              · exact keepW2 KW.out (drewG W1)
              refine wpAnyH_take (i := 0) rfl (by kernel_rfl) (by kernel_rfl) (by kernel_rfl) (fun _ _ _ h => h) (Or.inl ⟨by kernel_rfl, fun w hSw => by (try dsimp only at hSw); go_simp; (try with_reducible rfl)⟩) hHeld ?_
              try simp only [List.getElem_toArray, List.getElem_cons_zero, List.getElem_cons_succ, Act.put, List.setIfInBounds_toArray, List.set_cons_zero, List.set_cons_succ]
              refine wpAnyH_take (i := 1) rfl (by kernel_rfl) (by kernel_rfl) (by kernel_rfl) (fun _ _ _ h => h) (Or.inl ⟨by kernel_rfl, fun w hSw => by (try dsimp only at hSw); go_simp; (try with_reducible rfl)⟩) hHeld ?_
              try simp only [List.getElem_toArray, List.getElem_cons_zero, List.getElem_cons_succ, Act.put, List.setIfInBounds_toArray, List.set_cons_zero, List.set_cons_succ]
              refine wpAnyH_take (i := 2) rfl (by kernel_rfl) (by kernel_rfl) (by kernel_rfl) (fun _ _ _ h => h) (Or.inl ⟨by kernel_rfl, fun w hSw => by (try dsimp only at hSw); go_simp; (try with_reducible rfl)⟩) hHeld ?_
              try simp only [List.getElem_toArray, List.getElem_cons_zero, List.getElem_cons_succ, Act.put, List.setIfInBounds_toArray, List.set_cons_zero, List.set_cons_succ]
              refine wpAnyH_take (i := 3) rfl (by kernel_rfl) (by kernel_rfl) (by kernel_rfl) (fun _ _ _ h => h) (Or.inl ⟨by kernel_rfl, fun w hSw => by (try dsimp only at hSw); go_simp; (try with_reducible rfl)⟩) hHeld ?_
              try simp only [List.getElem_toArray, List.getElem_cons_zero, List.getElem_cons_succ, Act.put, List.setIfInBounds_toArray, List.set_cons_zero, List.set_cons_succ]
              refine wpAnyH_ready (rs := [4]) (by kernel_rfl) (by simp) ?_
              refine AllReadyH.cons rfl (fun KK hK => ?_) AllReadyH.nil
              go_simp
              refine hK.out _ _ ?_ (fun hHeld2 => ?_)
              · first | exact keepW2 KW.out (alKD W1 _) | exact keepW2 KW.out ((drewG W1).alloc (Nat.le_refl _) _)
              clear hK KK hHeld
              try simp only [List.getElem_toArray, List.getElem_cons_zero, List.getElem_cons_succ, Act.put, List.setIfInBounds_toArray, List.set_cons_zero, List.set_cons_succ]
              refine wpAnyH_ready (rs := [5]) (by kernel_rfl) (by simp) ?_
              refine AllReadyH.cons rfl (fun KK hK => ?_) AllReadyH.nil
              go_simp
              first | go_at_call 81 | skip
              refine (L.out _ _ _ (by simp) (by simp)).mono ?_
              rintro e z1 ⟨rfl, rfl⟩
              refine hK.out _ _ hHeld2 (fun hHeld3 => ?_)
              clear hK KK hHeld2
              try simp only [List.getElem_toArray, List.getElem_cons_zero, List.getElem_cons_succ, Act.put, List.setIfInBounds_toArray, List.set_cons_zero, List.set_cons_succ]
              refine wpAnyH_take (i := 6) rfl (by kernel_rfl) (by kernel_rfl) (by kernel_rfl) (fun _ _ _ h => h) (Or.inl ⟨by kernel_rfl, fun w hSw => by (try dsimp only at hSw); go_simp; (try with_reducible rfl)⟩) hHeld3 ?_
              try simp only [List.getElem_toArray, List.getElem_cons_zero, List.getElem_cons_succ, Act.put, List.setIfInBounds_toArray, List.set_cons_zero, List.set_cons_succ]
              refine wpAnyH_take (i := 7) rfl (by kernel_rfl) (by kernel_rfl) (by kernel_rfl) (fun _ _ _ h => h) (Or.inl ⟨by kernel_rfl, fun w hSw => by (try dsimp only at hSw); go_simp; (try with_reducible rfl)⟩) hHeld3 ?_
              try simp only [List.getElem_toArray, List.getElem_cons_zero, List.getElem_cons_succ, Act.put, List.setIfInBounds_toArray, List.set_cons_zero, List.set_cons_succ]
              refine wpAnyH_take (i := 8) rfl (by kernel_rfl) (by kernel_rfl) (by kernel_rfl) (fun _ _ _ h => h) (Or.inr ⟨by kernel_rfl, rfl⟩) hHeld3 ?_
              try simp only [List.getElem_toArray, List.getElem_cons_zero, List.getElem_cons_succ, Act.put, List.setIfInBounds_toArray, List.set_cons_zero, List.set_cons_succ]
              refine wpAnyH_take (i := 9) rfl (by kernel_rfl) (by kernel_rfl) (by kernel_rfl) (fun _ _ _ h => h) (Or.inr ⟨by kernel_rfl, rfl⟩) hHeld3 ?_
              try simp only [List.getElem_toArray, List.getElem_cons_zero, List.getElem_cons_succ, Act.put, List.setIfInBounds_toArray, List.set_cons_zero, List.set_cons_succ]
              refine wpAnyH_take (i := 10) rfl (by kernel_rfl) (by kernel_rfl) (by kernel_rfl) (fun _ _ _ h => h) (Or.inr ⟨by kernel_rfl, rfl⟩) hHeld3 ?_
              try simp only [List.getElem_toArray, List.getElem_cons_zero, List.getElem_cons_succ, Act.put, List.setIfInBounds_toArray, List.set_cons_zero, List.set_cons_succ]
              refine wpAnyH_take (i := 11) rfl (by kernel_rfl) (by kernel_rfl) (by kernel_rfl) (fun _ _ _ h => h) (Or.inr ⟨by kernel_rfl, rfl⟩) hHeld3 ?_
              try simp only [List.getElem_toArray, List.getElem_cons_zero, List.getElem_cons_succ, Act.put, List.setIfInBounds_toArray, List.set_cons_zero, List.set_cons_succ]
              refine wpAnyH_take (i := 12) rfl (by kernel_rfl) (by kernel_rfl) (by kernel_rfl) (fun _ _ _ h => h) (Or.inr ⟨by kernel_rfl, rfl⟩) hHeld3 ?_
              try simp only [List.getElem_toArray, List.getElem_cons_zero, List.getElem_cons_succ, Act.put, List.setIfInBounds_toArray, List.set_cons_zero, List.set_cons_succ]
              refine wpAnyH_take (i := 13) rfl (by kernel_rfl) (by kernel_rfl) (by kernel_rfl) (fun _ _ _ h => h) (Or.inr ⟨by kernel_rfl, rfl⟩) hHeld3 ?_
              try simp only [List.getElem_toArray, List.getElem_cons_zero, List.getElem_cons_succ, Act.put, List.setIfInBounds_toArray, List.set_cons_zero, List.set_cons_succ]
              refine wpAnyH_take (i := 14) rfl (by kernel_rfl) (by kernel_rfl) (by kernel_rfl) (fun _ _ _ h => h) (Or.inr ⟨by kernel_rfl, rfl⟩) hHeld3 ?_
              try simp only [List.getElem_toArray, List.getElem_cons_zero, List.getElem_cons_succ, Act.put, List.setIfInBounds_toArray, List.set_cons_zero, List.set_cons_succ]
              refine wpAnyH_take (i := 15) rfl (by kernel_rfl) (by kernel_rfl) (by kernel_rfl) (fun _ _ _ h => h) (Or.inr ⟨by kernel_rfl, rfl⟩) hHeld3 ?_
              try simp only [List.getElem_toArray, List.getElem_cons_zero, List.getElem_cons_succ, Act.put, List.setIfInBounds_toArray, List.set_cons_zero, List.set_cons_succ]
              refine wpAnyH_take (i := 16) rfl (by kernel_rfl) (by kernel_rfl) (by kernel_rfl) (fun _ _ _ h => h) (Or.inr ⟨by kernel_rfl, rfl⟩) hHeld3 ?_
              try simp only [List.getElem_toArray, List.getElem_cons_zero, List.getElem_cons_succ, Act.put, List.setIfInBounds_toArray, List.set_cons_zero, List.set_cons_succ]
              refine wpAnyH_take (i := 17) rfl (by kernel_rfl) (by kernel_rfl) (by kernel_rfl) (fun _ _ _ h => h) (Or.inr ⟨by kernel_rfl, rfl⟩) hHeld3 ?_
              try simp only [List.getElem_toArray, List.getElem_cons_zero, List.getElem_cons_succ, Act.put, List.setIfInBounds_toArray, List.set_cons_zero, List.set_cons_succ]
              refine wpAnyH_take (i := 18) rfl (by kernel_rfl) (by kernel_rfl) (by kernel_rfl) (fun _ _ _ h => h) (Or.inr ⟨by kernel_rfl, rfl⟩) hHeld3 ?_
              try simp only [List.getElem_toArray, List.getElem_cons_zero, List.getElem_cons_succ, Act.put, List.setIfInBounds_toArray, List.set_cons_zero, List.set_cons_succ]
              refine wpAnyH_take (i := 19) rfl (by kernel_rfl) (by kernel_rfl) (by kernel_rfl) (fun _ _ _ h => h) (Or.inr ⟨by kernel_rfl, rfl⟩) hHeld3 ?_
              try simp only [List.getElem_toArray, List.getElem_cons_zero, List.getElem_cons_succ, Act.put, List.setIfInBounds_toArray, List.set_cons_zero, List.set_cons_succ]
              refine wpAnyH_take (i := 20) rfl (by kernel_rfl) (by kernel_rfl) (by kernel_rfl) (fun _ _ _ h => h) (Or.inl ⟨by kernel_rfl, fun w hSw => by (try dsimp only at hSw); go_simp; (try with_reducible rfl)⟩) hHeld3 ?_
              try simp only [List.getElem_toArray, List.getElem_cons_zero, List.getElem_cons_succ, Act.put, List.setIfInBounds_toArray, List.set_cons_zero, List.set_cons_succ]
              refine wpAnyH_done (by kernel_rfl) ?_ _
              have HH := Lib.hid hHeld3.2.2
              clear hHeld3
              go_wp2_with fail
              go_ret
              exact ⟨ret_bool HX.out.symm, HH.out⟩
            | true =>
              rw [hv] at L SJ
              rw [Bool.true_and] at SJ
              by_cases hz : j = 0
              · subst hz
                have hst : allK (stepI zs) (0 + 1) = true := by rw [HSN.out, HO.out, SJ]; rfl
                have HT := Lib.hid hst
                clear hst SJ HSS HSN hv FB HP
                go_wp2_with fail
                obtain ⟨W1, hW1⟩ : ∃ W, W = wr.alloc (Obj.cells #[Value.int .i64 y0, Value.int .i64 y1] 91) := ⟨_, rfl⟩
                rw [← hW1]
                have q0 : W1.cell? ⟨wr.heap.size, 0, none⟩ = some (.int .i64 y0) := by rw [hW1]; simp
                have q1 : W1.cell? ⟨wr.heap.size, 1, none⟩ = some (.int .i64 y1) := by rw [hW1]; simp
                rw [← hW1] at HB1
                clear hW1 c0 c1
                have KW : Hid (W1.cell? ⟨wr.heap.size, 0, none⟩ = some (.int .i64 y0) ∧ W1.cell? ⟨wr.heap.size, 1, none⟩ = some (.int .i64 y1) ∧ Below w.heap.size w W1) := Lib.hid ⟨q0, q1, HB1.out⟩
                clear q0 q1
                refine wp_region_held_drew (S := fun W => W.cell? ⟨wr.heap.size, 0, none⟩ = some (.int .i64 y0) ∧ W.cell? ⟨wr.heap.size, 1, none⟩ = some (.int .i64 y1) ∧ Below w.heap.size w W) (by kernel_rfl) ?_ (fun hHeld => ?_)
                · exact keepW2 KW.out (drewG W1)
                refine wpAnyH_take (i := 0) rfl (by kernel_rfl) (by kernel_rfl) (by kernel_rfl) (fun _ _ _ h => h) (Or.inl ⟨by kernel_rfl, fun w hSw => by (try dsimp only at hSw); go_simp; (try with_reducible rfl)⟩) hHeld ?_
                try simp only [List.getElem_toArray, List.getElem_cons_zero, List.getElem_cons_succ, Act.put, List.setIfInBounds_toArray, List.set_cons_zero, List.set_cons_succ]
                refine wpAnyH_take (i := 1) rfl (by kernel_rfl) (by kernel_rfl) (by kernel_rfl) (fun _ _ _ h => h) (Or.inl ⟨by kernel_rfl, fun w hSw => by (try dsimp only at hSw); go_simp; (try with_reducible rfl)⟩) hHeld ?_
                try simp only [List.getElem_toArray, List.getElem_cons_zero, List.getElem_cons_succ, Act.put, List.setIfInBounds_toArray, List.set_cons_zero, List.set_cons_succ]
                refine wpAnyH_take (i := 2) rfl (by kernel_rfl) (by kernel_rfl) (by kernel_rfl) (fun _ _ _ h => h) (Or.inl ⟨by kernel_rfl, fun w hSw => by (try dsimp only at hSw); go_simp; (try with_reducible rfl)⟩) hHeld ?_
                try simp only [List.getElem_toArray, List.getElem_cons_zero, List.getElem_cons_succ, Act.put, List.setIfInBounds_toArray, List.set_cons_zero, List.set_cons_succ]
                refine wpAnyH_take (i := 3) rfl (by kernel_rfl) (by kernel_rfl) (by kernel_rfl) (fun _ _ _ h => h) (Or.inl ⟨by kernel_rfl, fun w hSw => by (try dsimp only at hSw); go_simp; (try with_reducible rfl)⟩) hHeld ?_
                try simp only [List.getElem_toArray, List.getElem_cons_zero, List.getElem_cons_succ, Act.put, List.setIfInBounds_toArray, List.set_cons_zero, List.set_cons_succ]
                refine wpAnyH_ready (rs := [4]) (by kernel_rfl) (by simp) ?_
                refine AllReadyH.cons rfl (fun KK hK => ?_) AllReadyH.nil
                go_simp
                refine hK.out _ _ ?_ (fun hHeld2 => ?_)
                · first | exact keepW2 KW.out (alKD W1 _) | exact keepW2 KW.out ((drewG W1).alloc (Nat.le_refl _) _)
                clear hK KK hHeld
                try simp only [List.getElem_toArray, List.getElem_cons_zero, List.getElem_cons_succ, Act.put, List.setIfInBounds_toArray, List.set_cons_zero, List.set_cons_succ]
                refine wpAnyH_ready (rs := [5]) (by kernel_rfl) (by simp) ?_
                refine AllReadyH.cons rfl (fun KK hK => ?_) AllReadyH.nil
                go_simp
                first | go_at_call 81 | skip
                refine (L.out _ _ _ (by simp) (by simp)).mono ?_
                rintro e z1 ⟨rfl, rfl⟩
                refine hK.out _ _ hHeld2 (fun hHeld3 => ?_)
                clear hK KK hHeld2
                try simp only [List.getElem_toArray, List.getElem_cons_zero, List.getElem_cons_succ, Act.put, List.setIfInBounds_toArray, List.set_cons_zero, List.set_cons_succ]
                refine wpAnyH_take (i := 6) rfl (by kernel_rfl) (by kernel_rfl) (by kernel_rfl) (fun _ _ _ h => h) (Or.inl ⟨by kernel_rfl, fun w hSw => by (try dsimp only at hSw); go_simp; (try with_reducible rfl)⟩) hHeld3 ?_
                try simp only [List.getElem_toArray, List.getElem_cons_zero, List.getElem_cons_succ, Act.put, List.setIfInBounds_toArray, List.set_cons_zero, List.set_cons_succ]
                refine wpAnyH_take (i := 7) rfl (by kernel_rfl) (by kernel_rfl) (by kernel_rfl) (fun _ _ _ h => h) (Or.inl ⟨by kernel_rfl, fun w hSw => by (try dsimp only at hSw); go_simp; (try with_reducible rfl)⟩) hHeld3 ?_
                try simp only [List.getElem_toArray, List.getElem_cons_zero, List.getElem_cons_succ, Act.put, List.setIfInBounds_toArray, List.set_cons_zero, List.set_cons_succ]
                refine wpAnyH_take (i := 8) rfl (by kernel_rfl) (by kernel_rfl) (by kernel_rfl) (fun _ _ _ h => h) (Or.inl ⟨by kernel_rfl, fun w hSw => by (try dsimp only at hSw); go_simp; (try with_reducible rfl)⟩) hHeld3 ?_
                try simp only [List.getElem_toArray, List.getElem_cons_zero, List.getElem_cons_succ, Act.put, List.setIfInBounds_toArray, List.set_cons_zero, List.set_cons_succ]
                refine wpAnyH_take (i := 9) rfl (by kernel_rfl) (by kernel_rfl) (by kernel_rfl) (fun _ _ _ h => h) (Or.inl ⟨by kernel_rfl, fun w hSw => by (try dsimp only at hSw); go_simp; (try with_reducible rfl)⟩) hHeld3 ?_
                try simp only [List.getElem_toArray, List.getElem_cons_zero, List.getElem_cons_succ, Act.put, List.setIfInBounds_toArray, List.set_cons_zero, List.set_cons_succ]
                refine wpAnyH_take (i := 10) rfl (by kernel_rfl) (by kernel_rfl) (by kernel_rfl) (fun _ _ _ h => h) (Or.inl ⟨by kernel_rfl, fun w hSw => by (try dsimp only at hSw); go_simp; (try with_reducible rfl)⟩) hHeld3 ?_
                try simp only [List.getElem_toArray, List.getElem_cons_zero, List.getElem_cons_succ, Act.put, List.setIfInBounds_toArray, List.set_cons_zero, List.set_cons_succ]
                refine wpAnyH_take (i := 11) rfl (by kernel_rfl) (by kernel_rfl) (by kernel_rfl) (fun _ _ _ h => h) (Or.inr ⟨by kernel_rfl, rfl⟩) hHeld3 ?_
                try simp only [List.getElem_toArray, List.getElem_cons_zero, List.getElem_cons_succ, Act.put, List.setIfInBounds_toArray, List.set_cons_zero, List.set_cons_succ]
                refine wpAnyH_take (i := 12) rfl (by kernel_rfl) (by kernel_rfl) (by kernel_rfl) (fun _ _ _ h => h) (Or.inr ⟨by kernel_rfl, rfl⟩) hHeld3 ?_
                try simp only [List.getElem_toArray, List.getElem_cons_zero, List.getElem_cons_succ, Act.put, List.setIfInBounds_toArray, List.set_cons_zero, List.set_cons_succ]
                refine wpAnyH_take (i := 13) rfl (by kernel_rfl) (by kernel_rfl) (by kernel_rfl) (fun _ _ _ h => h) (Or.inr ⟨by kernel_rfl, rfl⟩) hHeld3 ?_
                try simp only [List.getElem_toArray, List.getElem_cons_zero, List.getElem_cons_succ, Act.put, List.setIfInBounds_toArray, List.set_cons_zero, List.set_cons_succ]
                refine wpAnyH_take (i := 14) rfl (by kernel_rfl) (by kernel_rfl) (by kernel_rfl) (fun _ _ _ h => h) (Or.inr ⟨by kernel_rfl, rfl⟩) hHeld3 ?_
                try simp only [List.getElem_toArray, List.getElem_cons_zero, List.getElem_cons_succ, Act.put, List.setIfInBounds_toArray, List.set_cons_zero, List.set_cons_succ]
                refine wpAnyH_take (i := 15) rfl (by kernel_rfl) (by kernel_rfl) (by kernel_rfl) (fun _ _ _ h => h) (Or.inr ⟨by kernel_rfl, rfl⟩) hHeld3 ?_
                try simp only [List.getElem_toArray, List.getElem_cons_zero, List.getElem_cons_succ, Act.put, List.setIfInBounds_toArray, List.set_cons_zero, List.set_cons_succ]
                refine wpAnyH_take (i := 16) rfl (by kernel_rfl) (by kernel_rfl) (by kernel_rfl) (fun _ _ _ h => h) (Or.inr ⟨by kernel_rfl, rfl⟩) hHeld3 ?_
                try simp only [List.getElem_toArray, List.getElem_cons_zero, List.getElem_cons_succ, Act.put, List.setIfInBounds_toArray, List.set_cons_zero, List.set_cons_succ]
                refine wpAnyH_take (i := 17) rfl (by kernel_rfl) (by kernel_rfl) (by kernel_rfl) (fun _ _ _ h => h) (Or.inr ⟨by kernel_rfl, rfl⟩) hHeld3 ?_
                try simp only [List.getElem_toArray, List.getElem_cons_zero, List.getElem_cons_succ, Act.put, List.setIfInBounds_toArray, List.set_cons_zero, List.set_cons_succ]
                refine wpAnyH_take (i := 18) rfl (by kernel_rfl) (by kernel_rfl) (by kernel_rfl) (fun _ _ _ h => h) (Or.inr ⟨by kernel_rfl, rfl⟩) hHeld3 ?_
                try simp only [List.getElem_toArray, List.getElem_cons_zero, List.getElem_cons_succ, Act.put, List.setIfInBounds_toArray, List.set_cons_zero, List.set_cons_succ]
                refine wpAnyH_take (i := 19) rfl (by kernel_rfl) (by kernel_rfl) (by kernel_rfl) (fun _ _ _ h => h) (Or.inl ⟨by kernel_rfl, fun w hSw => by (try dsimp only at hSw); go_simp; (try with_reducible rfl)⟩) hHeld3 ?_
                try simp only [List.getElem_toArray, List.getElem_cons_zero, List.getElem_cons_succ, Act.put, List.setIfInBounds_toArray, List.set_cons_zero, List.set_cons_succ]
                refine wpAnyH_take (i := 20) rfl (by kernel_rfl) (by kernel_rfl) (by kernel_rfl) (fun _ _ _ h => h) (Or.inl ⟨by kernel_rfl, fun w hSw => by (try dsimp only at hSw); go_simp; (try with_reducible rfl)⟩) hHeld3 ?_
                try simp only [List.getElem_toArray, List.getElem_cons_zero, List.getElem_cons_succ, Act.put, List.setIfInBounds_toArray, List.set_cons_zero, List.set_cons_succ]
                refine wpAnyH_done (by kernel_rfl) ?_ _
                have HH := Lib.hid hHeld3.2.2
                clear hHeld3
                go_wp2_with fail
                go_roundg (zs.length + 1 - (0 + 1))
                case measure => omega
                case rel => exact ⟨0 + 1, by go_num, by omega, by omega, HT, HH⟩
              · obtain ⟨k, rfl⟩ : ∃ k, j = k + 1 := ⟨j - 1, by omega⟩
                obtain ⟨e0, e1⟩ := HP.out (by omega)
                rw [decide_eq_false hz, Bool.false_or] at SJ
                simp only [Nat.add_one_sub_one] at e0 e1 SJ
                generalize (gk zs k).f0 = p0 at *
                generalize (gk zs k).f1 = p1 at *
                have BF := Lib.hid (fun w => isBefore_any p0 p1 y0 y1 w)
                have ek : ((k + 1 : Nat) : Int) - 1 = (k : Int) := by omega
                have k0 : (0 : Int) ≤ (k : Int) := by omega
                have k1 : (k : Int) < (zs.length : Int) := by omega
                have kg : 0 < k + 1 := by omega
                have kd : decide (0 < k + 1) = true := by simp
                have wk : IntKind.i64.wrap (k : Int) = (k : Int) := IntWalk.i64_in _ (by omega)
                clear hz FB HP hv
                cases hb : bfB p0 p1 y0 y1 with
                | true =>
                  rw [hb] at BF SJ
                  clear hb
                  have HT : Hid (allK (stepI zs) (k + 1 + 1) = true) := Lib.hid (by rw [HSN.out, HO.out, SJ]; rfl)
                  clear SJ HSS HSN
                  go_wp2_with fail
                  obtain ⟨W1, hW1⟩ : ∃ W, W = wr.alloc (Obj.cells #[Value.int .i64 y0, Value.int .i64 y1] 91) := ⟨_, rfl⟩
                  rw [← hW1]
                  have q0 : W1.cell? ⟨wr.heap.size, 0, none⟩ = some (.int .i64 y0) := by rw [hW1]; simp
                  have q1 : W1.cell? ⟨wr.heap.size, 1, none⟩ = some (.int .i64 y1) := by rw [hW1]; simp
                  rw [← hW1] at HB1
                  have hbW := (Below.refl wr.heap.size wr).alloc (Nat.le_refl _) (Obj.cells #[Value.int .i64 y0, Value.int .i64 y1] 91)
                  rw [← hW1] at hbW
                  have hgl : g < wr.heap.size := World.block_lt_of_cell? wr ⟨g, k * 2, none⟩ e0
                  have f0 : W1.cell? ⟨g, k * 2, none⟩ = some (.int .i64 p0) := (hbW.cell (p := ⟨g, k * 2, none⟩) hgl).trans e0
                  have f1 : W1.cell? ⟨g, k * 2 + 1, none⟩ = some (.int .i64 p1) := (hbW.cell (p := ⟨g, k * 2 + 1, none⟩) hgl).trans e1
                  clear e0 e1 hbW
                  clear hW1 c0 c1
                  have KW : Hid ((fun W => W.cell? ⟨wr.heap.size, 0, none⟩ = some (.int .i64 y0) ∧ W.cell? ⟨wr.heap.size, 1, none⟩ = some (.int .i64 y1) ∧ W.cell? ⟨g, k * 2, none⟩ = some (.int .i64 p0) ∧ W.cell? ⟨g, k * 2 + 1, none⟩ = some (.int .i64 p1) ∧ Below w.heap.size w W) W1) := Lib.hid ⟨q0, q1, f0, f1, HB1.out⟩
                  clear q0 q1 f0 f1
                  go_region_held3 (fun W => W.cell? ⟨wr.heap.size, 0, none⟩ = some (.int .i64 y0) ∧ W.cell? ⟨wr.heap.size, 1, none⟩ = some (.int .i64 y1) ∧ W.cell? ⟨g, k * 2, none⟩ = some (.int .i64 p0) ∧ W.cell? ⟨g, k * 2 + 1, none⟩ = some (.int .i64 p1) ∧ Below w.heap.size w W) (first | (exact keepW4 KW.out (drewG W1)) | (exact keepW4 KW.out (alKD W1 _)) | (exact keepW4 KW.out y2) | go_keep) ((first
                    | (go_at_call 81; (refine (L.out _ _ _ (by simp) (by simp)).mono ?_); rintro e x1 ⟨rfl, rfl⟩)
                    | (go_at_call 82; (refine (BF.out _).mono ?_); rintro e x2 ⟨rfl, hx2⟩; have y2 := (alKD W1 _).trans (hx2.mono (alKD W1 _).size))))
                  all_goals
                    rename_i held
                    have HH := Lib.hid held.2.2.2.2
                    clear held KW
                    go_wp2_with fail
                    go_roundg (zs.length + 1 - (k + 1 + 1))
                    case measure => omega
                    case rel => exact ⟨k + 1 + 1, by go_num, by omega, by omega, HT, HH⟩
                | false =>
                  rw [hb] at BF SJ
                  clear hb
                  have HX := Lib.hid (HSS.out SJ)
                  clear SJ HSS HSN
                  go_wp2_with fail
                  obtain ⟨W1, hW1⟩ : ∃ W, W = wr.alloc (Obj.cells #[Value.int .i64 y0, Value.int .i64 y1] 91) := ⟨_, rfl⟩
                  rw [← hW1]
                  have q0 : W1.cell? ⟨wr.heap.size, 0, none⟩ = some (.int .i64 y0) := by rw [hW1]; simp
                  have q1 : W1.cell? ⟨wr.heap.size, 1, none⟩ = some (.int .i64 y1) := by rw [hW1]; simp
                  rw [← hW1] at HB1
                  have hbW := (Below.refl wr.heap.size wr).alloc (Nat.le_refl _) (Obj.cells #[Value.int .i64 y0, Value.int .i64 y1] 91)
                  rw [← hW1] at hbW
                  have hgl : g < wr.heap.size := World.block_lt_of_cell? wr ⟨g, k * 2, none⟩ e0
                  have f0 : W1.cell? ⟨g, k * 2, none⟩ = some (.int .i64 p0) := (hbW.cell (p := ⟨g, k * 2, none⟩) hgl).trans e0
                  have f1 : W1.cell? ⟨g, k * 2 + 1, none⟩ = some (.int .i64 p1) := (hbW.cell (p := ⟨g, k * 2 + 1, none⟩) hgl).trans e1
                  clear e0 e1 hbW
                  clear hW1 c0 c1
                  have KW : Hid ((fun W => W.cell? ⟨wr.heap.size, 0, none⟩ = some (.int .i64 y0) ∧ W.cell? ⟨wr.heap.size, 1, none⟩ = some (.int .i64 y1) ∧ W.cell? ⟨g, k * 2, none⟩ = some (.int .i64 p0) ∧ W.cell? ⟨g, k * 2 + 1, none⟩ = some (.int .i64 p1) ∧ Below w.heap.size w W) W1) := Lib.hid ⟨q0, q1, f0, f1, HB1.out⟩
                  clear q0 q1 f0 f1
                  go_region_held3 (fun W => W.cell? ⟨wr.heap.size, 0, none⟩ = some (.int .i64 y0) ∧ W.cell? ⟨wr.heap.size, 1, none⟩ = some (.int .i64 y1) ∧ W.cell? ⟨g, k * 2, none⟩ = some (.int .i64 p0) ∧ W.cell? ⟨g, k * 2 + 1, none⟩ = some (.int .i64 p1) ∧ Below w.heap.size w W) (first | (exact keepW4 KW.out (drewG W1)) | (exact keepW4 KW.out (alKD W1 _)) | (exact keepW4 KW.out y2) | go_keep) ((first
                    | (go_at_call 81; (refine (L.out _ _ _ (by simp) (by simp)).mono ?_); rintro e x1 ⟨rfl, rfl⟩)
                    | (go_at_call 82; (refine (BF.out _).mono ?_); rintro e x2 ⟨rfl, hx2⟩; have y2 := (alKD W1 _).trans (hx2.mono (alKD W1 _).size))))
                  all_goals
                    rename_i held
                    have HH := Lib.hid held.2.2.2.2
                    clear held KW
                    go_wp2_with fail
                    go_ret
                    exact ⟨ret_bool HX.out.symm, HH.out⟩
          · obtain rfl : j = zs.length := by omega
            have HX := Lib.hid (HR.out.symm.trans HO.out)
            go_wp2_with fail
            go_ret
            exact ⟨ret_bool HX.out.symm, HB.out⟩
      · rw [show decide (x1 = 1000) = false by simpa using hl, Bool.false_and]
        clear SN SS RP
        go_enter Try.func29, Try.ntmps29
        go_wp2_with fail
        refine (WI.out _ _ _ (by simp)).mono ?_
        rintro e w' ⟨rfl, rfl⟩
        go_wp2_with fail
        go_ret
        refine ⟨rfl, ?_⟩
        repeat (first | exact Below.refl _ _ | refine Below.setCell ?_ (by first | (simp; done) | omega | (simp; omega)) _ | refine Below.alloc ?_ (by first | (simp; done) | omega | (simp; omega)) _ | refine bel_drew ?_)
    · rw [show decide (x0 = 0) = false by simpa using hz, Bool.false_and, Bool.false_and]
      clear SN SS RP c1
      go_enter Try.func29, Try.ntmps29
      go_wp2_with fail
      refine (WI.out _ _ _ (by simp)).mono ?_
      rintro e w' ⟨rfl, rfl⟩
      go_wp2_with fail
      go_ret
      refine ⟨rfl, ?_⟩
      repeat (first | exact Below.refl _ _ | refine Below.setCell ?_ (by first | (simp; done) | omega | (simp; omega)) _ | refine Below.alloc ?_ (by first | (simp; done) | omega | (simp; omega)) _ | refine bel_drew ?_)
end Go.Proofs.Ytleaoemckdkndaa.Kn
