/-
  Valid lists of stars: the contracts of isNamedList and impl.ValidStars (package impl).
-/
import Derived.Test.YtalaalifoklmeaaDoorStarK
import Derived.Deep.RegionHeld3
import Derived.Deep.RegionWith
import Derived.StillTailTactics
import Derived.Shelf.Abstract
namespace Go.Proofs.YtalaalifoklmeaaDoor
open Go.RowKit
set_option linter.unusedVariables false

theorem keepI1 {w W W' : World} {b : Nat} {v0 v1 v2 v3 v4 : Value} (h : W.cell? ⟨b, 0, none⟩ = some v0 ∧ W.cell? ⟨b, 1, none⟩ = some v1 ∧ W.cell? ⟨b, 2, none⟩ = some v2 ∧ W.cell? ⟨b, 3, none⟩ = some v3 ∧ W.cell? ⟨b, 4, none⟩ = some v4 ∧ Below w.heap.size w W) (hb : Below W.heap.size W W') :
    W'.cell? ⟨b, 0, none⟩ = some v0 ∧ W'.cell? ⟨b, 1, none⟩ = some v1 ∧ W'.cell? ⟨b, 2, none⟩ = some v2 ∧ W'.cell? ⟨b, 3, none⟩ = some v3 ∧ W'.cell? ⟨b, 4, none⟩ = some v4 ∧ Below w.heap.size w W' := by
  obtain ⟨h0, h1, h2, h3, h4, hB⟩ := h
  have l0 := World.block_lt_of_cell? W ⟨b, 0, none⟩ h0
  obtain ⟨c, _⟩ := bcell hb
  exact ⟨(c _ _ l0).trans h0, (c _ _ l0).trans h1, (c _ _ l0).trans h2, (c _ _ l0).trans h3, (c _ _ l0).trans h4, hB.trans (hb.mono hB.size)⟩
theorem keepI2 {w W W' : World} {b g o : Nat} {v0 v1 v2 v3 v4 u0 u1 u2 u3 u4 : Value} (h : W.cell? ⟨b, 0, none⟩ = some v0 ∧ W.cell? ⟨b, 1, none⟩ = some v1 ∧ W.cell? ⟨b, 2, none⟩ = some v2 ∧ W.cell? ⟨b, 3, none⟩ = some v3 ∧ W.cell? ⟨b, 4, none⟩ = some v4 ∧ W.cell? ⟨g, o, none⟩ = some u0 ∧ W.cell? ⟨g, o + 1, none⟩ = some u1 ∧ W.cell? ⟨g, o + 2, none⟩ = some u2 ∧ W.cell? ⟨g, o + 3, none⟩ = some u3 ∧ W.cell? ⟨g, o + 4, none⟩ = some u4 ∧ Below w.heap.size w W) (hb : Below W.heap.size W W') :
    W'.cell? ⟨b, 0, none⟩ = some v0 ∧ W'.cell? ⟨b, 1, none⟩ = some v1 ∧ W'.cell? ⟨b, 2, none⟩ = some v2 ∧ W'.cell? ⟨b, 3, none⟩ = some v3 ∧ W'.cell? ⟨b, 4, none⟩ = some v4 ∧ W'.cell? ⟨g, o, none⟩ = some u0 ∧ W'.cell? ⟨g, o + 1, none⟩ = some u1 ∧ W'.cell? ⟨g, o + 2, none⟩ = some u2 ∧ W'.cell? ⟨g, o + 3, none⟩ = some u3 ∧ W'.cell? ⟨g, o + 4, none⟩ = some u4 ∧ Below w.heap.size w W' := by
  obtain ⟨h0, h1, h2, h3, h4, k0, k1, k2, k3, k4, hB⟩ := h
  have l0 := World.block_lt_of_cell? W ⟨b, 0, none⟩ h0
  have l1 := World.block_lt_of_cell? W ⟨g, o, none⟩ k0
  obtain ⟨c, _⟩ := bcell hb
  exact ⟨(c _ _ l0).trans h0, (c _ _ l0).trans h1, (c _ _ l0).trans h2, (c _ _ l0).trans h3, (c _ _ l0).trans h4, (c _ _ l1).trans k0, (c _ _ l1).trans k1, (c _ _ l1).trans k2, (c _ _ l1).trans k3, (c _ _ l1).trans k4, hB.trans (hb.mono hB.size)⟩
set_option maxHeartbeats 400000 in
theorem nameOf_any (xs : ByteArray) (xa xb xc xd : Int) (w : World) :
    Calls Tryd.prog 97 #[.agg #[.string xs, .int .i64 xa, .int .i64 xb, .int .i64 xc, .int .i64 xd]] w fun e w' => e = .returned (.string xs) ∧ Below w.heap.size w w' := by
  go_enter Tryd.func97, Tryd.ntmps97
  go_wp2_with fail
  go_ret
  refine ⟨rfl, ?_⟩
  repeat (first | exact Below.refl _ _ | refine Below.setCell ?_ (by first | (simp; done) | omega | (simp; omega)) _ | refine Below.alloc ?_ (by first | (simp; done) | omega | (simp; omega)) _ | refine bel_drew ?_)

set_option maxRecDepth 100000 in
set_option maxHeartbeats 4000000 in
theorem named_any (g cap : Nat) (zs : List StarV) (w : World) (hb : zs.length ≤ 1048577) (h1 : Row w g zs) (hok : ∀ j, (h : j < zs.length) → zs[j].ok) :
    Calls Tryd.prog 96 #[.slice (some ⟨g, 0, none⟩) zs.length cap, .int .i64 24, .func (.func 86) #[] #[], .func (.func 97) #[] #[]] w fun e w' => e = .returned (.bool (okL zs)) ∧ Below w.heap.size w w' := by
  have H1 := Lib.hid h1
  have HK := Lib.hid hok
  have KN := Lib.hid (okZ_next zs)
  have KS := Lib.hid (okZ_stop zs)
  have KE : Hid (okL zs = (okZ zs zs.length && decide (zs.length ≤ 24))) := Lib.hid rfl
  generalize okL zs = r at *
  clear h1 hok
  by_cases hmo : 24 < zs.length
  · have hr : r = false := by rw [KE.out, show decide (zs.length ≤ 24) = false by simpa using hmo, Bool.and_false]
    subst hr
    have hmo' : (24 : Int) < (zs.length : Int) := by omega
    go_enter Tryd.func96, Tryd.ntmps96
    go_wp2_with fail
    go_ret
    exact ⟨rfl, Below.refl _ _⟩
  · have hmo' : ¬ (24 : Int) < (zs.length : Int) := by omega
    have hE : r = okZ zs zs.length := by rw [KE.out, show decide (zs.length ≤ 24) = true by simpa using Nat.not_lt.1 hmo, Bool.and_true]
    have HE := Lib.hid hE
    clear hE KE
    go_enter Tryd.func96, Tryd.ntmps96
    go_wp2_with fail
    go_loopg [17] (zs.length + 1) (fun kx s17 wr => ∃ j : Nat, s17 = .int .i64 (j : Int) ∧ j ≤ zs.length ∧ kx = zs.length + 1 - j ∧ Hid (okZ zs j = true) ∧ Hid (Below w.heap.size w wr))
    case atStart => exact ⟨0, rfl, Nat.zero_le _, rfl, Lib.hid rfl, Lib.hid (Below.refl _ _)⟩
    case round =>
      obtain ⟨j, rfl, hj, rfl, HO, HB⟩ := hrel
      by_cases hlt : j < zs.length
      · have hR := H1.out.below HB.out
        obtain ⟨c0, c1, c2, c3, c4⟩ := hR.at j hlt
        have V := Lib.hid (fun w => validStar_any zs[j].s zs[j].a zs[j].b zs[j].c zs[j].d (HK.out j hlt).1 w)
        have HS := Lib.hid (KS.out j hlt)
        have HN := Lib.hid (KN.out j)
        have j0 : (0 : Int) ≤ (j : Int) := by omega
        have j1 : (j : Int) < (zs.length : Int) := by omega
        have GD := getD_at zs j hlt
        have hgd : zs[j].good = starB zs[j].s zs[j].a zs[j].b zs[j].c zs[j].d := rfl
        rw [← hgd] at V
        clear hgd
        obtain ⟨W0, hW0⟩ : ∃ W0, W0 = wr.alloc (Obj.cells #[.string zs[j].s, .int .i64 zs[j].a, .int .i64 zs[j].b, .int .i64 zs[j].c, .int .i64 zs[j].d] 73) := ⟨_, rfl⟩
        have hB0 : Below wr.heap.size wr W0 := by rw [hW0]; exact (Below.refl _ wr).alloc (Nat.le_refl _) _
        have HB0 : Below w.heap.size w W0 := HB.out.trans (hB0.mono HB.out.size)
        have e0 : W0.cell? ⟨wr.heap.size, 0, none⟩ = some (.string zs[j].s) := by rw [hW0]; simp
        have e1 : W0.cell? ⟨wr.heap.size, 1, none⟩ = some (.int .i64 zs[j].a) := by rw [hW0]; simp
        have e2 : W0.cell? ⟨wr.heap.size, 2, none⟩ = some (.int .i64 zs[j].b) := by rw [hW0]; simp
        have e3 : W0.cell? ⟨wr.heap.size, 3, none⟩ = some (.int .i64 zs[j].c) := by rw [hW0]; simp
        have e4 : W0.cell? ⟨wr.heap.size, 4, none⟩ = some (.int .i64 zs[j].d) := by rw [hW0]; simp
        have HW := Lib.hid hW0
        clear hW0
        cases hg : zs[j].good with
        | false =>
          have hst : stepB zs j = false := by unfold stepB; rw [GD, hg]; rfl
          have hr : r = false := HS.out hst
          rw [hg] at V
          subst hr
          clear hg hst GD hR HS HN KS KN hB0
          generalize zs[j] = x at *
          obtain ⟨xs, xa, xb, xc, xd⟩ := x
          simp only at c0 c1 c2 c3 c4 V e0 e1 e2 e3 e4 HW
          go_wp2_with fail
          rw [← HW.out]
          clear HW c0 c1 c2 c3 c4
          have KX : Hid (W0.cell? ⟨wr.heap.size, 0, none⟩ = some (.string xs) ∧ W0.cell? ⟨wr.heap.size, 1, none⟩ = some (.int .i64 xa) ∧ W0.cell? ⟨wr.heap.size, 2, none⟩ = some (.int .i64 xb) ∧ W0.cell? ⟨wr.heap.size, 3, none⟩ = some (.int .i64 xc) ∧ W0.cell? ⟨wr.heap.size, 4, none⟩ = some (.int .i64 xd) ∧ Below w.heap.size w W0) := Lib.hid ⟨e0, e1, e2, e3, e4, HB0⟩
          clear e0 e1 e2 e3 e4 HB0
          refine wp_region_held_drew (S := fun W => W.cell? ⟨wr.heap.size, 0, none⟩ = some (.string xs) ∧ W.cell? ⟨wr.heap.size, 1, none⟩ = some (.int .i64 xa) ∧ W.cell? ⟨wr.heap.size, 2, none⟩ = some (.int .i64 xb) ∧ W.cell? ⟨wr.heap.size, 3, none⟩ = some (.int .i64 xc) ∧ W.cell? ⟨wr.heap.size, 4, none⟩ = some (.int .i64 xd) ∧ Below w.heap.size w W) (by kernel_rfl) ?_ (fun hHeld => ?_)
          · exact keepI1 KX.out (drewS W0)
          refine wpAnyH_take (i := 0) rfl (by kernel_rfl) (by kernel_rfl) (by kernel_rfl) (fun _ _ _ h => h) (Or.inl ⟨by kernel_rfl, fun w hSw => by (try dsimp only at hSw); go_simp; (try with_reducible rfl)⟩) hHeld ?_
          try simp only [List.getElem_toArray, List.getElem_cons_zero, List.getElem_cons_succ, Act.put, List.setIfInBounds_toArray, List.set_cons_zero, List.set_cons_succ]
          refine wpAnyH_take (i := 1) rfl (by kernel_rfl) (by kernel_rfl) (by kernel_rfl) (fun _ _ _ h => h) (Or.inl ⟨by kernel_rfl, fun w hSw => by (try dsimp only at hSw); go_simp; (try with_reducible rfl)⟩) hHeld ?_
          try simp only [List.getElem_toArray, List.getElem_cons_zero, List.getElem_cons_succ, Act.put, List.setIfInBounds_toArray, List.set_cons_zero, List.set_cons_succ]
          refine wpAnyH_ready (rs := [2]) (by kernel_rfl) (by simp) ?_
          refine AllReadyH.cons rfl (fun KK hK => ?_) AllReadyH.nil
          go_simp
          first | go_at_call 86 | skip
          refine (V.out _).mono ?_
          rintro e x1 ⟨rfl, hx1⟩
          have y1 := undrewS hx1
          refine hK.out _ _ ?_ (fun hHeld2 => ?_)
          · exact keepI1 KX.out y1
          clear hK KK hHeld hx1 y1 KX
          try simp only [List.getElem_toArray, List.getElem_cons_zero, List.getElem_cons_succ, Act.put, List.setIfInBounds_toArray, List.set_cons_zero, List.set_cons_succ]
          refine wpAnyH_take (i := 3) rfl (by kernel_rfl) (by kernel_rfl) (by kernel_rfl) (fun _ _ _ h => h) (Or.inl ⟨by kernel_rfl, fun w hSw => by (try dsimp only at hSw); go_simp; (try with_reducible rfl)⟩) hHeld2 ?_
          try simp only [List.getElem_toArray, List.getElem_cons_zero, List.getElem_cons_succ, Act.put, List.setIfInBounds_toArray, List.set_cons_zero, List.set_cons_succ]
          refine wpAnyH_take (i := 4) rfl (by kernel_rfl) (by kernel_rfl) (by kernel_rfl) (fun _ _ _ h => h) (Or.inl ⟨by kernel_rfl, fun w hSw => by (try dsimp only at hSw); go_simp; (try with_reducible rfl)⟩) hHeld2 ?_
          try simp only [List.getElem_toArray, List.getElem_cons_zero, List.getElem_cons_succ, Act.put, List.setIfInBounds_toArray, List.set_cons_zero, List.set_cons_succ]
          refine wpAnyH_take (i := 5) rfl (by kernel_rfl) (by kernel_rfl) (by kernel_rfl) (fun _ _ _ h => h) (Or.inr ⟨by kernel_rfl, rfl⟩) hHeld2 ?_
          try simp only [List.getElem_toArray, List.getElem_cons_zero, List.getElem_cons_succ, Act.put, List.setIfInBounds_toArray, List.set_cons_zero, List.set_cons_succ]
          refine wpAnyH_take (i := 6) rfl (by kernel_rfl) (by kernel_rfl) (by kernel_rfl) (fun _ _ _ h => h) (Or.inr ⟨by kernel_rfl, rfl⟩) hHeld2 ?_
          try simp only [List.getElem_toArray, List.getElem_cons_zero, List.getElem_cons_succ, Act.put, List.setIfInBounds_toArray, List.set_cons_zero, List.set_cons_succ]
          refine wpAnyH_take (i := 7) rfl (by kernel_rfl) (by kernel_rfl) (by kernel_rfl) (fun _ _ _ h => h) (Or.inr ⟨by kernel_rfl, rfl⟩) hHeld2 ?_
          try simp only [List.getElem_toArray, List.getElem_cons_zero, List.getElem_cons_succ, Act.put, List.setIfInBounds_toArray, List.set_cons_zero, List.set_cons_succ]
          refine wpAnyH_take (i := 8) rfl (by kernel_rfl) (by kernel_rfl) (by kernel_rfl) (fun _ _ _ h => h) (Or.inr ⟨by kernel_rfl, rfl⟩) hHeld2 ?_
          try simp only [List.getElem_toArray, List.getElem_cons_zero, List.getElem_cons_succ, Act.put, List.setIfInBounds_toArray, List.set_cons_zero, List.set_cons_succ]
          refine wpAnyH_take (i := 9) rfl (by kernel_rfl) (by kernel_rfl) (by kernel_rfl) (fun _ _ _ h => h) (Or.inr ⟨by kernel_rfl, rfl⟩) hHeld2 ?_
          try simp only [List.getElem_toArray, List.getElem_cons_zero, List.getElem_cons_succ, Act.put, List.setIfInBounds_toArray, List.set_cons_zero, List.set_cons_succ]
          refine wpAnyH_take (i := 10) rfl (by kernel_rfl) (by kernel_rfl) (by kernel_rfl) (fun _ _ _ h => h) (Or.inr ⟨by kernel_rfl, rfl⟩) hHeld2 ?_
          try simp only [List.getElem_toArray, List.getElem_cons_zero, List.getElem_cons_succ, Act.put, List.setIfInBounds_toArray, List.set_cons_zero, List.set_cons_succ]
          refine wpAnyH_take (i := 11) rfl (by kernel_rfl) (by kernel_rfl) (by kernel_rfl) (fun _ _ _ h => h) (Or.inr ⟨by kernel_rfl, rfl⟩) hHeld2 ?_
          try simp only [List.getElem_toArray, List.getElem_cons_zero, List.getElem_cons_succ, Act.put, List.setIfInBounds_toArray, List.set_cons_zero, List.set_cons_succ]
          refine wpAnyH_take (i := 12) rfl (by kernel_rfl) (by kernel_rfl) (by kernel_rfl) (fun _ _ _ h => h) (Or.inr ⟨by kernel_rfl, rfl⟩) hHeld2 ?_
          try simp only [List.getElem_toArray, List.getElem_cons_zero, List.getElem_cons_succ, Act.put, List.setIfInBounds_toArray, List.set_cons_zero, List.set_cons_succ]
          refine wpAnyH_take (i := 13) rfl (by kernel_rfl) (by kernel_rfl) (by kernel_rfl) (fun _ _ _ h => h) (Or.inr ⟨by kernel_rfl, rfl⟩) hHeld2 ?_
          try simp only [List.getElem_toArray, List.getElem_cons_zero, List.getElem_cons_succ, Act.put, List.setIfInBounds_toArray, List.set_cons_zero, List.set_cons_succ]
          refine wpAnyH_take (i := 14) rfl (by kernel_rfl) (by kernel_rfl) (by kernel_rfl) (fun _ _ _ h => h) (Or.inr ⟨by kernel_rfl, rfl⟩) hHeld2 ?_
          try simp only [List.getElem_toArray, List.getElem_cons_zero, List.getElem_cons_succ, Act.put, List.setIfInBounds_toArray, List.set_cons_zero, List.set_cons_succ]
          refine wpAnyH_take (i := 15) rfl (by kernel_rfl) (by kernel_rfl) (by kernel_rfl) (fun _ _ _ h => h) (Or.inr ⟨by kernel_rfl, rfl⟩) hHeld2 ?_
          try simp only [List.getElem_toArray, List.getElem_cons_zero, List.getElem_cons_succ, Act.put, List.setIfInBounds_toArray, List.set_cons_zero, List.set_cons_succ]
          refine wpAnyH_take (i := 16) rfl (by kernel_rfl) (by kernel_rfl) (by kernel_rfl) (fun _ _ _ h => h) (Or.inr ⟨by kernel_rfl, rfl⟩) hHeld2 ?_
          try simp only [List.getElem_toArray, List.getElem_cons_zero, List.getElem_cons_succ, Act.put, List.setIfInBounds_toArray, List.set_cons_zero, List.set_cons_succ]
          refine wpAnyH_take (i := 17) rfl (by kernel_rfl) (by kernel_rfl) (by kernel_rfl) (fun _ _ _ h => h) (Or.inr ⟨by kernel_rfl, rfl⟩) hHeld2 ?_
          try simp only [List.getElem_toArray, List.getElem_cons_zero, List.getElem_cons_succ, Act.put, List.setIfInBounds_toArray, List.set_cons_zero, List.set_cons_succ]
          refine wpAnyH_take (i := 18) rfl (by kernel_rfl) (by kernel_rfl) (by kernel_rfl) (fun _ _ _ h => h) (Or.inr ⟨by kernel_rfl, rfl⟩) hHeld2 ?_
          try simp only [List.getElem_toArray, List.getElem_cons_zero, List.getElem_cons_succ, Act.put, List.setIfInBounds_toArray, List.set_cons_zero, List.set_cons_succ]
          refine wpAnyH_take (i := 19) rfl (by kernel_rfl) (by kernel_rfl) (by kernel_rfl) (fun _ _ _ h => h) (Or.inr ⟨by kernel_rfl, rfl⟩) hHeld2 ?_
          try simp only [List.getElem_toArray, List.getElem_cons_zero, List.getElem_cons_succ, Act.put, List.setIfInBounds_toArray, List.set_cons_zero, List.set_cons_succ]
          refine wpAnyH_take (i := 20) rfl (by kernel_rfl) (by kernel_rfl) (by kernel_rfl) (fun _ _ _ h => h) (Or.inl ⟨by kernel_rfl, fun w hSw => by (try dsimp only at hSw); go_simp; (try with_reducible rfl)⟩) hHeld2 ?_
          try simp only [List.getElem_toArray, List.getElem_cons_zero, List.getElem_cons_succ, Act.put, List.setIfInBounds_toArray, List.set_cons_zero, List.set_cons_succ]
          refine wpAnyH_done (by kernel_rfl) ?_ _
          have HH : Hid (Below w.heap.size w x1) := Lib.hid hHeld2.2.2.2.2.2
          clear hHeld2
          go_wp2_with fail
          go_ret
          exact ⟨rfl, HH.out⟩
        | true =>
          rw [hg] at V
          by_cases hz : j = 0
          · subst hz
            have hst : okZ zs (0 + 1) = true := by rw [HN.out, stepB_zero, GD, hg]; rfl
            have HT := Lib.hid hst
            clear hg hst GD hR HS HN KS KN hB0
            generalize zs[0] = x at *
            obtain ⟨xs, xa, xb, xc, xd⟩ := x
            simp only at c0 c1 c2 c3 c4 V e0 e1 e2 e3 e4 HW
            go_wp2_with fail
            rw [← HW.out]
            clear HW c0 c1 c2 c3 c4
            have KX : Hid (W0.cell? ⟨wr.heap.size, 0, none⟩ = some (.string xs) ∧ W0.cell? ⟨wr.heap.size, 1, none⟩ = some (.int .i64 xa) ∧ W0.cell? ⟨wr.heap.size, 2, none⟩ = some (.int .i64 xb) ∧ W0.cell? ⟨wr.heap.size, 3, none⟩ = some (.int .i64 xc) ∧ W0.cell? ⟨wr.heap.size, 4, none⟩ = some (.int .i64 xd) ∧ Below w.heap.size w W0) := Lib.hid ⟨e0, e1, e2, e3, e4, HB0⟩
            clear e0 e1 e2 e3 e4 HB0
            refine wp_region_held_drew (S := fun W => W.cell? ⟨wr.heap.size, 0, none⟩ = some (.string xs) ∧ W.cell? ⟨wr.heap.size, 1, none⟩ = some (.int .i64 xa) ∧ W.cell? ⟨wr.heap.size, 2, none⟩ = some (.int .i64 xb) ∧ W.cell? ⟨wr.heap.size, 3, none⟩ = some (.int .i64 xc) ∧ W.cell? ⟨wr.heap.size, 4, none⟩ = some (.int .i64 xd) ∧ Below w.heap.size w W) (by kernel_rfl) ?_ (fun hHeld => ?_)
            · exact keepI1 KX.out (drewS W0)
            refine wpAnyH_take (i := 0) rfl (by kernel_rfl) (by kernel_rfl) (by kernel_rfl) (fun _ _ _ h => h) (Or.inl ⟨by kernel_rfl, fun w hSw => by (try dsimp only at hSw); go_simp; (try with_reducible rfl)⟩) hHeld ?_
            try simp only [List.getElem_toArray, List.getElem_cons_zero, List.getElem_cons_succ, Act.put, List.setIfInBounds_toArray, List.set_cons_zero, List.set_cons_succ]
            refine wpAnyH_take (i := 1) rfl (by kernel_rfl) (by kernel_rfl) (by kernel_rfl) (fun _ _ _ h => h) (Or.inl ⟨by kernel_rfl, fun w hSw => by (try dsimp only at hSw); go_simp; (try with_reducible rfl)⟩) hHeld ?_
            try simp only [List.getElem_toArray, List.getElem_cons_zero, List.getElem_cons_succ, Act.put, List.setIfInBounds_toArray, List.set_cons_zero, List.set_cons_succ]
            refine wpAnyH_ready (rs := [2]) (by kernel_rfl) (by simp) ?_
            refine AllReadyH.cons rfl (fun KK hK => ?_) AllReadyH.nil
            go_simp
            first | go_at_call 86 | skip
            refine (V.out _).mono ?_
            rintro e x1 ⟨rfl, hx1⟩
            have y1 := undrewS hx1
            refine hK.out _ _ ?_ (fun hHeld2 => ?_)
            · exact keepI1 KX.out y1
            clear hK KK hHeld hx1 y1 KX
            try simp only [List.getElem_toArray, List.getElem_cons_zero, List.getElem_cons_succ, Act.put, List.setIfInBounds_toArray, List.set_cons_zero, List.set_cons_succ]
            refine wpAnyH_take (i := 3) rfl (by kernel_rfl) (by kernel_rfl) (by kernel_rfl) (fun _ _ _ h => h) (Or.inl ⟨by kernel_rfl, fun w hSw => by (try dsimp only at hSw); go_simp; (try with_reducible rfl)⟩) hHeld2 ?_
            try simp only [List.getElem_toArray, List.getElem_cons_zero, List.getElem_cons_succ, Act.put, List.setIfInBounds_toArray, List.set_cons_zero, List.set_cons_succ]
            refine wpAnyH_take (i := 4) rfl (by kernel_rfl) (by kernel_rfl) (by kernel_rfl) (fun _ _ _ h => h) (Or.inl ⟨by kernel_rfl, fun w hSw => by (try dsimp only at hSw); go_simp; (try with_reducible rfl)⟩) hHeld2 ?_
            try simp only [List.getElem_toArray, List.getElem_cons_zero, List.getElem_cons_succ, Act.put, List.setIfInBounds_toArray, List.set_cons_zero, List.set_cons_succ]
            refine wpAnyH_take (i := 5) rfl (by kernel_rfl) (by kernel_rfl) (by kernel_rfl) (fun _ _ _ h => h) (Or.inl ⟨by kernel_rfl, fun w hSw => by (try dsimp only at hSw); go_simp; (try with_reducible rfl)⟩) hHeld2 ?_
            try simp only [List.getElem_toArray, List.getElem_cons_zero, List.getElem_cons_succ, Act.put, List.setIfInBounds_toArray, List.set_cons_zero, List.set_cons_succ]
            refine wpAnyH_take (i := 6) rfl (by kernel_rfl) (by kernel_rfl) (by kernel_rfl) (fun _ _ _ h => h) (Or.inl ⟨by kernel_rfl, fun w hSw => by (try dsimp only at hSw); go_simp; (try with_reducible rfl)⟩) hHeld2 ?_
            try simp only [List.getElem_toArray, List.getElem_cons_zero, List.getElem_cons_succ, Act.put, List.setIfInBounds_toArray, List.set_cons_zero, List.set_cons_succ]
            refine wpAnyH_take (i := 7) rfl (by kernel_rfl) (by kernel_rfl) (by kernel_rfl) (fun _ _ _ h => h) (Or.inl ⟨by kernel_rfl, fun w hSw => by (try dsimp only at hSw); go_simp; (try with_reducible rfl)⟩) hHeld2 ?_
            try simp only [List.getElem_toArray, List.getElem_cons_zero, List.getElem_cons_succ, Act.put, List.setIfInBounds_toArray, List.set_cons_zero, List.set_cons_succ]
            refine wpAnyH_take (i := 8) rfl (by kernel_rfl) (by kernel_rfl) (by kernel_rfl) (fun _ _ _ h => h) (Or.inr ⟨by kernel_rfl, rfl⟩) hHeld2 ?_
            try simp only [List.getElem_toArray, List.getElem_cons_zero, List.getElem_cons_succ, Act.put, List.setIfInBounds_toArray, List.set_cons_zero, List.set_cons_succ]
            refine wpAnyH_take (i := 9) rfl (by kernel_rfl) (by kernel_rfl) (by kernel_rfl) (fun _ _ _ h => h) (Or.inr ⟨by kernel_rfl, rfl⟩) hHeld2 ?_
            try simp only [List.getElem_toArray, List.getElem_cons_zero, List.getElem_cons_succ, Act.put, List.setIfInBounds_toArray, List.set_cons_zero, List.set_cons_succ]
            refine wpAnyH_take (i := 10) rfl (by kernel_rfl) (by kernel_rfl) (by kernel_rfl) (fun _ _ _ h => h) (Or.inr ⟨by kernel_rfl, rfl⟩) hHeld2 ?_
            try simp only [List.getElem_toArray, List.getElem_cons_zero, List.getElem_cons_succ, Act.put, List.setIfInBounds_toArray, List.set_cons_zero, List.set_cons_succ]
            refine wpAnyH_take (i := 11) rfl (by kernel_rfl) (by kernel_rfl) (by kernel_rfl) (fun _ _ _ h => h) (Or.inr ⟨by kernel_rfl, rfl⟩) hHeld2 ?_
            try simp only [List.getElem_toArray, List.getElem_cons_zero, List.getElem_cons_succ, Act.put, List.setIfInBounds_toArray, List.set_cons_zero, List.set_cons_succ]
            refine wpAnyH_take (i := 12) rfl (by kernel_rfl) (by kernel_rfl) (by kernel_rfl) (fun _ _ _ h => h) (Or.inr ⟨by kernel_rfl, rfl⟩) hHeld2 ?_
            try simp only [List.getElem_toArray, List.getElem_cons_zero, List.getElem_cons_succ, Act.put, List.setIfInBounds_toArray, List.set_cons_zero, List.set_cons_succ]
            refine wpAnyH_take (i := 13) rfl (by kernel_rfl) (by kernel_rfl) (by kernel_rfl) (fun _ _ _ h => h) (Or.inr ⟨by kernel_rfl, rfl⟩) hHeld2 ?_
            try simp only [List.getElem_toArray, List.getElem_cons_zero, List.getElem_cons_succ, Act.put, List.setIfInBounds_toArray, List.set_cons_zero, List.set_cons_succ]
            refine wpAnyH_take (i := 14) rfl (by kernel_rfl) (by kernel_rfl) (by kernel_rfl) (fun _ _ _ h => h) (Or.inr ⟨by kernel_rfl, rfl⟩) hHeld2 ?_
            try simp only [List.getElem_toArray, List.getElem_cons_zero, List.getElem_cons_succ, Act.put, List.setIfInBounds_toArray, List.set_cons_zero, List.set_cons_succ]
            refine wpAnyH_take (i := 15) rfl (by kernel_rfl) (by kernel_rfl) (by kernel_rfl) (fun _ _ _ h => h) (Or.inr ⟨by kernel_rfl, rfl⟩) hHeld2 ?_
            try simp only [List.getElem_toArray, List.getElem_cons_zero, List.getElem_cons_succ, Act.put, List.setIfInBounds_toArray, List.set_cons_zero, List.set_cons_succ]
            refine wpAnyH_take (i := 16) rfl (by kernel_rfl) (by kernel_rfl) (by kernel_rfl) (fun _ _ _ h => h) (Or.inr ⟨by kernel_rfl, rfl⟩) hHeld2 ?_
            try simp only [List.getElem_toArray, List.getElem_cons_zero, List.getElem_cons_succ, Act.put, List.setIfInBounds_toArray, List.set_cons_zero, List.set_cons_succ]
            refine wpAnyH_take (i := 17) rfl (by kernel_rfl) (by kernel_rfl) (by kernel_rfl) (fun _ _ _ h => h) (Or.inr ⟨by kernel_rfl, rfl⟩) hHeld2 ?_
            try simp only [List.getElem_toArray, List.getElem_cons_zero, List.getElem_cons_succ, Act.put, List.setIfInBounds_toArray, List.set_cons_zero, List.set_cons_succ]
            refine wpAnyH_take (i := 18) rfl (by kernel_rfl) (by kernel_rfl) (by kernel_rfl) (fun _ _ _ h => h) (Or.inr ⟨by kernel_rfl, rfl⟩) hHeld2 ?_
            try simp only [List.getElem_toArray, List.getElem_cons_zero, List.getElem_cons_succ, Act.put, List.setIfInBounds_toArray, List.set_cons_zero, List.set_cons_succ]
            refine wpAnyH_take (i := 19) rfl (by kernel_rfl) (by kernel_rfl) (by kernel_rfl) (fun _ _ _ h => h) (Or.inl ⟨by kernel_rfl, fun w hSw => by (try dsimp only at hSw); go_simp; (try with_reducible rfl)⟩) hHeld2 ?_
            try simp only [List.getElem_toArray, List.getElem_cons_zero, List.getElem_cons_succ, Act.put, List.setIfInBounds_toArray, List.set_cons_zero, List.set_cons_succ]
            refine wpAnyH_take (i := 20) rfl (by kernel_rfl) (by kernel_rfl) (by kernel_rfl) (fun _ _ _ h => h) (Or.inl ⟨by kernel_rfl, fun w hSw => by (try dsimp only at hSw); go_simp; (try with_reducible rfl)⟩) hHeld2 ?_
            try simp only [List.getElem_toArray, List.getElem_cons_zero, List.getElem_cons_succ, Act.put, List.setIfInBounds_toArray, List.set_cons_zero, List.set_cons_succ]
            refine wpAnyH_done (by kernel_rfl) ?_ _
            have HH : Hid (Below w.heap.size w x1) := Lib.hid hHeld2.2.2.2.2.2
            clear hHeld2
            go_wp2_with fail
            go_roundg (zs.length + 1 - (0 + 1))
            case measure => omega
            case rel => exact ⟨0 + 1, by go_num, by omega, by omega, HT, HH⟩
          · obtain ⟨k, hk⟩ : ∃ k, j = k + 1 := ⟨j - 1, by omega⟩
            have hkl : k < zs.length := by omega
            obtain ⟨p0, p1, p2, p3, p4⟩ := (hR.below hB0).at k hkl
            have hst : stepB zs j = ltS (zs[k]'hkl).s zs[j].s := by rw [stepB_pos zs j k hk, GD, getD_at zs k hkl, hg, Bool.true_and]
            have ek : (j : Int) - 1 = (k : Int) := by omega
            have k0 : (0 : Int) ≤ (k : Int) := by omega
            have k1 : (k : Int) < (zs.length : Int) := by omega
            have kg : 0 < j := by omega
            have kd : decide (0 < j) = true := by simpa using kg
            have wk : IntKind.i64.wrap (k : Int) = (k : Int) := IntWalk.i64_in _ (by omega)
            rw [hst] at HS HN
            have HL : Hid (ltS (zs[k]'hkl).s zs[j].s = Op.bytesLess (zs[k]'hkl).s.toList zs[j].s.toList) := Lib.hid rfl
            clear hz hR GD hg hst hk hB0
            generalize ltS (zs[k]'hkl).s zs[j].s = lt at *
            generalize zs[k]'hkl = px at *
            generalize zs[j] = x at *
            obtain ⟨xs, xa, xb, xc, xd⟩ := x
            obtain ⟨ps, pa, pb, pc, pd⟩ := px
            simp only at c0 c1 c2 c3 c4 V e0 e1 e2 e3 e4 HW HL p0 p1 p2 p3 p4
            have NX := Lib.hid (fun w => nameOf_any xs xa xb xc xd w)
            have NP := Lib.hid (fun w => nameOf_any ps pa pb pc pd w)
            have KX : Hid (W0.cell? ⟨wr.heap.size, 0, none⟩ = some (.string xs) ∧ W0.cell? ⟨wr.heap.size, 1, none⟩ = some (.int .i64 xa) ∧ W0.cell? ⟨wr.heap.size, 2, none⟩ = some (.int .i64 xb) ∧ W0.cell? ⟨wr.heap.size, 3, none⟩ = some (.int .i64 xc) ∧ W0.cell? ⟨wr.heap.size, 4, none⟩ = some (.int .i64 xd) ∧ W0.cell? ⟨g, k * 5, none⟩ = some (.string ps) ∧ W0.cell? ⟨g, k * 5 + 1, none⟩ = some (.int .i64 pa) ∧ W0.cell? ⟨g, k * 5 + 2, none⟩ = some (.int .i64 pb) ∧ W0.cell? ⟨g, k * 5 + 3, none⟩ = some (.int .i64 pc) ∧ W0.cell? ⟨g, k * 5 + 4, none⟩ = some (.int .i64 pd) ∧ Below w.heap.size w W0) := Lib.hid ⟨e0, e1, e2, e3, e4, p0, p1, p2, p3, p4, HB0⟩
            clear e0 e1 e2 e3 e4 HB0 p0 p1 p2 p3 p4
            have hl := HL.out
            cases lt with
            | true =>
              have hn : Op.bytesLess ps.toList xs.toList = true := hl.symm
              have HT : Hid (okZ zs (j + 1) = true) := Lib.hid (by rw [HN.out, HO.out]; rfl)
              clear hl HS HN KS KN
              go_wp2_with fail
              rw [← HW.out]
              clear HW c0 c1 c2 c3 c4
              go_region_held3 (fun W => W.cell? ⟨wr.heap.size, 0, none⟩ = some (.string xs) ∧ W.cell? ⟨wr.heap.size, 1, none⟩ = some (.int .i64 xa) ∧ W.cell? ⟨wr.heap.size, 2, none⟩ = some (.int .i64 xb) ∧ W.cell? ⟨wr.heap.size, 3, none⟩ = some (.int .i64 xc) ∧ W.cell? ⟨wr.heap.size, 4, none⟩ = some (.int .i64 xd) ∧ W.cell? ⟨g, k * 5, none⟩ = some (.string ps) ∧ W.cell? ⟨g, k * 5 + 1, none⟩ = some (.int .i64 pa) ∧ W.cell? ⟨g, k * 5 + 2, none⟩ = some (.int .i64 pb) ∧ W.cell? ⟨g, k * 5 + 3, none⟩ = some (.int .i64 pc) ∧ W.cell? ⟨g, k * 5 + 4, none⟩ = some (.int .i64 pd) ∧ Below w.heap.size w W) (first | (exact keepI2 KX.out (drewS W0)) | (exact keepI2 KX.out y3) | (exact keepI2 KX.out y2) | (exact keepI2 KX.out y1) | go_keep) ((first
                | (go_at_call 86; refine (V.out _).mono ?_; rintro e x1 ⟨rfl, hx1⟩; have y1 := undrewS hx1)
                | (go_at_call 97; (first
                  | ((with_reducible refine (NP.out _).mono ?_); rintro e x2 ⟨rfl, hx2⟩; have y2 := y1.trans (hx2.mono y1.size))
                  | ((with_reducible refine (NX.out _).mono ?_); rintro e x3 ⟨rfl, hx3⟩; have y3 := y2.trans (hx3.mono y2.size))))))
              rename_i held
              have HH := Lib.hid held.2.2.2.2.2.2.2.2.2.2
              clear held KX
              go_wp2_with fail
              go_roundg (zs.length + 1 - (j + 1))
              case measure => omega
              case rel => exact ⟨j + 1, by go_num, by omega, by omega, HT, HH⟩
            | false =>
              have hn : Op.bytesLess ps.toList xs.toList = false := hl.symm
              have hr : r = false := HS.out rfl
              subst hr
              clear hl HS HN KS KN
              go_wp2_with fail
              rw [← HW.out]
              clear HW c0 c1 c2 c3 c4
              go_region_held3 (fun W => W.cell? ⟨wr.heap.size, 0, none⟩ = some (.string xs) ∧ W.cell? ⟨wr.heap.size, 1, none⟩ = some (.int .i64 xa) ∧ W.cell? ⟨wr.heap.size, 2, none⟩ = some (.int .i64 xb) ∧ W.cell? ⟨wr.heap.size, 3, none⟩ = some (.int .i64 xc) ∧ W.cell? ⟨wr.heap.size, 4, none⟩ = some (.int .i64 xd) ∧ W.cell? ⟨g, k * 5, none⟩ = some (.string ps) ∧ W.cell? ⟨g, k * 5 + 1, none⟩ = some (.int .i64 pa) ∧ W.cell? ⟨g, k * 5 + 2, none⟩ = some (.int .i64 pb) ∧ W.cell? ⟨g, k * 5 + 3, none⟩ = some (.int .i64 pc) ∧ W.cell? ⟨g, k * 5 + 4, none⟩ = some (.int .i64 pd) ∧ Below w.heap.size w W) (first | (exact keepI2 KX.out (drewS W0)) | (exact keepI2 KX.out y3) | (exact keepI2 KX.out y2) | (exact keepI2 KX.out y1) | go_keep) ((first
                | (go_at_call 86; refine (V.out _).mono ?_; rintro e x1 ⟨rfl, hx1⟩; have y1 := undrewS hx1)
                | (go_at_call 97; (first
                  | ((with_reducible refine (NP.out _).mono ?_); rintro e x2 ⟨rfl, hx2⟩; have y2 := y1.trans (hx2.mono y1.size))
                  | ((with_reducible refine (NX.out _).mono ?_); rintro e x3 ⟨rfl, hx3⟩; have y3 := y2.trans (hx3.mono y2.size))))))
              rename_i held
              have HH := Lib.hid held.2.2.2.2.2.2.2.2.2.2
              clear held KX
              go_wp2_with fail
              go_ret
              exact ⟨rfl, HH.out⟩
      · obtain rfl : j = zs.length := by omega
        go_wp2_with fail
        go_ret
        refine ⟨ret_bool ?_, HB.out⟩
        rw [HE.out, HO.out]
set_option maxHeartbeats 400000 in
theorem validStars_any (g cap : Nat) (zs : List StarV) (w : World) (hb : zs.length ≤ 1048577) (h1 : Row w g zs) (hok : ∀ j, (h : j < zs.length) → zs[j].ok) :
    Calls Tryd.prog 65 #[.slice (some ⟨g, 0, none⟩) zs.length cap] w fun e w' => e = .returned (.bool (okL zs)) ∧ Below w.heap.size w w' := by
  have O := Lib.hid (named_any g cap zs w hb h1 hok)
  clear h1 hok
  generalize okL zs = r at *
  go_enter Tryd.func65, Tryd.ntmps65
  go_wp2_with fail
  refine O.out.mono ?_
  rintro e w1 ⟨rfl, hb1⟩
  have HB := Lib.hid hb1
  clear hb1
  go_wp2_with fail
  go_ret
  exact ⟨rfl, HB.out⟩
end Go.Proofs.YtalaalifoklmeaaDoor
