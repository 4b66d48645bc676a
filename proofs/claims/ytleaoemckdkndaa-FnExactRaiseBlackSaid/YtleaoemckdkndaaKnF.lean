/-
  The value of a curve at a level (package impl): levelAt; CurveAt of both packages.
-/
import Derived.Test.YtleaoemckdkndaaKnE
import Derived.Deep.RegionHeld3
namespace Go.Proofs.Ytleaoemckdkndaa.Kn
open Go.RowKit
set_option linter.unusedVariables false

set_option maxRecDepth 100000 in
set_option maxHeartbeats 2000000 in
theorem met_any (g cap b1 b2 : Nat) (zs : List V) (x : Int) (i : Nat) (W : World) (hb : zs.length ≤ 1048577) (hi : i < zs.length) (h1 : Row W g zs) (hc : W.cell? ⟨b1, 0, none⟩ = some (.slice (some ⟨g, 0, none⟩) zs.length cap)) (hx : W.cell? ⟨b2, 0, none⟩ = some (.int .i64 x)) :
    Calls Try.prog 126 #[.int .i64 (i : Int), .pointer (some ⟨b1, 0, none⟩), .pointer (some ⟨b2, 0, none⟩)] W fun e w' => e = .returned (.bool (metB zs x i)) ∧ Below W.heap.size W w' := by
  obtain ⟨c0, c1⟩ := h1.gk i hi
  unfold metB
  generalize (gk zs i).f0 = p0 at *
  have i0 : (0 : Int) ≤ (i : Int) := by omega
  have i1 : (i : Int) < (zs.length : Int) := by omega
  clear h1 c1
  go_enter Try.func126, Try.ntmps126
  go_wp2_with fail
  go_quiet (fail)
  rename Nat => q1
  go_wp2_with fail
  go_ret
  exact ⟨rfl, bel_dK (Below.refl _ _) _⟩
theorem blend_line (x0 y0 x1 y1 x : Int) (h1 : 0 ≤ x0 ∧ x0 ≤ 1000) (h2 : 0 ≤ y0 ∧ y0 ≤ 1000) (h3 : 0 ≤ x1 ∧ x1 ≤ 1000) (h4 : 0 ≤ y1 ∧ y1 ≤ 1000) : blendI x0 y0 x1 y1 x = lineI x0 y0 x1 y1 x := by
  unfold blendI
  rw [if_pos ((inR_4 _ _ _ _ _ _).2 (by omega))]
set_option maxRecDepth 100000 in
set_option maxHeartbeats 3000000 in
theorem levelAt_any (g cap : Nat) (zs : List V) (x : Int) (w : World) (h1 : Row w g zs) (hc : Cur zs) :
    Calls Try.prog 86 #[.slice (some ⟨g, 0, none⟩) zs.length cap, .int .i64 x] w fun e w' => e = .returned (.int .i64 (levI zs x)) ∧ Below w.heap.size w w' := by
  have n2 := hc.n2
  have n16 := hc.n16
  obtain ⟨W0, hW0⟩ : ∃ W0, W0 = (w.alloc (Obj.cells #[.slice (some ⟨g, 0, none⟩) zs.length cap] 100)).alloc (Obj.cells #[.int .i64 x] 2) := ⟨_, rfl⟩
  have hB0 : Below w.heap.size w W0 := by rw [hW0]; exact ((Below.refl _ w).alloc (Nat.le_refl _) _).alloc (by simp) _
  have e0 : W0.cell? ⟨w.heap.size, 0, none⟩ = some (.slice (some ⟨g, 0, none⟩) zs.length cap) := by rw [hW0, World.cell?_alloc_lt _ _ _ (by simp)]; simp
  have e1 : W0.cell? ⟨w.heap.size + 1, 0, none⟩ = some (.int .i64 x) := by rw [hW0]; first | (simp; done) | (rw [show w.heap.size + 1 = (w.alloc (Obj.cells #[.slice (some ⟨g, 0, none⟩) zs.length cap] 100)).heap.size by simp, World.cell?_alloc_at]; rfl)
  have hl0 := World.block_lt_of_cell? W0 ⟨w.heap.size, 0, none⟩ e0
  have hl1 := World.block_lt_of_cell? W0 ⟨w.heap.size + 1, 0, none⟩ e1
  have hlx : (zs.length : Int) - 1 = ((zs.length - 1 : Nat) : Int) := by omega
  have SE := Lib.hid (search_any 126 #[.pointer (some ⟨w.heap.size, 0, none⟩), .pointer (some ⟨w.heap.size + 1, 0, none⟩)] (zs.length - 1) (metB zs x) W0 (enters_of Try.func126 (by kernel_rfl) rfl) (by omega)
    (fun W i hB hi => met_any g cap w.heap.size (w.heap.size + 1) zs x i W (by omega) (by omega) ((h1.below hB0).below hB) ((hB.cell (p := ⟨w.heap.size, 0, none⟩) hl0).trans e0) ((hB.cell (p := ⟨w.heap.size + 1, 0, none⟩) hl1).trans e1))
    (metB_mono hc x))
  have AL := atK_le zs x
  have LV : levI zs x = lineI (gk zs (atK zs x - 1)).f0 (gk zs (atK zs x - 1)).f1 (gk zs (atK zs x)).f0 (gk zs (atK zs x)).f1 x := rfl
  have hcn : cnt (zs.length - 1) (metB zs x) = atK zs x := rfl
  rw [hcn] at SE
  clear hcn
  have RP := Lib.hid (fun (W : World) (hW : Row W g zs) k hk => Row.gk hW k hk)
  have HC := Lib.hid hc
  have H1 := Lib.hid (h1.below hB0)
  have HW := Lib.hid hW0
  have HB0 := Lib.hid hB0
  clear h1 hc hW0 hB0
  generalize atK zs x = a at *
  go_enter Try.func86, Try.ntmps86
  go_wp2_with fail
  rw [← HW.out]
  refine (SE.out).mono ?_
  rintro e w1 ⟨rfl, hb1⟩
  have c0 := (hb1.cell (p := ⟨w.heap.size, 0, none⟩) hl0).trans e0
  have c1 := (hb1.cell (p := ⟨w.heap.size + 1, 0, none⟩) hl1).trans e1
  obtain ⟨p0, p1⟩ := RP.out w1 (H1.out.below hb1) (a - 1) (by omega)
  obtain ⟨q0, q1⟩ := RP.out w1 (H1.out.below hb1) a (by omega)
  have bp := HC.out.i (a - 1) (by omega)
  have bq := HC.out.i a (by omega)
  have HB1 := Lib.hid (HB0.out.trans (hb1.mono HB0.out.size))
  have hs1 := hb1.size
  clear hb1 e0 e1 HW
  generalize (gk zs (a - 1)).f0 = x0 at *
  generalize (gk zs (a - 1)).f1 = y0 at *
  generalize (gk zs a).f0 = x1 at *
  generalize (gk zs a).f1 = y1 at *
  have BL := Lib.hid (fun w => implBlend_any x0 y0 x1 y1 x w)
  rw [blend_line x0 y0 x1 y1 x bp.1 bp.2 bq.1 bq.2, ← LV] at BL
  clear LV bp bq
  have a1 : (a : Int) < (zs.length : Int) := by omega
  have a0 : (0 : Int) ≤ (a : Int) := by omega
  obtain ⟨m, hm⟩ : ∃ m : Nat, m = a - 1 := ⟨_, rfl⟩
  rw [← hm] at p0 p1
  have m0 : (0 : Int) ≤ (m : Int) := by omega
  have m1 : (m : Int) < (zs.length : Int) := by omega
  have hmax : max ((a : Int) - 1) 0 = (m : Int) := by omega
  have HMX := Lib.hid hmax
  have hblk := World.block_lt_of_cell? w1 ⟨w.heap.size, 0, none⟩ c0
  have hblk1 := World.block_lt_of_cell? w1 ⟨w.heap.size + 1, 0, none⟩ c1
  have hblg := World.block_lt_of_cell? w1 ⟨g, a * 2, none⟩ q0
  by_cases ha : a = 0
  · subst ha
    obtain rfl : m = 0 := by omega
    have l0 : (0 : Int) < (zs.length : Int) := by omega
    have l0n : 0 < zs.length := by omega
    clear hm hmax HMX a0 m0 m1 a1
    have wk1 : IntKind.i64.wrap (-1) = -1 := IntWalk.i64_in _ (by omega)
    simp only [Nat.zero_mul] at p0 p1 q0 q1 hblg
    have ex : x0 = x1 := by
      have h := p0.symm.trans q0
      injection h with h
      injection h with _ h
    have ey : y0 = y1 := by
      have h := p1.symm.trans q1
      injection h with h
      injection h with _ h
    subst ex ey
    have K : Hid (w1.cell? ⟨w.heap.size, 0, none⟩ = some (.slice (some ⟨g, 0, none⟩) zs.length cap) ∧ w1.cell? ⟨w.heap.size + 1, 0, none⟩ = some (.int .i64 x) ∧ w1.cell? ⟨g, 0, none⟩ = some (.int .i64 x0) ∧ w1.cell? ⟨g, 0 + 1, none⟩ = some (.int .i64 y0) ∧ w1.cell? ⟨g, 0, none⟩ = some (.int .i64 x0) ∧ w1.cell? ⟨g, 0 + 1, none⟩ = some (.int .i64 y0) ∧ Below w.heap.size w w1) := Lib.hid ⟨c0, c1, p0, p1, q0, q1, HB1.out⟩
    have hg1 := HB1.out.size
    clear p0 p1 q0 q1
    go_wp2_with fail
    clear c0 c1
    refine wp_region_held_drew (S := fun W => W.cell? ⟨w.heap.size, 0, none⟩ = some (.slice (some ⟨g, 0, none⟩) zs.length cap) ∧ W.cell? ⟨w.heap.size + 1, 0, none⟩ = some (.int .i64 x) ∧ W.cell? ⟨g, 0, none⟩ = some (.int .i64 x0) ∧ W.cell? ⟨g, 0 + 1, none⟩ = some (.int .i64 y0) ∧ W.cell? ⟨g, 0, none⟩ = some (.int .i64 x0) ∧ W.cell? ⟨g, 0 + 1, none⟩ = some (.int .i64 y0) ∧ Below w.heap.size w W) (by kernel_rfl) ?_ (fun hHeld => ?_)
    · exact keepW6 K.out (drewG w1)
    refine wpAnyH_take (i := 0) rfl (by kernel_rfl) (by kernel_rfl) (by kernel_rfl) (fun _ _ _ h => h) (Or.inl ⟨by kernel_rfl, fun w hSw => by (try dsimp only at hSw); (try obtain ⟨s0, s1, s2, s3, s4, s5, s6⟩ := hSw); go_simp; (try with_reducible rfl)⟩) hHeld ?_
    try simp only [List.getElem_toArray, List.getElem_cons_zero, List.getElem_cons_succ, Act.put, List.setIfInBounds_toArray, List.set_cons_zero, List.set_cons_succ]
    refine wpAnyH_take (i := 1) rfl (by kernel_rfl) (by kernel_rfl) (by kernel_rfl) (fun _ _ _ h => h) (Or.inl ⟨by kernel_rfl, fun w hSw => by (try dsimp only at hSw); (try obtain ⟨s0, s1, s2, s3, s4, s5, s6⟩ := hSw); go_simp; (try with_reducible rfl)⟩) hHeld ?_
    try simp only [List.getElem_toArray, List.getElem_cons_zero, List.getElem_cons_succ, Act.put, List.setIfInBounds_toArray, List.set_cons_zero, List.set_cons_succ]
    refine wpAnyH_take (i := 2) rfl (by kernel_rfl) (by kernel_rfl) (by kernel_rfl) (fun _ _ _ h => h) (Or.inl ⟨by kernel_rfl, fun w hSw => by (try dsimp only at hSw); (try obtain ⟨s0, s1, s2, s3, s4, s5, s6⟩ := hSw); go_simp; (try with_reducible rfl)⟩) hHeld ?_
    try simp only [List.getElem_toArray, List.getElem_cons_zero, List.getElem_cons_succ, Act.put, List.setIfInBounds_toArray, List.set_cons_zero, List.set_cons_succ]
    refine wpAnyH_take (i := 3) rfl (by kernel_rfl) (by kernel_rfl) (by kernel_rfl) (fun _ _ _ h => h) (Or.inl ⟨by kernel_rfl, fun w hSw => by (try dsimp only at hSw); (try obtain ⟨s0, s1, s2, s3, s4, s5, s6⟩ := hSw); go_simp; (try with_reducible rfl)⟩) hHeld ?_
    try simp only [List.getElem_toArray, List.getElem_cons_zero, List.getElem_cons_succ, Act.put, List.setIfInBounds_toArray, List.set_cons_zero, List.set_cons_succ]
    refine wpAnyH_take (i := 4) rfl (by kernel_rfl) (by kernel_rfl) (by kernel_rfl) (fun _ _ _ h => h) (Or.inl ⟨by kernel_rfl, fun w hSw => by (try dsimp only at hSw); (try obtain ⟨s0, s1, s2, s3, s4, s5, s6⟩ := hSw); go_simp; (try with_reducible rfl)⟩) hHeld ?_
    try simp only [List.getElem_toArray, List.getElem_cons_zero, List.getElem_cons_succ, Act.put, List.setIfInBounds_toArray, List.set_cons_zero, List.set_cons_succ]
    refine wpAnyH_take (i := 5) rfl (by kernel_rfl) (by kernel_rfl) (by kernel_rfl) (fun _ _ _ h => h) (Or.inl ⟨by kernel_rfl, fun w hSw => by (try dsimp only at hSw); (try obtain ⟨s0, s1, s2, s3, s4, s5, s6⟩ := hSw); go_simp; (try with_reducible rfl)⟩) hHeld ?_
    try simp only [List.getElem_toArray, List.getElem_cons_zero, List.getElem_cons_succ, Act.put, List.setIfInBounds_toArray, List.set_cons_zero, List.set_cons_succ]
    refine wpAnyH_take (i := 6) rfl (by kernel_rfl) (by kernel_rfl) (by kernel_rfl) (fun _ _ _ h => h) (Or.inl ⟨by kernel_rfl, fun w hSw => by (try dsimp only at hSw); (try obtain ⟨s0, s1, s2, s3, s4, s5, s6⟩ := hSw); go_simp; (try with_reducible rfl)⟩) hHeld ?_
    try simp only [List.getElem_toArray, List.getElem_cons_zero, List.getElem_cons_succ, Act.put, List.setIfInBounds_toArray, List.set_cons_zero, List.set_cons_succ]
    refine wpAnyH_take (i := 7) rfl (by kernel_rfl) (by kernel_rfl) (by kernel_rfl) (fun _ _ _ h => h) (Or.inl ⟨by kernel_rfl, fun w hSw => by (try dsimp only at hSw); (try obtain ⟨s0, s1, s2, s3, s4, s5, s6⟩ := hSw); go_simp; (try with_reducible rfl)⟩) hHeld ?_
    try simp only [List.getElem_toArray, List.getElem_cons_zero, List.getElem_cons_succ, Act.put, List.setIfInBounds_toArray, List.set_cons_zero, List.set_cons_succ]
    refine wpAnyH_take (i := 8) rfl (by kernel_rfl) (by kernel_rfl) (by kernel_rfl) (fun _ _ _ h => h) (Or.inl ⟨by kernel_rfl, fun w hSw => by (try dsimp only at hSw); (try obtain ⟨s0, s1, s2, s3, s4, s5, s6⟩ := hSw); go_simp; (try with_reducible rfl)⟩) hHeld ?_
    try simp only [List.getElem_toArray, List.getElem_cons_zero, List.getElem_cons_succ, Act.put, List.setIfInBounds_toArray, List.set_cons_zero, List.set_cons_succ]
    refine wpAnyH_take (i := 9) rfl (by kernel_rfl) (by kernel_rfl) (by kernel_rfl) (fun _ _ _ h => h) (Or.inl ⟨by kernel_rfl, fun w hSw => by (try dsimp only at hSw); (try obtain ⟨s0, s1, s2, s3, s4, s5, s6⟩ := hSw); go_simp; (try with_reducible rfl)⟩) hHeld ?_
    try simp only [List.getElem_toArray, List.getElem_cons_zero, List.getElem_cons_succ, Act.put, List.setIfInBounds_toArray, List.set_cons_zero, List.set_cons_succ]
    refine wpAnyH_ready (rs := [10, 11]) (by kernel_rfl) (by simp) ?_
    refine AllReadyH.cons rfl (fun KK hK => ?_) (AllReadyH.cons rfl (fun KK hK => ?_) AllReadyH.nil)
    · go_simp
      refine hK.out _ _ ?_ (fun hH2 => ?_)
      · exact keepW6 K.out (by repeat (first | exact Below.refl _ _ | refine bel_drew ?_ | refine Below.setCell ?_ (by first | (simp; done) | omega | (simp; omega)) _ | refine Below.alloc ?_ (by first | (simp; done) | omega | (simp; omega)) _))
      clear hK KK hHeld
      try simp only [List.getElem_toArray, List.getElem_cons_zero, List.getElem_cons_succ, Act.put, List.setIfInBounds_toArray, List.set_cons_zero, List.set_cons_succ]
      refine wpAnyH_ready (rs := [11]) (by kernel_rfl) (by simp) ?_
      refine AllReadyH.cons rfl (fun KK hK => ?_) AllReadyH.nil
      go_simp
      refine hK.out _ _ ?_ (fun hH3 => ?_)
      · exact keepW6 K.out (by repeat (first | exact Below.refl _ _ | refine bel_drew ?_ | refine Below.setCell ?_ (by first | (simp; done) | omega | (simp; omega)) _ | refine Below.alloc ?_ (by first | (simp; done) | omega | (simp; omega)) _))
      clear hK KK hH2
      try simp only [List.getElem_toArray, List.getElem_cons_zero, List.getElem_cons_succ, Act.put, List.setIfInBounds_toArray, List.set_cons_zero, List.set_cons_succ]
      refine wpAnyH_ready (rs := [12]) (by kernel_rfl) (by simp) ?_
      refine AllReadyH.cons rfl (fun KK hK => ?_) AllReadyH.nil
      go_simp
      refine hK.out _ _ ?_ (fun hH4 => ?_)
      · exact keepW6 K.out (by repeat (first | exact Below.refl _ _ | refine bel_drew ?_ | refine Below.setCell ?_ (by first | (simp; done) | omega | (simp; omega)) _ | refine Below.alloc ?_ (by first | (simp; done) | omega | (simp; omega)) _))
      clear hK KK hH3
      try simp only [List.getElem_toArray, List.getElem_cons_zero, List.getElem_cons_succ, Act.put, List.setIfInBounds_toArray, List.set_cons_zero, List.set_cons_succ]
      refine wpAnyH_ready (rs := [13]) (by kernel_rfl) (by simp) ?_
      refine AllReadyH.cons rfl (fun KK hK => ?_) AllReadyH.nil
      go_simp
      refine hK.out _ _ ?_ (fun hH5 => ?_)
      · exact keepW6 K.out (by repeat (first | exact Below.refl _ _ | refine bel_drew ?_ | refine Below.setCell ?_ (by first | (simp; done) | omega | (simp; omega)) _ | refine Below.alloc ?_ (by first | (simp; done) | omega | (simp; omega)) _))
      clear hK KK hH4
      try simp only [List.getElem_toArray, List.getElem_cons_zero, List.getElem_cons_succ, Act.put, List.setIfInBounds_toArray, List.set_cons_zero, List.set_cons_succ]
      refine wpAnyH_done (by kernel_rfl) ?_ _
      have HH := Lib.hid hH5
      obtain ⟨d0, d1, _, _, _, _, hB⟩ := hH5
      have HB5 := Lib.hid hB
      clear K hB
      go_wp2_with fail
      refine (BL.out _).mono ?_
      rintro e w2 ⟨rfl, hb2⟩
      have HB2 := Lib.hid (HB5.out.trans (hb2.mono HB5.out.size))
      clear hb2
      go_wp2_with fail
      go_ret
      exact ⟨rfl, HB2.out⟩
    · go_simp
      refine hK.out _ _ ?_ (fun hH2 => ?_)
      · exact keepW6 K.out (by repeat (first | exact Below.refl _ _ | refine bel_drew ?_ | refine Below.setCell ?_ (by first | (simp; done) | omega | (simp; omega)) _ | refine Below.alloc ?_ (by first | (simp; done) | omega | (simp; omega)) _))
      clear hK KK hHeld
      try simp only [List.getElem_toArray, List.getElem_cons_zero, List.getElem_cons_succ, Act.put, List.setIfInBounds_toArray, List.set_cons_zero, List.set_cons_succ]
      refine wpAnyH_ready (rs := [10]) (by kernel_rfl) (by simp) ?_
      refine AllReadyH.cons rfl (fun KK hK => ?_) AllReadyH.nil
      go_simp
      refine hK.out _ _ ?_ (fun hH3 => ?_)
      · exact keepW6 K.out (by repeat (first | exact Below.refl _ _ | refine bel_drew ?_ | refine Below.setCell ?_ (by first | (simp; done) | omega | (simp; omega)) _ | refine Below.alloc ?_ (by first | (simp; done) | omega | (simp; omega)) _))
      clear hK KK hH2
      try simp only [List.getElem_toArray, List.getElem_cons_zero, List.getElem_cons_succ, Act.put, List.setIfInBounds_toArray, List.set_cons_zero, List.set_cons_succ]
      refine wpAnyH_ready (rs := [12]) (by kernel_rfl) (by simp) ?_
      refine AllReadyH.cons rfl (fun KK hK => ?_) AllReadyH.nil
      go_simp
      refine hK.out _ _ ?_ (fun hH4 => ?_)
      · exact keepW6 K.out (by repeat (first | exact Below.refl _ _ | refine bel_drew ?_ | refine Below.setCell ?_ (by first | (simp; done) | omega | (simp; omega)) _ | refine Below.alloc ?_ (by first | (simp; done) | omega | (simp; omega)) _))
      clear hK KK hH3
      try simp only [List.getElem_toArray, List.getElem_cons_zero, List.getElem_cons_succ, Act.put, List.setIfInBounds_toArray, List.set_cons_zero, List.set_cons_succ]
      refine wpAnyH_ready (rs := [13]) (by kernel_rfl) (by simp) ?_
      refine AllReadyH.cons rfl (fun KK hK => ?_) AllReadyH.nil
      go_simp
      refine hK.out _ _ ?_ (fun hH5 => ?_)
      · exact keepW6 K.out (by repeat (first | exact Below.refl _ _ | refine bel_drew ?_ | refine Below.setCell ?_ (by first | (simp; done) | omega | (simp; omega)) _ | refine Below.alloc ?_ (by first | (simp; done) | omega | (simp; omega)) _))
      clear hK KK hH4
      try simp only [List.getElem_toArray, List.getElem_cons_zero, List.getElem_cons_succ, Act.put, List.setIfInBounds_toArray, List.set_cons_zero, List.set_cons_succ]
      refine wpAnyH_done (by kernel_rfl) ?_ _
      have HH := Lib.hid hH5
      obtain ⟨d0, d1, _, _, _, _, hB⟩ := hH5
      have HB5 := Lib.hid hB
      clear K hB
      go_wp2_with fail
      refine (BL.out _).mono ?_
      rintro e w2 ⟨rfl, hb2⟩
      have HB2 := Lib.hid (HB5.out.trans (hb2.mono HB5.out.size))
      clear hb2
      go_wp2_with fail
      go_ret
      exact ⟨rfl, HB2.out⟩
  · obtain rfl : a = m + 1 := by omega
    clear hm hmax HMX
    have ek : ((m + 1 : Nat) : Int) - 1 = (m : Int) := by omega
    have hle : ¬ (m : Int) < 0 := by omega
    have hif : (if (m : Int) < 0 then (0 : Int) else (m : Int)) = (m : Int) := if_neg hle
    have l3 : (0 : Int) ≤ (m : Int) + 1 := by omega
    have l4 : (m : Int) + 1 < (zs.length : Int) := by omega
    have l5 : m + 1 < zs.length := by omega
    have l6 : m < zs.length := by omega
    have wkm : IntKind.i64.wrap (m : Int) = (m : Int) := IntWalk.i64_in _ (by omega)
    have K : Hid (w1.cell? ⟨w.heap.size, 0, none⟩ = some (.slice (some ⟨g, 0, none⟩) zs.length cap) ∧ w1.cell? ⟨w.heap.size + 1, 0, none⟩ = some (.int .i64 x) ∧ w1.cell? ⟨g, m * 2, none⟩ = some (.int .i64 x0) ∧ w1.cell? ⟨g, m * 2 + 1, none⟩ = some (.int .i64 y0) ∧ w1.cell? ⟨g, (m + 1) * 2, none⟩ = some (.int .i64 x1) ∧ w1.cell? ⟨g, (m + 1) * 2 + 1, none⟩ = some (.int .i64 y1) ∧ Below w.heap.size w w1) := Lib.hid ⟨c0, c1, p0, p1, q0, q1, HB1.out⟩
    have hg1 := HB1.out.size
    clear p0 p1 q0 q1
    go_wp2_with fail
    clear c0 c1
    refine wp_region_held_drew (S := fun W => W.cell? ⟨w.heap.size, 0, none⟩ = some (.slice (some ⟨g, 0, none⟩) zs.length cap) ∧ W.cell? ⟨w.heap.size + 1, 0, none⟩ = some (.int .i64 x) ∧ W.cell? ⟨g, m * 2, none⟩ = some (.int .i64 x0) ∧ W.cell? ⟨g, m * 2 + 1, none⟩ = some (.int .i64 y0) ∧ W.cell? ⟨g, (m + 1) * 2, none⟩ = some (.int .i64 x1) ∧ W.cell? ⟨g, (m + 1) * 2 + 1, none⟩ = some (.int .i64 y1) ∧ Below w.heap.size w W) (by kernel_rfl) ?_ (fun hHeld => ?_)
    · exact keepW6 K.out (drewG w1)
    refine wpAnyH_take (i := 0) rfl (by kernel_rfl) (by kernel_rfl) (by kernel_rfl) (fun _ _ _ h => h) (Or.inl ⟨by kernel_rfl, fun w hSw => by (try dsimp only at hSw); (try obtain ⟨s0, s1, s2, s3, s4, s5, s6⟩ := hSw); go_simp; (try with_reducible rfl)⟩) hHeld ?_
    try simp only [List.getElem_toArray, List.getElem_cons_zero, List.getElem_cons_succ, Act.put, List.setIfInBounds_toArray, List.set_cons_zero, List.set_cons_succ]
    refine wpAnyH_take (i := 1) rfl (by kernel_rfl) (by kernel_rfl) (by kernel_rfl) (fun _ _ _ h => h) (Or.inl ⟨by kernel_rfl, fun w hSw => by (try dsimp only at hSw); (try obtain ⟨s0, s1, s2, s3, s4, s5, s6⟩ := hSw); go_simp; (try with_reducible rfl)⟩) hHeld ?_
    try simp only [List.getElem_toArray, List.getElem_cons_zero, List.getElem_cons_succ, Act.put, List.setIfInBounds_toArray, List.set_cons_zero, List.set_cons_succ]
    refine wpAnyH_take (i := 2) rfl (by kernel_rfl) (by kernel_rfl) (by kernel_rfl) (fun _ _ _ h => h) (Or.inl ⟨by kernel_rfl, fun w hSw => by (try dsimp only at hSw); (try obtain ⟨s0, s1, s2, s3, s4, s5, s6⟩ := hSw); go_simp; (try with_reducible rfl)⟩) hHeld ?_
    try simp only [List.getElem_toArray, List.getElem_cons_zero, List.getElem_cons_succ, Act.put, List.setIfInBounds_toArray, List.set_cons_zero, List.set_cons_succ]
    refine wpAnyH_take (i := 3) rfl (by kernel_rfl) (by kernel_rfl) (by kernel_rfl) (fun _ _ _ h => h) (Or.inl ⟨by kernel_rfl, fun w hSw => by (try dsimp only at hSw); (try obtain ⟨s0, s1, s2, s3, s4, s5, s6⟩ := hSw); go_simp; (try with_reducible rfl)⟩) hHeld ?_
    try simp only [List.getElem_toArray, List.getElem_cons_zero, List.getElem_cons_succ, Act.put, List.setIfInBounds_toArray, List.set_cons_zero, List.set_cons_succ]
    refine wpAnyH_take (i := 4) rfl (by kernel_rfl) (by kernel_rfl) (by kernel_rfl) (fun _ _ _ h => h) (Or.inl ⟨by kernel_rfl, fun w hSw => by (try dsimp only at hSw); (try obtain ⟨s0, s1, s2, s3, s4, s5, s6⟩ := hSw); go_simp; (try with_reducible rfl)⟩) hHeld ?_
    try simp only [List.getElem_toArray, List.getElem_cons_zero, List.getElem_cons_succ, Act.put, List.setIfInBounds_toArray, List.set_cons_zero, List.set_cons_succ]
    refine wpAnyH_take (i := 5) rfl (by kernel_rfl) (by kernel_rfl) (by kernel_rfl) (fun _ _ _ h => h) (Or.inl ⟨by kernel_rfl, fun w hSw => by (try dsimp only at hSw); (try obtain ⟨s0, s1, s2, s3, s4, s5, s6⟩ := hSw); go_simp; (try with_reducible rfl)⟩) hHeld ?_
    try simp only [List.getElem_toArray, List.getElem_cons_zero, List.getElem_cons_succ, Act.put, List.setIfInBounds_toArray, List.set_cons_zero, List.set_cons_succ]
    refine wpAnyH_take (i := 6) rfl (by kernel_rfl) (by kernel_rfl) (by kernel_rfl) (fun _ _ _ h => h) (Or.inl ⟨by kernel_rfl, fun w hSw => by (try dsimp only at hSw); (try obtain ⟨s0, s1, s2, s3, s4, s5, s6⟩ := hSw); go_simp; (try with_reducible rfl)⟩) hHeld ?_
    try simp only [List.getElem_toArray, List.getElem_cons_zero, List.getElem_cons_succ, Act.put, List.setIfInBounds_toArray, List.set_cons_zero, List.set_cons_succ]
    refine wpAnyH_take (i := 7) rfl (by kernel_rfl) (by kernel_rfl) (by kernel_rfl) (fun _ _ _ h => h) (Or.inl ⟨by kernel_rfl, fun w hSw => by (try dsimp only at hSw); (try obtain ⟨s0, s1, s2, s3, s4, s5, s6⟩ := hSw); go_simp; (try with_reducible rfl)⟩) hHeld ?_
    try simp only [List.getElem_toArray, List.getElem_cons_zero, List.getElem_cons_succ, Act.put, List.setIfInBounds_toArray, List.set_cons_zero, List.set_cons_succ]
    refine wpAnyH_take (i := 8) rfl (by kernel_rfl) (by kernel_rfl) (by kernel_rfl) (fun _ _ _ h => h) (Or.inl ⟨by kernel_rfl, fun w hSw => by (try dsimp only at hSw); (try obtain ⟨s0, s1, s2, s3, s4, s5, s6⟩ := hSw); go_simp; (try with_reducible rfl)⟩) hHeld ?_
    try simp only [List.getElem_toArray, List.getElem_cons_zero, List.getElem_cons_succ, Act.put, List.setIfInBounds_toArray, List.set_cons_zero, List.set_cons_succ]
    refine wpAnyH_take (i := 9) rfl (by kernel_rfl) (by kernel_rfl) (by kernel_rfl) (fun _ _ _ h => h) (Or.inl ⟨by kernel_rfl, fun w hSw => by (try dsimp only at hSw); (try obtain ⟨s0, s1, s2, s3, s4, s5, s6⟩ := hSw); go_simp; (try with_reducible rfl)⟩) hHeld ?_
    try simp only [List.getElem_toArray, List.getElem_cons_zero, List.getElem_cons_succ, Act.put, List.setIfInBounds_toArray, List.set_cons_zero, List.set_cons_succ]
    refine wpAnyH_ready (rs := [10, 11]) (by kernel_rfl) (by simp) ?_
    refine AllReadyH.cons rfl (fun KK hK => ?_) (AllReadyH.cons rfl (fun KK hK => ?_) AllReadyH.nil)
    · go_simp
      refine hK.out _ _ ?_ (fun hH2 => ?_)
      · exact keepW6 K.out (by repeat (first | exact Below.refl _ _ | refine bel_drew ?_ | refine Below.setCell ?_ (by first | (simp; done) | omega | (simp; omega)) _ | refine Below.alloc ?_ (by first | (simp; done) | omega | (simp; omega)) _))
      clear hK KK hHeld
      try simp only [List.getElem_toArray, List.getElem_cons_zero, List.getElem_cons_succ, Act.put, List.setIfInBounds_toArray, List.set_cons_zero, List.set_cons_succ]
      refine wpAnyH_ready (rs := [11]) (by kernel_rfl) (by simp) ?_
      refine AllReadyH.cons rfl (fun KK hK => ?_) AllReadyH.nil
      go_simp
      refine hK.out _ _ ?_ (fun hH3 => ?_)
      · exact keepW6 K.out (by repeat (first | exact Below.refl _ _ | refine bel_drew ?_ | refine Below.setCell ?_ (by first | (simp; done) | omega | (simp; omega)) _ | refine Below.alloc ?_ (by first | (simp; done) | omega | (simp; omega)) _))
      clear hK KK hH2
      try simp only [List.getElem_toArray, List.getElem_cons_zero, List.getElem_cons_succ, Act.put, List.setIfInBounds_toArray, List.set_cons_zero, List.set_cons_succ]
      refine wpAnyH_ready (rs := [12]) (by kernel_rfl) (by simp) ?_
      refine AllReadyH.cons rfl (fun KK hK => ?_) AllReadyH.nil
      go_simp
      refine hK.out _ _ ?_ (fun hH4 => ?_)
      · exact keepW6 K.out (by repeat (first | exact Below.refl _ _ | refine bel_drew ?_ | refine Below.setCell ?_ (by first | (simp; done) | omega | (simp; omega)) _ | refine Below.alloc ?_ (by first | (simp; done) | omega | (simp; omega)) _))
      clear hK KK hH3
      try simp only [List.getElem_toArray, List.getElem_cons_zero, List.getElem_cons_succ, Act.put, List.setIfInBounds_toArray, List.set_cons_zero, List.set_cons_succ]
      refine wpAnyH_ready (rs := [13]) (by kernel_rfl) (by simp) ?_
      refine AllReadyH.cons rfl (fun KK hK => ?_) AllReadyH.nil
      go_simp
      refine hK.out _ _ ?_ (fun hH5 => ?_)
      · exact keepW6 K.out (by repeat (first | exact Below.refl _ _ | refine bel_drew ?_ | refine Below.setCell ?_ (by first | (simp; done) | omega | (simp; omega)) _ | refine Below.alloc ?_ (by first | (simp; done) | omega | (simp; omega)) _))
      clear hK KK hH4
      try simp only [List.getElem_toArray, List.getElem_cons_zero, List.getElem_cons_succ, Act.put, List.setIfInBounds_toArray, List.set_cons_zero, List.set_cons_succ]
      refine wpAnyH_done (by kernel_rfl) ?_ _
      have HH := Lib.hid hH5
      obtain ⟨d0, d1, _, _, _, _, hB⟩ := hH5
      have HB5 := Lib.hid hB
      clear K hB
      go_wp2_with fail
      refine (BL.out _).mono ?_
      rintro e w2 ⟨rfl, hb2⟩
      have HB2 := Lib.hid (HB5.out.trans (hb2.mono HB5.out.size))
      clear hb2
      go_wp2_with fail
      go_ret
      exact ⟨rfl, HB2.out⟩
    · go_simp
      refine hK.out _ _ ?_ (fun hH2 => ?_)
      · exact keepW6 K.out (by repeat (first | exact Below.refl _ _ | refine bel_drew ?_ | refine Below.setCell ?_ (by first | (simp; done) | omega | (simp; omega)) _ | refine Below.alloc ?_ (by first | (simp; done) | omega | (simp; omega)) _))
      clear hK KK hHeld
      try simp only [List.getElem_toArray, List.getElem_cons_zero, List.getElem_cons_succ, Act.put, List.setIfInBounds_toArray, List.set_cons_zero, List.set_cons_succ]
      refine wpAnyH_ready (rs := [10]) (by kernel_rfl) (by simp) ?_
      refine AllReadyH.cons rfl (fun KK hK => ?_) AllReadyH.nil
      go_simp
      refine hK.out _ _ ?_ (fun hH3 => ?_)
      · exact keepW6 K.out (by repeat (first | exact Below.refl _ _ | refine bel_drew ?_ | refine Below.setCell ?_ (by first | (simp; done) | omega | (simp; omega)) _ | refine Below.alloc ?_ (by first | (simp; done) | omega | (simp; omega)) _))
      clear hK KK hH2
      try simp only [List.getElem_toArray, List.getElem_cons_zero, List.getElem_cons_succ, Act.put, List.setIfInBounds_toArray, List.set_cons_zero, List.set_cons_succ]
      refine wpAnyH_ready (rs := [12]) (by kernel_rfl) (by simp) ?_
      refine AllReadyH.cons rfl (fun KK hK => ?_) AllReadyH.nil
      go_simp
      refine hK.out _ _ ?_ (fun hH4 => ?_)
      · exact keepW6 K.out (by repeat (first | exact Below.refl _ _ | refine bel_drew ?_ | refine Below.setCell ?_ (by first | (simp; done) | omega | (simp; omega)) _ | refine Below.alloc ?_ (by first | (simp; done) | omega | (simp; omega)) _))
      clear hK KK hH3
      try simp only [List.getElem_toArray, List.getElem_cons_zero, List.getElem_cons_succ, Act.put, List.setIfInBounds_toArray, List.set_cons_zero, List.set_cons_succ]
      refine wpAnyH_ready (rs := [13]) (by kernel_rfl) (by simp) ?_
      refine AllReadyH.cons rfl (fun KK hK => ?_) AllReadyH.nil
      go_simp
      refine hK.out _ _ ?_ (fun hH5 => ?_)
      · exact keepW6 K.out (by repeat (first | exact Below.refl _ _ | refine bel_drew ?_ | refine Below.setCell ?_ (by first | (simp; done) | omega | (simp; omega)) _ | refine Below.alloc ?_ (by first | (simp; done) | omega | (simp; omega)) _))
      clear hK KK hH4
      try simp only [List.getElem_toArray, List.getElem_cons_zero, List.getElem_cons_succ, Act.put, List.setIfInBounds_toArray, List.set_cons_zero, List.set_cons_succ]
      refine wpAnyH_done (by kernel_rfl) ?_ _
      have HH := Lib.hid hH5
      obtain ⟨d0, d1, _, _, _, _, hB⟩ := hH5
      have HB5 := Lib.hid hB
      clear K hB
      go_wp2_with fail
      refine (BL.out _).mono ?_
      rintro e w2 ⟨rfl, hb2⟩
      have HB2 := Lib.hid (HB5.out.trans (hb2.mono HB5.out.size))
      clear hb2
      go_wp2_with fail
      go_ret
      exact ⟨rfl, HB2.out⟩
end Go.Proofs.Ytleaoemckdkndaa.Kn
