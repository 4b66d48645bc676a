/-
  SlowTrack's closure (package impl).
-/
import Derived.Test.YtdbocpcijkngpaaTkQ
import Derived.Test.YtdbocpcijkngpaaTkS
import Derived.Deep.RegionLaw
import Derived.Deep.AppendLies
namespace Go.Proofs.Ytdbocpcijkngpaa.Tk
open Go.RowKit
open Ky (V In Own Row At gk)
set_option linter.unusedVariables false

/-- What the closure holds: the time, the key before, the speed. -/
structure SL (W : World) (bs bb : Nat) (v tm x0 x1 : Int) : Prop where
  t : W.cell? ⟨bb + 1, 0, none⟩ = some (.int .i64 tm)
  b0 : W.cell? ⟨bb, 0, none⟩ = some (.int .i64 x0)
  b1 : W.cell? ⟨bb, 1, none⟩ = some (.int .i64 x1)
  s : W.cell? ⟨bs, 0, none⟩ = some (.int .i64 v)
  ft : W.frozen? ⟨bb + 1, 0, none⟩ = false
  f0 : W.frozen? ⟨bb, 0, none⟩ = false
  f1 : W.frozen? ⟨bb, 1, none⟩ = false
theorem SL.of {W W' : World} {bs bb B : Nat} {v tm x0 x1 : Int} (h : SL W bs bb v tm x0 x1) (hb : Below B W W') (hB : bb + 1 < B) (hs : bs < B) : SL W' bs bb v tm x0 x1 := by
  have k1 := hb.block (bb + 1) hB
  have k0 := hb.block bb (by omega)
  exact ⟨(hb.cell (p := ⟨bb + 1, 0, none⟩) hB).trans h.t, (hb.cell (p := ⟨bb, 0, none⟩) (show bb < B by omega)).trans h.b0, (hb.cell (p := ⟨bb, 1, none⟩) (show bb < B by omega)).trans h.b1, (hb.cell (p := ⟨bs, 0, none⟩) hs).trans h.s,
    (World.frozen?_of_block (a := ⟨bb + 1, 0, none⟩) k1).trans h.ft, (World.frozen?_of_block (a := ⟨bb, 0, none⟩) k0).trans h.f0, (World.frozen?_of_block (a := ⟨bb, 1, none⟩) k0).trans h.f1⟩
set_option maxRecDepth 100000 in
set_option maxHeartbeats 2000000 in
theorem slow1_any (bs bb : Nat) (v tm x0 x1 y0 y1 m : Int) (w : World) (hbs : bs < bb) (hS : SL w bs bb v tm x0 x1) (hx : -1000000 ≤ x1 ∧ x1 ≤ 1000000) (hy : -1000000 ≤ y1 ∧ y1 ≤ 1000000) (hx0 : 0 ≤ x0 ∧ x0 ≤ 7200000) (hy0 : 0 ≤ y0 ∧ y0 ≤ 7200000) (hv : 1 ≤ v ∧ v ≤ 1000000) (ht : 0 ≤ tm ∧ tm ≤ 100000000000)
    (hm : m = if y0 - x0 < upQ (sz (y1 - x1) * 1000) v then upQ (sz (y1 - x1) * 1000) v else y0 - x0) :
    Calls Try.prog 92 #[.agg #[.int .i64 y0, .int .i64 y1], .pointer (some ⟨bb + 1, 0, none⟩), .pointer (some ⟨bb, 0, none⟩), .pointer (some ⟨bs, 0, none⟩)] w fun e w' => e = .returned (.int .i64 (tm + m)) ∧ SL w' bs bb v (tm + m) y0 y1 ∧ Mod bb (bb + 2) w w' := by
  have hl := World.block_lt_of_cell? w ⟨bb + 1, 0, none⟩ hS.t
  have hl' : bb + 1 < w.heap.size := hl
  have CT := Lib.hid (fun w => changeTo_any x0 x1 y0 y1 hx hy w)
  have s0 := sz_nonneg (y1 - x1)
  have s1 := sz_le (y1 - x1) 2000000 (by omega) (by omega)
  obtain ⟨z, hz⟩ : ∃ z, z = sz (y1 - x1) := ⟨_, rfl⟩
  rw [← hz] at CT s0 s1 hm
  clear hz
  have QU := Lib.hid (fun w => quotientUp_any (z * 1000) v w (by omega) (by omega) (by omega) (by omega))
  have qb := upQ_bd (z * 1000) v 2000000000 (by omega) (by omega) (by omega)
  obtain ⟨q, hq⟩ : ∃ q, q = upQ (z * 1000) v := ⟨_, rfl⟩
  rw [← hq] at QU qb hm
  clear hq
  have w1 : IntKind.i64.wrap (y0 - x0) = y0 - x0 := IntWalk.i64_in _ (by omega)
  have hmb : -7200000 ≤ m ∧ m ≤ 2000000000 := by rw [hm]; split <;> omega
  have w2 : IntKind.i64.wrap (tm + m) = tm + m := IntWalk.i64_in _ (by omega)
  have hm2 := hm.symm
  obtain ⟨W0, hW0⟩ : ∃ W, W = w.alloc (Obj.cells #[.int .i64 y0, .int .i64 y1] 48) := ⟨_, rfl⟩
  have hB0 : Below w.heap.size w W0 := by rw [hW0]; exact (Below.refl _ _).alloc (Nat.le_refl _) _
  have hs0 : W0.heap.size = w.heap.size + 1 := by rw [hW0]; simp
  have e0 : W0.cell? ⟨w.heap.size, 0, none⟩ = some (.int .i64 y0) := by rw [hW0]; simp
  have e1 : W0.cell? ⟨w.heap.size, 1, none⟩ = some (.int .i64 y1) := by rw [hW0]; simp
  have S0 := hS.of hB0 hl' (by omega)
  have HS0 := Lib.hid S0
  have HB0 := Lib.hid hB0
  obtain ⟨a0, a1, a2, a3, a4, a5, a6⟩ := S0
  have HW := Lib.hid hW0
  have HM := Lib.hid hm
  clear hS hW0 hB0 hm
  go_enter Try.func92, Try.ntmps92
  go_wp2_with fail
  rw [← HW.out]
  clear HW
  have KE0 := Lib.hid e0
  have KE1 := Lib.hid e1
  have hbW : Below W0.heap.size W0 W0.drew := drewG W0
  clear a0 a1 a2 a3 a4 a5 a6 e0 e1
  refine wp_region_held_drew (S := fun W => W.cell? ⟨bb, 0, none⟩ = some (.int .i64 x0) ∧ W.cell? ⟨bb, 1, none⟩ = some (.int .i64 x1) ∧ W.cell? ⟨bs, 0, none⟩ = some (.int .i64 v) ∧ W.cell? ⟨w.heap.size, 0, none⟩ = some (.int .i64 y0) ∧ W.cell? ⟨w.heap.size, 1, none⟩ = some (.int .i64 y1)) (by kernel_rfl) ?_ (fun hHeld => ?_)
  · exact ⟨(HS0.out.of hbW (by omega) (by omega)).b0, (HS0.out.of hbW (by omega) (by omega)).b1, (HS0.out.of hbW (by omega) (by omega)).s, (hbW.cell (p := ⟨w.heap.size, 0, none⟩) (show w.heap.size < W0.heap.size by omega)).trans KE0.out, (hbW.cell (p := ⟨w.heap.size, 1, none⟩) (show w.heap.size < W0.heap.size by omega)).trans KE1.out⟩
  refine wpAnyH_take (i := 1) rfl (by kernel_rfl) (by kernel_rfl) (by kernel_rfl) (fun _ _ _ h => h) (Or.inl ⟨by kernel_rfl, fun w hSw => by (try dsimp only at hSw); (try obtain ⟨s0, s1, s2, s3, s4⟩ := hSw); go_simp; (try with_reducible rfl)⟩) hHeld ?_
  try simp only [List.getElem_toArray, List.getElem_cons_zero, List.getElem_cons_succ, Act.put, List.setIfInBounds_toArray, List.set_cons_zero, List.set_cons_succ]
  refine wpAnyH_take (i := 2) rfl (by kernel_rfl) (by kernel_rfl) (by kernel_rfl) (fun _ _ _ h => h) (Or.inl ⟨by kernel_rfl, fun w hSw => by (try dsimp only at hSw); (try obtain ⟨s0, s1, s2, s3, s4⟩ := hSw); go_simp; (try with_reducible rfl)⟩) hHeld ?_
  try simp only [List.getElem_toArray, List.getElem_cons_zero, List.getElem_cons_succ, Act.put, List.setIfInBounds_toArray, List.set_cons_zero, List.set_cons_succ]
  refine wpAnyH_take (i := 3) rfl (by kernel_rfl) (by kernel_rfl) (by kernel_rfl) (fun _ _ _ h => h) (Or.inl ⟨by kernel_rfl, fun w hSw => by (try dsimp only at hSw); (try obtain ⟨s0, s1, s2, s3, s4⟩ := hSw); go_simp; (try with_reducible rfl)⟩) hHeld ?_
  try simp only [List.getElem_toArray, List.getElem_cons_zero, List.getElem_cons_succ, Act.put, List.setIfInBounds_toArray, List.set_cons_zero, List.set_cons_succ]
  refine wpAnyH_take (i := 4) rfl (by kernel_rfl) (by kernel_rfl) (by kernel_rfl) (fun _ _ _ h => h) (Or.inl ⟨by kernel_rfl, fun w hSw => by (try dsimp only at hSw); (try obtain ⟨s0, s1, s2, s3, s4⟩ := hSw); go_simp; (try with_reducible rfl)⟩) hHeld ?_
  try simp only [List.getElem_toArray, List.getElem_cons_zero, List.getElem_cons_succ, Act.put, List.setIfInBounds_toArray, List.set_cons_zero, List.set_cons_succ]
  refine wpAnyH_take (i := 5) rfl (by kernel_rfl) (by kernel_rfl) (by kernel_rfl) (fun _ _ _ h => h) (Or.inl ⟨by kernel_rfl, fun w hSw => by (try dsimp only at hSw); (try obtain ⟨s0, s1, s2, s3, s4⟩ := hSw); go_simp; (try with_reducible rfl)⟩) hHeld ?_
  try simp only [List.getElem_toArray, List.getElem_cons_zero, List.getElem_cons_succ, Act.put, List.setIfInBounds_toArray, List.set_cons_zero, List.set_cons_succ]
  refine wpAnyH_take (i := 6) rfl (by kernel_rfl) (by kernel_rfl) (by kernel_rfl) (fun _ _ _ h => h) (Or.inl ⟨by kernel_rfl, fun w hSw => by (try dsimp only at hSw); (try obtain ⟨s0, s1, s2, s3, s4⟩ := hSw); go_simp; (try with_reducible rfl)⟩) hHeld ?_
  try simp only [List.getElem_toArray, List.getElem_cons_zero, List.getElem_cons_succ, Act.put, List.setIfInBounds_toArray, List.set_cons_zero, List.set_cons_succ]
  refine wpAnyH_take (i := 7) rfl (by kernel_rfl) (by kernel_rfl) (by kernel_rfl) (fun _ _ _ h => h) (Or.inl ⟨by kernel_rfl, fun w hSw => by (try dsimp only at hSw); (try obtain ⟨s0, s1, s2, s3, s4⟩ := hSw); go_simp; (try with_reducible rfl)⟩) hHeld ?_
  try simp only [List.getElem_toArray, List.getElem_cons_zero, List.getElem_cons_succ, Act.put, List.setIfInBounds_toArray, List.set_cons_zero, List.set_cons_succ]
  refine wpAnyH_take (i := 9) rfl (by kernel_rfl) (by kernel_rfl) (by kernel_rfl) (fun _ _ _ h => h) (Or.inl ⟨by kernel_rfl, fun w hSw => by (try dsimp only at hSw); (try obtain ⟨s0, s1, s2, s3, s4⟩ := hSw); go_simp; (try with_reducible rfl)⟩) hHeld ?_
  try simp only [List.getElem_toArray, List.getElem_cons_zero, List.getElem_cons_succ, Act.put, List.setIfInBounds_toArray, List.set_cons_zero, List.set_cons_succ]
  refine wpAnyH_ready (rs := [0, 8]) (by kernel_rfl) (by simp) ?_
  refine AllReadyH.cons rfl (fun KK hK => ?_) (AllReadyH.cons rfl (fun KK hK => ?_) AllReadyH.nil)
  · have zt := (HS0.out.of hbW (by omega) (by omega)).t
    go_simp
    refine hK.out _ _ hHeld (fun hA => ?_)
    clear hK KK zt
    try simp only [List.getElem_toArray, List.getElem_cons_zero, List.getElem_cons_succ, Act.put, List.setIfInBounds_toArray, List.set_cons_zero, List.set_cons_succ]
    refine wpAnyH_ready (rs := [8]) (by kernel_rfl) (by simp) ?_
    refine AllReadyH.cons rfl (fun KK hK => ?_) AllReadyH.nil
    go_simp
    first | go_at_call 88 | skip
    refine (CT.out _).mono ?_
    rintro e w5 ⟨rfl, hb5⟩
    have hb6 := undrewG hb5
    refine hK.out _ _ ?_ (fun hB => ?_)
    · exact ⟨(HS0.out.of hb6 (by omega) (by omega)).b0, (HS0.out.of hb6 (by omega) (by omega)).b1, (HS0.out.of hb6 (by omega) (by omega)).s, (hb6.cell (p := ⟨w.heap.size, 0, none⟩) (show w.heap.size < W0.heap.size by omega)).trans KE0.out, (hb6.cell (p := ⟨w.heap.size, 1, none⟩) (show w.heap.size < W0.heap.size by omega)).trans KE1.out⟩
    clear hK KK hb5
    try simp only [List.getElem_toArray, List.getElem_cons_zero, List.getElem_cons_succ, Act.put, List.setIfInBounds_toArray, List.set_cons_zero, List.set_cons_succ]
    refine wpAnyH_ready (rs := [10]) (by kernel_rfl) (by simp) ?_
    refine AllReadyH.cons rfl (fun KK hK => ?_) AllReadyH.nil
    go_simp
    first | go_at_call 87 | skip
    refine (QU.out _).mono ?_
    rintro e w' ⟨rfl, rfl⟩
    refine hK.out _ _ hB (fun hC => ?_)
    clear hK KK
    try simp only [List.getElem_toArray, List.getElem_cons_zero, List.getElem_cons_succ, Act.put, List.setIfInBounds_toArray, List.set_cons_zero, List.set_cons_succ]
    refine wpAnyH_take (i := 11) rfl (by kernel_rfl) (by kernel_rfl) (by kernel_rfl) (fun _ _ _ h => h) (Or.inl ⟨by kernel_rfl, fun w hSw => by (try dsimp only at hSw); (try obtain ⟨s0, s1, s2, s3, s4⟩ := hSw); go_simp; (try with_reducible rfl)⟩) hC ?_
    try simp only [List.getElem_toArray, List.getElem_cons_zero, List.getElem_cons_succ, Act.put, List.setIfInBounds_toArray, List.set_cons_zero, List.set_cons_succ]
    have hL := hC
    refine wpAnyH_take (i := 12) rfl (by kernel_rfl) (by kernel_rfl) (by kernel_rfl) (fun _ _ _ h => h) (Or.inl ⟨by kernel_rfl, fun w hSw => by (try dsimp only at hSw); (try obtain ⟨s0, s1, s2, s3, s4⟩ := hSw); go_simp; (try with_reducible rfl)⟩) hL ?_
    try simp only [List.getElem_toArray, List.getElem_cons_zero, List.getElem_cons_succ, Act.put, List.setIfInBounds_toArray, List.set_cons_zero, List.set_cons_succ]
    refine wpAnyH_ready (rs := [13]) (by kernel_rfl) (by simp) ?_
    refine AllReadyH.cons rfl (fun KK hK => ?_) AllReadyH.nil
    have SL5 := HS0.out.of hb6 (by omega) (by omega)
    have zt := SL5.t
    have zf := SL5.ft
    go_simp
    refine hK.out _ _ ?_ (fun hL2 => ?_)
    · obtain ⟨s0, s1, s2, s3, s4⟩ := hL
      exact ⟨(World.cell?_setCell_far _ _ _ _ (show bb + 1 ≠ bb by omega)).trans s0, (World.cell?_setCell_far _ _ _ _ (show bb + 1 ≠ bb by omega)).trans s1, (World.cell?_setCell_far _ _ _ _ (show bb + 1 ≠ bs by omega)).trans s2, (World.cell?_setCell_far _ _ _ _ (show bb + 1 ≠ w.heap.size by omega)).trans s3, (World.cell?_setCell_far _ _ _ _ (show bb + 1 ≠ w.heap.size by omega)).trans s4⟩
    clear hK KK zt zf
    try simp only [List.getElem_toArray, List.getElem_cons_zero, List.getElem_cons_succ, Act.put, List.setIfInBounds_toArray, List.set_cons_zero, List.set_cons_succ]
    refine wpAnyH_done (by kernel_rfl) ?_ _
    obtain ⟨W6, hW6⟩ : ∃ W, W = w5.setCell ⟨bb + 1, 0, none⟩ (.int .i64 (tm + m)) := ⟨_, rfl⟩
    rw [← hW6] at hL2 ⊢
    obtain ⟨s0, s1, s2, s3, s4⟩ := hL2
    have t6 : W6.cell? ⟨bb + 1, 0, none⟩ = some (.int .i64 (tm + m)) := by rw [hW6]; exact World.cell?_setCell_same _ _ _ SL5.t
    have q0 : W6.frozen? ⟨bb, 0, none⟩ = false := by rw [hW6, World.frozen?_setCell]; exact SL5.f0
    have q1 : W6.frozen? ⟨bb, 1, none⟩ = false := by rw [hW6, World.frozen?_setCell]; exact SL5.f1
    have q2 : W6.frozen? ⟨bb + 1, 0, none⟩ = false := by rw [hW6, World.frozen?_setCell]; exact SL5.ft
    have hM6 : Mod bb (bb + 2) w W6 := by
      rw [hW6]
      exact Mod.setCell (Mod.of_below (HB0.out.trans (hb6.mono HB0.out.size))) (by omega) (by omega) _
    obtain ⟨W8, hW8⟩ : ∃ W, W = (W6.setCell ⟨bb, 0, none⟩ (.int .i64 y0)).setCell ⟨bb, 1, none⟩ (.int .i64 y1) := ⟨_, rfl⟩
    have s0' : (W6.setCell ⟨bb, 0, none⟩ (.int .i64 y0)).cell? ⟨bb, 1, none⟩ = some (.int .i64 x1) := (World.cell?_setCell_other _ _ _ _ (by simp)).trans s1
    have t8 : W8.cell? ⟨bb + 1, 0, none⟩ = some (.int .i64 (tm + m)) := by
      rw [hW8, World.cell?_setCell_far _ _ _ _ (show bb ≠ bb + 1 by omega), World.cell?_setCell_far _ _ _ _ (show bb ≠ bb + 1 by omega)]
      exact t6
    have SL8 : SL W8 bs bb v (tm + m) y0 y1 := by
      refine ⟨t8, ?_, ?_, ?_, ?_, ?_, ?_⟩
      · rw [hW8, World.cell?_setCell_other _ _ _ _ (by simp)]
        exact World.cell?_setCell_same _ _ _ s0
      · rw [hW8]
        exact World.cell?_setCell_same _ _ _ s0'
      · rw [hW8, World.cell?_setCell_far _ _ _ _ (show bb ≠ bs by omega), World.cell?_setCell_far _ _ _ _ (show bb ≠ bs by omega)]
        exact s2
      · rw [hW8, World.frozen?_setCell, World.frozen?_setCell]; exact q2
      · rw [hW8, World.frozen?_setCell, World.frozen?_setCell]; exact q0
      · rw [hW8, World.frozen?_setCell, World.frozen?_setCell]; exact q1
    have hM8 : Mod bb (bb + 2) w W8 := by
      rw [hW8]
      exact (hM6.setCell (by omega) (by omega) _).setCell (by omega) (by omega) _
    have HE := Lib.hid (And.intro SL8 hM8)
    have q1' : (W6.setCell ⟨bb, 0, none⟩ (.int .i64 y0)).frozen? ⟨bb, 1, none⟩ = false := by rw [World.frozen?_setCell]; exact q1
    rw [hW8] at t8
    have HW8 := Lib.hid hW8
    clear hW6 hM6 SL8 hM8 hW8 SL5 hb6
    go_wp2_with fail
    rw [← HW8.out]
    go_ret
    exact ⟨rfl, HE.out.1, HE.out.2⟩
  · go_simp
    first | go_at_call 88 | skip
    refine (CT.out _).mono ?_
    rintro e w5 ⟨rfl, hb5⟩
    have hb6 := undrewG hb5
    refine hK.out _ _ ?_ (fun hB => ?_)
    · exact ⟨(HS0.out.of hb6 (by omega) (by omega)).b0, (HS0.out.of hb6 (by omega) (by omega)).b1, (HS0.out.of hb6 (by omega) (by omega)).s, (hb6.cell (p := ⟨w.heap.size, 0, none⟩) (show w.heap.size < W0.heap.size by omega)).trans KE0.out, (hb6.cell (p := ⟨w.heap.size, 1, none⟩) (show w.heap.size < W0.heap.size by omega)).trans KE1.out⟩
    clear hK KK hb5
    try simp only [List.getElem_toArray, List.getElem_cons_zero, List.getElem_cons_succ, Act.put, List.setIfInBounds_toArray, List.set_cons_zero, List.set_cons_succ]
    refine wpAnyH_ready (rs := [0, 10]) (by kernel_rfl) (by simp) ?_
    refine AllReadyH.cons rfl (fun KK hK => ?_) (AllReadyH.cons rfl (fun KK hK => ?_) AllReadyH.nil)
    · have zt := (HS0.out.of hb6 (by omega) (by omega)).t
      go_simp
      refine hK.out _ _ hB (fun hC => ?_)
      clear hK KK zt
      try simp only [List.getElem_toArray, List.getElem_cons_zero, List.getElem_cons_succ, Act.put, List.setIfInBounds_toArray, List.set_cons_zero, List.set_cons_succ]
      refine wpAnyH_ready (rs := [10]) (by kernel_rfl) (by simp) ?_
      refine AllReadyH.cons rfl (fun KK hK => ?_) AllReadyH.nil
      go_simp
      first | go_at_call 87 | skip
      refine (QU.out _).mono ?_
      rintro e w' ⟨rfl, rfl⟩
      refine hK.out _ _ hC (fun hD => ?_)
      clear hK KK
      try simp only [List.getElem_toArray, List.getElem_cons_zero, List.getElem_cons_succ, Act.put, List.setIfInBounds_toArray, List.set_cons_zero, List.set_cons_succ]
      refine wpAnyH_take (i := 11) rfl (by kernel_rfl) (by kernel_rfl) (by kernel_rfl) (fun _ _ _ h => h) (Or.inl ⟨by kernel_rfl, fun w hSw => by (try dsimp only at hSw); (try obtain ⟨s0, s1, s2, s3, s4⟩ := hSw); go_simp; (try with_reducible rfl)⟩) hD ?_
      try simp only [List.getElem_toArray, List.getElem_cons_zero, List.getElem_cons_succ, Act.put, List.setIfInBounds_toArray, List.set_cons_zero, List.set_cons_succ]
      have hL := hD
      refine wpAnyH_take (i := 12) rfl (by kernel_rfl) (by kernel_rfl) (by kernel_rfl) (fun _ _ _ h => h) (Or.inl ⟨by kernel_rfl, fun w hSw => by (try dsimp only at hSw); (try obtain ⟨s0, s1, s2, s3, s4⟩ := hSw); go_simp; (try with_reducible rfl)⟩) hL ?_
      try simp only [List.getElem_toArray, List.getElem_cons_zero, List.getElem_cons_succ, Act.put, List.setIfInBounds_toArray, List.set_cons_zero, List.set_cons_succ]
      refine wpAnyH_ready (rs := [13]) (by kernel_rfl) (by simp) ?_
      refine AllReadyH.cons rfl (fun KK hK => ?_) AllReadyH.nil
      have SL5 := HS0.out.of hb6 (by omega) (by omega)
      have zt := SL5.t
      have zf := SL5.ft
      go_simp
      refine hK.out _ _ ?_ (fun hL2 => ?_)
      · obtain ⟨s0, s1, s2, s3, s4⟩ := hL
        exact ⟨(World.cell?_setCell_far _ _ _ _ (show bb + 1 ≠ bb by omega)).trans s0, (World.cell?_setCell_far _ _ _ _ (show bb + 1 ≠ bb by omega)).trans s1, (World.cell?_setCell_far _ _ _ _ (show bb + 1 ≠ bs by omega)).trans s2, (World.cell?_setCell_far _ _ _ _ (show bb + 1 ≠ w.heap.size by omega)).trans s3, (World.cell?_setCell_far _ _ _ _ (show bb + 1 ≠ w.heap.size by omega)).trans s4⟩
      clear hK KK zt zf
      try simp only [List.getElem_toArray, List.getElem_cons_zero, List.getElem_cons_succ, Act.put, List.setIfInBounds_toArray, List.set_cons_zero, List.set_cons_succ]
      refine wpAnyH_done (by kernel_rfl) ?_ _
      obtain ⟨W6, hW6⟩ : ∃ W, W = w5.setCell ⟨bb + 1, 0, none⟩ (.int .i64 (tm + m)) := ⟨_, rfl⟩
      rw [← hW6] at hL2 ⊢
      obtain ⟨s0, s1, s2, s3, s4⟩ := hL2
      have t6 : W6.cell? ⟨bb + 1, 0, none⟩ = some (.int .i64 (tm + m)) := by rw [hW6]; exact World.cell?_setCell_same _ _ _ SL5.t
      have q0 : W6.frozen? ⟨bb, 0, none⟩ = false := by rw [hW6, World.frozen?_setCell]; exact SL5.f0
      have q1 : W6.frozen? ⟨bb, 1, none⟩ = false := by rw [hW6, World.frozen?_setCell]; exact SL5.f1
      have q2 : W6.frozen? ⟨bb + 1, 0, none⟩ = false := by rw [hW6, World.frozen?_setCell]; exact SL5.ft
      have hM6 : Mod bb (bb + 2) w W6 := by
        rw [hW6]
        exact Mod.setCell (Mod.of_below (HB0.out.trans (hb6.mono HB0.out.size))) (by omega) (by omega) _
      obtain ⟨W8, hW8⟩ : ∃ W, W = (W6.setCell ⟨bb, 0, none⟩ (.int .i64 y0)).setCell ⟨bb, 1, none⟩ (.int .i64 y1) := ⟨_, rfl⟩
      have s0' : (W6.setCell ⟨bb, 0, none⟩ (.int .i64 y0)).cell? ⟨bb, 1, none⟩ = some (.int .i64 x1) := (World.cell?_setCell_other _ _ _ _ (by simp)).trans s1
      have t8 : W8.cell? ⟨bb + 1, 0, none⟩ = some (.int .i64 (tm + m)) := by
        rw [hW8, World.cell?_setCell_far _ _ _ _ (show bb ≠ bb + 1 by omega), World.cell?_setCell_far _ _ _ _ (show bb ≠ bb + 1 by omega)]
        exact t6
      have SL8 : SL W8 bs bb v (tm + m) y0 y1 := by
        refine ⟨t8, ?_, ?_, ?_, ?_, ?_, ?_⟩
        · rw [hW8, World.cell?_setCell_other _ _ _ _ (by simp)]
          exact World.cell?_setCell_same _ _ _ s0
        · rw [hW8]
          exact World.cell?_setCell_same _ _ _ s0'
        · rw [hW8, World.cell?_setCell_far _ _ _ _ (show bb ≠ bs by omega), World.cell?_setCell_far _ _ _ _ (show bb ≠ bs by omega)]
          exact s2
        · rw [hW8, World.frozen?_setCell, World.frozen?_setCell]; exact q2
        · rw [hW8, World.frozen?_setCell, World.frozen?_setCell]; exact q0
        · rw [hW8, World.frozen?_setCell, World.frozen?_setCell]; exact q1
      have hM8 : Mod bb (bb + 2) w W8 := by
        rw [hW8]
        exact (hM6.setCell (by omega) (by omega) _).setCell (by omega) (by omega) _
      have HE := Lib.hid (And.intro SL8 hM8)
      have q1' : (W6.setCell ⟨bb, 0, none⟩ (.int .i64 y0)).frozen? ⟨bb, 1, none⟩ = false := by rw [World.frozen?_setCell]; exact q1
      rw [hW8] at t8
      have HW8 := Lib.hid hW8
      clear hW6 hM6 SL8 hM8 hW8 SL5 hb6
      go_wp2_with fail
      rw [← HW8.out]
      go_ret
      exact ⟨rfl, HE.out.1, HE.out.2⟩
    · go_simp
      first | go_at_call 87 | skip
      refine (QU.out _).mono ?_
      rintro e w' ⟨rfl, rfl⟩
      refine hK.out _ _ hB (fun hC => ?_)
      clear hK KK
      try simp only [List.getElem_toArray, List.getElem_cons_zero, List.getElem_cons_succ, Act.put, List.setIfInBounds_toArray, List.set_cons_zero, List.set_cons_succ]
      refine wpAnyH_take (i := 11) rfl (by kernel_rfl) (by kernel_rfl) (by kernel_rfl) (fun _ _ _ h => h) (Or.inl ⟨by kernel_rfl, fun w hSw => by (try dsimp only at hSw); (try obtain ⟨s0, s1, s2, s3, s4⟩ := hSw); go_simp; (try with_reducible rfl)⟩) hC ?_
      try simp only [List.getElem_toArray, List.getElem_cons_zero, List.getElem_cons_succ, Act.put, List.setIfInBounds_toArray, List.set_cons_zero, List.set_cons_succ]
      refine wpAnyH_ready (rs := [0]) (by kernel_rfl) (by simp) ?_
      refine AllReadyH.cons rfl (fun KK hK => ?_) AllReadyH.nil
      have zt := (HS0.out.of hb6 (by omega) (by omega)).t
      go_simp
      refine hK.out _ _ hC (fun hD => ?_)
      clear hK KK zt
      try simp only [List.getElem_toArray, List.getElem_cons_zero, List.getElem_cons_succ, Act.put, List.setIfInBounds_toArray, List.set_cons_zero, List.set_cons_succ]
      have hL := hD
      refine wpAnyH_take (i := 12) rfl (by kernel_rfl) (by kernel_rfl) (by kernel_rfl) (fun _ _ _ h => h) (Or.inl ⟨by kernel_rfl, fun w hSw => by (try dsimp only at hSw); (try obtain ⟨s0, s1, s2, s3, s4⟩ := hSw); go_simp; (try with_reducible rfl)⟩) hL ?_
      try simp only [List.getElem_toArray, List.getElem_cons_zero, List.getElem_cons_succ, Act.put, List.setIfInBounds_toArray, List.set_cons_zero, List.set_cons_succ]
      refine wpAnyH_ready (rs := [13]) (by kernel_rfl) (by simp) ?_
      refine AllReadyH.cons rfl (fun KK hK => ?_) AllReadyH.nil
      have SL5 := HS0.out.of hb6 (by omega) (by omega)
      have zt := SL5.t
      have zf := SL5.ft
      go_simp
      refine hK.out _ _ ?_ (fun hL2 => ?_)
      · obtain ⟨s0, s1, s2, s3, s4⟩ := hL
        exact ⟨(World.cell?_setCell_far _ _ _ _ (show bb + 1 ≠ bb by omega)).trans s0, (World.cell?_setCell_far _ _ _ _ (show bb + 1 ≠ bb by omega)).trans s1, (World.cell?_setCell_far _ _ _ _ (show bb + 1 ≠ bs by omega)).trans s2, (World.cell?_setCell_far _ _ _ _ (show bb + 1 ≠ w.heap.size by omega)).trans s3, (World.cell?_setCell_far _ _ _ _ (show bb + 1 ≠ w.heap.size by omega)).trans s4⟩
      clear hK KK zt zf
      try simp only [List.getElem_toArray, List.getElem_cons_zero, List.getElem_cons_succ, Act.put, List.setIfInBounds_toArray, List.set_cons_zero, List.set_cons_succ]
      refine wpAnyH_done (by kernel_rfl) ?_ _
      obtain ⟨W6, hW6⟩ : ∃ W, W = w5.setCell ⟨bb + 1, 0, none⟩ (.int .i64 (tm + m)) := ⟨_, rfl⟩
      rw [← hW6] at hL2 ⊢
      obtain ⟨s0, s1, s2, s3, s4⟩ := hL2
      have t6 : W6.cell? ⟨bb + 1, 0, none⟩ = some (.int .i64 (tm + m)) := by rw [hW6]; exact World.cell?_setCell_same _ _ _ SL5.t
      have q0 : W6.frozen? ⟨bb, 0, none⟩ = false := by rw [hW6, World.frozen?_setCell]; exact SL5.f0
      have q1 : W6.frozen? ⟨bb, 1, none⟩ = false := by rw [hW6, World.frozen?_setCell]; exact SL5.f1
      have q2 : W6.frozen? ⟨bb + 1, 0, none⟩ = false := by rw [hW6, World.frozen?_setCell]; exact SL5.ft
      have hM6 : Mod bb (bb + 2) w W6 := by
        rw [hW6]
        exact Mod.setCell (Mod.of_below (HB0.out.trans (hb6.mono HB0.out.size))) (by omega) (by omega) _
      obtain ⟨W8, hW8⟩ : ∃ W, W = (W6.setCell ⟨bb, 0, none⟩ (.int .i64 y0)).setCell ⟨bb, 1, none⟩ (.int .i64 y1) := ⟨_, rfl⟩
      have s0' : (W6.setCell ⟨bb, 0, none⟩ (.int .i64 y0)).cell? ⟨bb, 1, none⟩ = some (.int .i64 x1) := (World.cell?_setCell_other _ _ _ _ (by simp)).trans s1
      have t8 : W8.cell? ⟨bb + 1, 0, none⟩ = some (.int .i64 (tm + m)) := by
        rw [hW8, World.cell?_setCell_far _ _ _ _ (show bb ≠ bb + 1 by omega), World.cell?_setCell_far _ _ _ _ (show bb ≠ bb + 1 by omega)]
        exact t6
      have SL8 : SL W8 bs bb v (tm + m) y0 y1 := by
        refine ⟨t8, ?_, ?_, ?_, ?_, ?_, ?_⟩
        · rw [hW8, World.cell?_setCell_other _ _ _ _ (by simp)]
          exact World.cell?_setCell_same _ _ _ s0
        · rw [hW8]
          exact World.cell?_setCell_same _ _ _ s0'
        · rw [hW8, World.cell?_setCell_far _ _ _ _ (show bb ≠ bs by omega), World.cell?_setCell_far _ _ _ _ (show bb ≠ bs by omega)]
          exact s2
        · rw [hW8, World.frozen?_setCell, World.frozen?_setCell]; exact q2
        · rw [hW8, World.frozen?_setCell, World.frozen?_setCell]; exact q0
        · rw [hW8, World.frozen?_setCell, World.frozen?_setCell]; exact q1
      have hM8 : Mod bb (bb + 2) w W8 := by
        rw [hW8]
        exact (hM6.setCell (by omega) (by omega) _).setCell (by omega) (by omega) _
      have HE := Lib.hid (And.intro SL8 hM8)
      have q1' : (W6.setCell ⟨bb, 0, none⟩ (.int .i64 y0)).frozen? ⟨bb, 1, none⟩ = false := by rw [World.frozen?_setCell]; exact q1
      rw [hW8] at t8
      have HW8 := Lib.hid hW8
      clear hW6 hM6 SL8 hM8 hW8 SL5 hb6
      go_wp2_with fail
      rw [← HW8.out]
      go_ret
      exact ⟨rfl, HE.out.1, HE.out.2⟩
end Go.Proofs.Ytdbocpcijkngpaa.Tk
