/-
  The value of a track at a time (both packages): l14At, firstKeyFrom, valueAt, ValueAt.
-/
import Derived.Test.YtdbocpcijkngpaaTkM
namespace Go.Proofs.Ytdbocpcijkngpaa.Tk
open Go.RowKit
open Ky (V In Own Row At gk)
set_option linter.unusedVariables false

set_option maxHeartbeats 1000000 in
theorem lineAtT_any (x0 y0 x1 y1 x : Int) (w : World) (h1 : 0 ≤ x0) (h1' : x0 ≤ 7200000) (h2 : -1000000 ≤ y0) (h2' : y0 ≤ 1000000)
    (h3 : 0 ≤ x1) (h3' : x1 ≤ 7200000) (h4 : -1000000 ≤ y1) (h4' : y1 ≤ 1000000) :
    Calls Try.prog 103 #[.int .i64 x0, .int .i64 y0, .int .i64 x1, .int .i64 y1, .int .i64 x] w fun e w' => e = .returned (.int .i64 (lineI x0 y0 x1 y1 x)) ∧ Below w.heap.size w w' := by
  by_cases c1 : x ≤ x0
  ·
    go_enter Try.func103, Try.ntmps103
    go_wp2_with fail
    go_ret
    exact ⟨ret_int (by unfold lineI; rw [if_pos (by omega)]), Below.refl _ _⟩
  · have c1' : decide (x ≤ x0) = false := by simpa using c1
    by_cases c2 : x1 ≤ x0
    ·
      go_enter Try.func103, Try.ntmps103
      go_wp2_with fail
      go_ret
      exact ⟨ret_int (by unfold lineI; rw [if_pos (by omega)]), Below.refl _ _⟩
    · have c2' : decide (x1 ≤ x0) = false := by simpa using c2
      by_cases c3 : x1 ≤ x
      ·
        go_enter Try.func103, Try.ntmps103
        go_wp2_with fail
        go_ret
        exact ⟨ret_int (by unfold lineI; rw [if_neg (by omega), if_pos (by omega)]), Below.refl _ _⟩
      · have c3' : decide (x1 ≤ x) = false := by simpa using c3
        obtain ⟨p1, p2⟩ := prod_bd (y1 - y0) (x - x0) (by omega) (by omega) (by omega) (by omega)
        obtain ⟨q1, q2⟩ := quot_bd ((y1 - y0) * (x - x0)) (x1 - x0) (by omega) (by omega) (by omega)
        have e : lineI x0 y0 x1 y1 x = y0 + nearQ ((y1 - y0) * (x - x0)) (x1 - x0) := by unfold lineI; rw [if_neg (by omega), if_neg (by omega)]
        rw [e]
        clear e
        go_enter Try.func103, Try.ntmps103
        go_wp2_with fail
        refine (nearest_any _ _ _ (by omega) (by omega) (by omega) (by omega)).mono ?_
        rintro e w' ⟨rfl, hg⟩
        go_wp2_with fail
        go_ret
        exact ⟨rfl, hg⟩

set_option maxRecDepth 100000 in
set_option maxHeartbeats 4000000 in
theorem l14At_any (g cap : Nat) (zs : List V) (x : Int) (w : World) (h1 : Row w g zs) (hc : Trk zs) (hx0 : 0 ≤ x) (hx1 : x ≤ 7200000) :
    Calls Try.prog 68 #[.slice (some ⟨g, 0, none⟩) zs.length cap, .int .i64 x] w fun e w' => e = .returned (.int .i64 (valI zs x)) ∧ Below w.heap.size w w' := by
  have H1 := Lib.hid h1
  have HC := Lib.hid hc
  have RP := Lib.hid (fun (W : World) (hW : Row W g zs) k hk => Ky.Row.gk hW k hk)
  have AI := Lib.hid (fun i hi => atK_iff hc x i hi)
  have VL := Lib.hid (valI_low hc x)
  have VH := Lib.hid (valI_high hc x)
  have VM := Lib.hid (fun k hk => valI_mid hc x k hk)
  have AL := atK_le zs x
  have n1 := hc.n1
  have n24 := hc.n24
  clear h1 hc
  generalize atK zs x = a at *
  obtain ⟨c0, c1⟩ := RP.out w H1.out 0 n1
  have l0 : (0 : Int) < (zs.length : Int) := by omega
  by_cases hx : x ≤ (gk zs 0).f0
  · have hr := VL.out hx
    clear AI VL VH VM
    generalize (gk zs 0).f0 = p0 at *
    generalize (gk zs 0).f1 = p1 at *
    subst hr
    go_enter Try.func68, Try.ntmps68
    go_wp2_with fail
    go_ret
    exact ⟨rfl, Below.refl _ _⟩
  · have ha1 : 1 ≤ a := by
      rcases Nat.eq_zero_or_pos a with e | e
      · exact absurd ((AI.out 0 n1).2 (by omega)) hx
      · exact e
    have hx2 : decide (x ≤ (gk zs 0).f0) = false := decide_eq_false hx
    generalize (gk zs 0).f0 = p0 at *
    generalize (gk zs 0).f1 = p1 at *
    clear VL
    go_enter Try.func68, Try.ntmps68
    go_wp2_with fail
    clear c0 c1 hx hx2
    go_loopg [5] (zs.length + 1) (fun kx s5 wr => ∃ k : Nat, s5 = .int .i64 ((k + 1 : Nat) : Int) ∧ k + 1 ≤ a ∧ kx = zs.length + 1 - k ∧ w = wr)
    case atStart => exact ⟨0, rfl, ha1, rfl, rfl⟩
    case round =>
      obtain ⟨k, rfl, hk, rfl, rfl⟩ := hrel
      by_cases hn : k + 1 < zs.length
      · have hn' : ((k + 1 : Nat) : Int) < (zs.length : Int) := by omega
        have hn0 : (0 : Int) ≤ ((k + 1 : Nat) : Int) := by omega
        have k0 : (0 : Int) ≤ (k : Int) := by omega
        have k2 : (k : Int) < (zs.length : Int) := by omega
        have ek : ((k + 1 : Nat) : Int) - 1 = (k : Int) := by omega
        have wk : IntKind.i64.wrap (k : Int) = (k : Int) := IntWalk.i64_in _ (by omega)
        obtain ⟨c0, c1⟩ := RP.out w H1.out k (by omega)
        obtain ⟨d0, d1⟩ := RP.out w H1.out (k + 1) hn
        have b0 := HC.out.i k (by omega)
        have b1 := HC.out.i (k + 1) hn
        have bs := HC.out.s k hn
        have MB := AI.out (k + 1) hn
        have NB := AI.out k (by omega)
        have VMk := VM.out k hn
        generalize (gk zs k).f0 = p0 at *
        generalize (gk zs k).f1 = p1 at *
        generalize (gk zs (k + 1)).f0 = q0 at *
        generalize (gk zs (k + 1)).f1 = q1 at *
        by_cases hx : x ≤ q0
        · have ha : a = k + 1 := by have := MB.1 hx; omega
          have hr := VMk ha
          have hxp : p0 < x := by
            rcases Int.lt_or_le p0 x with c | c
            · exact c
            · have := NB.1 c; omega
          obtain ⟨u1, u2⟩ := prod_bd (q1 - p1) (x - p0) (by omega) (by omega) (by omega) (by omega)
          obtain ⟨u3, u4⟩ := quot_bd ((q1 - p1) * (x - p0)) (q0 - p0) (by omega) (by omega) (by omega)
          have D := Lib.hid (fun w => l01Div_any ((q1 - p1) * (x - p0)) (q0 - p0) w (by omega) (by omega) (by omega) (by omega) (by omega))
          have w1 : IntKind.i64.wrap (q1 - p1) = q1 - p1 := IntWalk.i64_in _ (by omega)
          have w2 : IntKind.i64.wrap (x - p0) = x - p0 := IntWalk.i64_in _ (by omega)
          have w3 : IntKind.i64.wrap (q0 - p0) = q0 - p0 := IntWalk.i64_in _ (by omega)
          have w4 : IntKind.i64.wrap ((q1 - p1) * (x - p0)) = (q1 - p1) * (x - p0) := IntWalk.i64_in _ (by omega)
          have w5 : IntKind.i64.wrap (p1 + nearQ ((q1 - p1) * (x - p0)) (q0 - p0)) = p1 + nearQ ((q1 - p1) * (x - p0)) (q0 - p0) := IntWalk.i64_in _ (by omega)
          have HR := Lib.hid hr
          obtain ⟨W0, hW0⟩ : ∃ W0, W0 = w.alloc (Obj.cells #[.int .i64 p0, .int .i64 p1] 48) := ⟨_, rfl⟩
          have hB0 : Below w.heap.size w W0 := by rw [hW0]; exact (Below.refl _ w).alloc (Nat.le_refl _) _
          have e0 : W0.cell? ⟨w.heap.size, 0, none⟩ = some (.int .i64 p0) := by rw [hW0]; simp
          have e1 : W0.cell? ⟨w.heap.size, 1, none⟩ = some (.int .i64 p1) := by rw [hW0]; simp
          have hgl : g < w.heap.size := World.block_lt_of_cell? w ⟨g, k * 2, none⟩ c0
          have f0 : W0.cell? ⟨g, (k + 1) * 2, none⟩ = some (.int .i64 q0) := (hB0.cell (p := ⟨g, (k + 1) * 2, none⟩) hgl).trans d0
          have f1 : W0.cell? ⟨g, (k + 1) * 2 + 1, none⟩ = some (.int .i64 q1) := (hB0.cell (p := ⟨g, (k + 1) * 2 + 1, none⟩) hgl).trans d1
          have HW := Lib.hid hW0
          have HB0 := Lib.hid hB0
          clear hW0 hB0 MB NB VMk hr ha b0 b1 bs
          go_wp2_with fail
          rw [← HW.out]
          clear HW c0 c1 d0 d1
          go_quiet ((go_at_call 102; with_reducible exact quiet_leftT (D.out _)))
          rename Nat => q9
          go_wp2_with fail
          go_ret
          exact ⟨ret_int HR.out.symm, bel_dT HB0.out _⟩
        · have ha : ¬ a ≤ k + 1 := fun h => hx (MB.2 h)
          have hx2 : decide (x ≤ q0) = false := decide_eq_false hx
          clear MB NB VMk b0 b1 bs c0 c1 d1
          go_wp2_with fail
          go_roundg (zs.length + 1 - (k + 1))
          case measure => omega
          case rel => exact ⟨k + 1, by go_num, by omega, by omega, rfl⟩
      · have ha : a = zs.length := by omega
        have hr := VH.out ha
        have hkn : k + 1 = zs.length := by omega
        obtain ⟨c0, c1⟩ := RP.out w H1.out (zs.length - 1) (by omega)
        have ek : (zs.length : Int) - 1 = ((zs.length - 1 : Nat) : Int) := by omega
        have k0 : (0 : Int) ≤ ((zs.length - 1 : Nat) : Int) := by omega
        have k1 : ((zs.length - 1 : Nat) : Int) < (zs.length : Int) := by omega
        have kn : ¬ ((k + 1 : Nat) : Int) < (zs.length : Int) := by omega
        generalize (gk zs (zs.length - 1)).f0 = q0 at *
        generalize (gk zs (zs.length - 1)).f1 = q1 at *
        subst hr
        clear ha hkn VH VM AI
        go_wp2_with fail
        go_ret
        exact ⟨rfl, Below.refl _ _⟩

set_option maxRecDepth 100000 in
set_option maxHeartbeats 2000000 in
theorem met_any (g cap b1 b2 : Nat) (zs : List V) (x : Int) (i : Nat) (W : World) (hb : zs.length ≤ 1048577) (hi : i < zs.length) (h1 : Row W g zs) (hc : W.cell? ⟨b1, 1, none⟩ = some (.slice (some ⟨g, 0, none⟩) zs.length cap)) (hx : W.cell? ⟨b2, 0, none⟩ = some (.int .i64 x)) :
    Calls Try.prog 105 #[.int .i64 (i : Int), .pointer (some ⟨b1, 0, none⟩), .pointer (some ⟨b2, 0, none⟩)] W fun e w' => e = .returned (.bool (metB zs x i)) ∧ Below W.heap.size W w' := by
  obtain ⟨c0, c1⟩ := Ky.Row.gk h1 i hi
  unfold metB
  generalize (gk zs i).f0 = p0 at *
  have i0 : (0 : Int) ≤ (i : Int) := by omega
  have i1 : (i : Int) < (zs.length : Int) := by omega
  clear h1 c1
  go_enter Try.func105, Try.ntmps105
  go_wp2_with fail
  go_quiet (fail)
  rename Nat => q1
  go_wp2_with fail
  go_ret
  exact ⟨rfl, bel_dT (Below.refl _ _) _⟩
set_option maxRecDepth 100000 in
set_option maxHeartbeats 3000000 in
theorem firstKey_any (s : ByteArray) (g cap : Nat) (zs : List V) (x : Int) (w : World) (h1 : Row w g zs) (hc : Trk zs) :
    Calls Try.prog 72 #[.agg #[.string s, .slice (some ⟨g, 0, none⟩) zs.length cap], .int .i64 x] w fun e w' => e = .returned (.int .i64 (atK zs x : Nat)) ∧ Below w.heap.size w w' := by
  have n24 := hc.n24
  obtain ⟨W0, hW0⟩ : ∃ W0, W0 = (w.alloc (Obj.cells #[.string s, .slice (some ⟨g, 0, none⟩) zs.length cap] 29)).alloc (Obj.cells #[.int .i64 x] 2) := ⟨_, rfl⟩
  have hB0 : Below w.heap.size w W0 := by rw [hW0]; exact ((Below.refl _ w).alloc (Nat.le_refl _) _).alloc (by simp) _
  have e0 : W0.cell? ⟨w.heap.size, 1, none⟩ = some (.slice (some ⟨g, 0, none⟩) zs.length cap) := by rw [hW0, World.cell?_alloc_lt _ _ _ (by simp)]; simp
  have e1 : W0.cell? ⟨w.heap.size + 1, 0, none⟩ = some (.int .i64 x) := by rw [hW0]; first | (simp; done) | (rw [show w.heap.size + 1 = (w.alloc (Obj.cells #[.string s, .slice (some ⟨g, 0, none⟩) zs.length cap] 29)).heap.size by simp, World.cell?_alloc_at]; rfl)
  have hl0 := World.block_lt_of_cell? W0 ⟨w.heap.size, 1, none⟩ e0
  have hl1 := World.block_lt_of_cell? W0 ⟨w.heap.size + 1, 0, none⟩ e1
  have SE := Lib.hid (search_any 105 #[.pointer (some ⟨w.heap.size, 0, none⟩), .pointer (some ⟨w.heap.size + 1, 0, none⟩)] zs.length (metB zs x) W0 (enters_of Try.func105 (by kernel_rfl) rfl) (by omega)
    (fun W i hB hi => met_any g cap w.heap.size (w.heap.size + 1) zs x i W (by omega) (by omega) ((h1.below hB0).below hB) ((hB.cell (p := ⟨w.heap.size, 1, none⟩) hl0).trans e0) ((hB.cell (p := ⟨w.heap.size + 1, 0, none⟩) hl1).trans e1))
    (metB_mono hc x))
  have hcn : cnt zs.length (metB zs x) = atK zs x := rfl
  rw [hcn] at SE
  have HW := Lib.hid hW0
  have HB0 := Lib.hid hB0
  clear hcn h1 hc hW0 hB0 e0 e1 hl0 hl1
  generalize atK zs x = a at *
  go_enter Try.func72, Try.ntmps72
  go_wp2_with fail
  rw [← HW.out]
  refine (SE.out).mono ?_
  rintro e w1 ⟨rfl, hb1⟩
  have HB1 := Lib.hid (HB0.out.trans (hb1.mono HB0.out.size))
  clear hb1
  go_wp2_with fail
  go_ret
  exact ⟨rfl, HB1.out⟩
set_option maxRecDepth 100000 in
set_option maxHeartbeats 4000000 in
theorem valueAt_any (s : ByteArray) (g cap : Nat) (zs : List V) (x : Int) (w : World) (h1 : Row w g zs) (hc : Trk zs) :
    Calls Try.prog 70 #[.agg #[.string s, .slice (some ⟨g, 0, none⟩) zs.length cap], .int .i64 x] w fun e w' => e = .returned (.int .i64 (valI zs x)) ∧ Below w.heap.size w w' := by
  have n1 := hc.n1
  have n24 := hc.n24
  obtain ⟨W0, hW0⟩ : ∃ W0, W0 = w.alloc (Obj.cells #[.string s, .slice (some ⟨g, 0, none⟩) zs.length cap] 29) := ⟨_, rfl⟩
  have hB0 : Below w.heap.size w W0 := by rw [hW0]; exact (Below.refl _ w).alloc (Nat.le_refl _) _
  have e0 : W0.cell? ⟨w.heap.size, 1, none⟩ = some (.slice (some ⟨g, 0, none⟩) zs.length cap) := by rw [hW0]; simp
  have hl0 := World.block_lt_of_cell? W0 ⟨w.heap.size, 1, none⟩ e0
  have FK := Lib.hid (firstKey_any s g cap zs x W0 (h1.below hB0) hc)
  have AL := atK_le zs x
  have LV : valI zs x = lineI (gk zs (atK zs x - 1)).f0 (gk zs (atK zs x - 1)).f1 (gk zs (min (atK zs x) (zs.length - 1))).f0 (gk zs (min (atK zs x) (zs.length - 1))).f1 x := rfl
  have RP := Lib.hid (fun (W : World) (hW : Row W g zs) k hk => Ky.Row.gk hW k hk)
  have HC := Lib.hid hc
  have H1 := Lib.hid (h1.below hB0)
  have HW := Lib.hid hW0
  have HB0 := Lib.hid hB0
  clear h1 hc hW0 hB0
  generalize atK zs x = a at *
  go_enter Try.func70, Try.ntmps70
  go_wp2_with fail
  rw [← HW.out]
  refine (FK.out).mono ?_
  rintro e w1 ⟨rfl, hb1⟩
  have c0 := (hb1.cell (p := ⟨w.heap.size, 1, none⟩) hl0).trans e0
  obtain ⟨p0, p1⟩ := RP.out w1 (H1.out.below hb1) (a - 1) (by omega)
  obtain ⟨q0, q1⟩ := RP.out w1 (H1.out.below hb1) (min a (zs.length - 1)) (by omega)
  have bp := HC.out.i (a - 1) (by omega)
  have bq := HC.out.i (min a (zs.length - 1)) (by omega)
  have HB1 := Lib.hid (HB0.out.trans (hb1.mono HB0.out.size))
  have hs1 := hb1.size
  clear hb1 e0 HW FK H1 RP HC hl0
  generalize (gk zs (a - 1)).f0 = x0 at *
  generalize (gk zs (a - 1)).f1 = y0 at *
  generalize (gk zs (min a (zs.length - 1))).f0 = x1 at *
  generalize (gk zs (min a (zs.length - 1))).f1 = y1 at *
  have BL := Lib.hid (fun w => lineAtT_any x0 y0 x1 y1 x w (by omega) (by omega) (by omega) (by omega) (by omega) (by omega) (by omega) (by omega))
  rw [← LV] at BL
  clear LV bp bq
  have hblk := World.block_lt_of_cell? w1 ⟨w.heap.size, 1, none⟩ c0
  have hblg := World.block_lt_of_cell? w1 ⟨g, (a - 1) * 2, none⟩ p0
  by_cases ha : a = 0
  · subst ha
    have l0 : (0 : Int) < (zs.length : Int) := by omega
    have l0n : 0 < zs.length := by omega
    have wk1 : IntKind.i64.wrap (-1) = -1 := IntWalk.i64_in _ (by omega)
    obtain ⟨n, hn⟩ : ∃ n : Nat, n = zs.length - 1 := ⟨_, rfl⟩
    have ln : (zs.length : Int) - 1 = (n : Int) := by omega
    have ln2 : ((zs.length - 1 : Nat) : Int) = (n : Int) := by omega
    have lnm : (if (n : Int) < 0 then (n : Int) else 0) = 0 := if_neg (by omega)
    clear hn
    have wkn : IntKind.i64.wrap (n : Int) = (n : Int) := IntWalk.i64_in _ (by omega)
    simp only [Nat.zero_min, Nat.zero_sub, Nat.zero_mul] at p0 p1 q0 q1 hblg
    have ex : x0 = x1 := by
      have h := p0.symm.trans q0
      injection h with h
      injection h with _ h
    have ey : y0 = y1 := by
      have h := p1.symm.trans q1
      injection h with h
      injection h with _ h
    subst ex ey
    have K : Hid (w1.cell? ⟨w.heap.size, 1, none⟩ = some (.slice (some ⟨g, 0, none⟩) zs.length cap) ∧ w1.cell? ⟨g, 0, none⟩ = some (.int .i64 x0) ∧ w1.cell? ⟨g, 0 + 1, none⟩ = some (.int .i64 y0) ∧ w1.cell? ⟨g, 0, none⟩ = some (.int .i64 x0) ∧ w1.cell? ⟨g, 0 + 1, none⟩ = some (.int .i64 y0) ∧ Below w.heap.size w w1) := Lib.hid ⟨c0, p0, p1, q0, q1, HB1.out⟩
    have hg1 := HB1.out.size
    clear p0 p1 q0 q1
    go_wp2_with fail
    clear c0
    refine wp_region_held_drew (S := fun W => W.cell? ⟨w.heap.size, 1, none⟩ = some (.slice (some ⟨g, 0, none⟩) zs.length cap) ∧ W.cell? ⟨g, 0, none⟩ = some (.int .i64 x0) ∧ W.cell? ⟨g, 0 + 1, none⟩ = some (.int .i64 y0) ∧ W.cell? ⟨g, 0, none⟩ = some (.int .i64 x0) ∧ W.cell? ⟨g, 0 + 1, none⟩ = some (.int .i64 y0) ∧ Below w.heap.size w W) (by kernel_rfl) ?_ (fun hHeld => ?_)
    · exact keepW5 K.out (drewG w1)
    refine wpAnyH_take (i := 0) rfl (by kernel_rfl) (by kernel_rfl) (by kernel_rfl) (fun _ _ _ h => h) (Or.inl ⟨by kernel_rfl, fun w hSw => by (try dsimp only at hSw); (try obtain ⟨s0, s1, s2, s3, s4, s5⟩ := hSw); go_simp; (try with_reducible rfl)⟩) hHeld ?_
    try simp only [List.getElem_toArray, List.getElem_cons_zero, List.getElem_cons_succ, Act.put, List.setIfInBounds_toArray, List.set_cons_zero, List.set_cons_succ]
    refine wpAnyH_take (i := 1) rfl (by kernel_rfl) (by kernel_rfl) (by kernel_rfl) (fun _ _ _ h => h) (Or.inl ⟨by kernel_rfl, fun w hSw => by (try dsimp only at hSw); (try obtain ⟨s0, s1, s2, s3, s4, s5⟩ := hSw); go_simp; (try with_reducible rfl)⟩) hHeld ?_
    try simp only [List.getElem_toArray, List.getElem_cons_zero, List.getElem_cons_succ, Act.put, List.setIfInBounds_toArray, List.set_cons_zero, List.set_cons_succ]
    refine wpAnyH_take (i := 2) rfl (by kernel_rfl) (by kernel_rfl) (by kernel_rfl) (fun _ _ _ h => h) (Or.inl ⟨by kernel_rfl, fun w hSw => by (try dsimp only at hSw); (try obtain ⟨s0, s1, s2, s3, s4, s5⟩ := hSw); go_simp; (try with_reducible rfl)⟩) hHeld ?_
    try simp only [List.getElem_toArray, List.getElem_cons_zero, List.getElem_cons_succ, Act.put, List.setIfInBounds_toArray, List.set_cons_zero, List.set_cons_succ]
    refine wpAnyH_take (i := 3) rfl (by kernel_rfl) (by kernel_rfl) (by kernel_rfl) (fun _ _ _ h => h) (Or.inl ⟨by kernel_rfl, fun w hSw => by (try dsimp only at hSw); (try obtain ⟨s0, s1, s2, s3, s4, s5⟩ := hSw); go_simp; (try with_reducible rfl)⟩) hHeld ?_
    try simp only [List.getElem_toArray, List.getElem_cons_zero, List.getElem_cons_succ, Act.put, List.setIfInBounds_toArray, List.set_cons_zero, List.set_cons_succ]
    refine wpAnyH_take (i := 4) rfl (by kernel_rfl) (by kernel_rfl) (by kernel_rfl) (fun _ _ _ h => h) (Or.inl ⟨by kernel_rfl, fun w hSw => by (try dsimp only at hSw); (try obtain ⟨s0, s1, s2, s3, s4, s5⟩ := hSw); go_simp; (try with_reducible rfl)⟩) hHeld ?_
    try simp only [List.getElem_toArray, List.getElem_cons_zero, List.getElem_cons_succ, Act.put, List.setIfInBounds_toArray, List.set_cons_zero, List.set_cons_succ]
    refine wpAnyH_take (i := 5) rfl (by kernel_rfl) (by kernel_rfl) (by kernel_rfl) (fun _ _ _ h => h) (Or.inl ⟨by kernel_rfl, fun w hSw => by (try dsimp only at hSw); (try obtain ⟨s0, s1, s2, s3, s4, s5⟩ := hSw); go_simp; (try with_reducible rfl)⟩) hHeld ?_
    try simp only [List.getElem_toArray, List.getElem_cons_zero, List.getElem_cons_succ, Act.put, List.setIfInBounds_toArray, List.set_cons_zero, List.set_cons_succ]
    refine wpAnyH_take (i := 6) rfl (by kernel_rfl) (by kernel_rfl) (by kernel_rfl) (fun _ _ _ h => h) (Or.inl ⟨by kernel_rfl, fun w hSw => by (try dsimp only at hSw); (try obtain ⟨s0, s1, s2, s3, s4, s5⟩ := hSw); go_simp; (try with_reducible rfl)⟩) hHeld ?_
    try simp only [List.getElem_toArray, List.getElem_cons_zero, List.getElem_cons_succ, Act.put, List.setIfInBounds_toArray, List.set_cons_zero, List.set_cons_succ]
    refine wpAnyH_take (i := 7) rfl (by kernel_rfl) (by kernel_rfl) (by kernel_rfl) (fun _ _ _ h => h) (Or.inl ⟨by kernel_rfl, fun w hSw => by (try dsimp only at hSw); (try obtain ⟨s0, s1, s2, s3, s4, s5⟩ := hSw); go_simp; (try with_reducible rfl)⟩) hHeld ?_
    try simp only [List.getElem_toArray, List.getElem_cons_zero, List.getElem_cons_succ, Act.put, List.setIfInBounds_toArray, List.set_cons_zero, List.set_cons_succ]
    refine wpAnyH_take (i := 8) rfl (by kernel_rfl) (by kernel_rfl) (by kernel_rfl) (fun _ _ _ h => h) (Or.inl ⟨by kernel_rfl, fun w hSw => by (try dsimp only at hSw); (try obtain ⟨s0, s1, s2, s3, s4, s5⟩ := hSw); go_simp; (try with_reducible rfl)⟩) hHeld ?_
    try simp only [List.getElem_toArray, List.getElem_cons_zero, List.getElem_cons_succ, Act.put, List.setIfInBounds_toArray, List.set_cons_zero, List.set_cons_succ]
    refine wpAnyH_take (i := 9) rfl (by kernel_rfl) (by kernel_rfl) (by kernel_rfl) (fun _ _ _ h => h) (Or.inl ⟨by kernel_rfl, fun w hSw => by (try dsimp only at hSw); (try obtain ⟨s0, s1, s2, s3, s4, s5⟩ := hSw); go_simp; (try with_reducible rfl)⟩) hHeld ?_
    try simp only [List.getElem_toArray, List.getElem_cons_zero, List.getElem_cons_succ, Act.put, List.setIfInBounds_toArray, List.set_cons_zero, List.set_cons_succ]
    refine wpAnyH_take (i := 10) rfl (by kernel_rfl) (by kernel_rfl) (by kernel_rfl) (fun _ _ _ h => h) (Or.inl ⟨by kernel_rfl, fun w hSw => by (try dsimp only at hSw); (try obtain ⟨s0, s1, s2, s3, s4, s5⟩ := hSw); go_simp; (try with_reducible rfl)⟩) hHeld ?_
    try simp only [List.getElem_toArray, List.getElem_cons_zero, List.getElem_cons_succ, Act.put, List.setIfInBounds_toArray, List.set_cons_zero, List.set_cons_succ]
    refine wpAnyH_take (i := 11) rfl (by kernel_rfl) (by kernel_rfl) (by kernel_rfl) (fun _ _ _ h => h) (Or.inl ⟨by kernel_rfl, fun w hSw => by (try dsimp only at hSw); (try obtain ⟨s0, s1, s2, s3, s4, s5⟩ := hSw); go_simp; (try with_reducible rfl)⟩) hHeld ?_
    try simp only [List.getElem_toArray, List.getElem_cons_zero, List.getElem_cons_succ, Act.put, List.setIfInBounds_toArray, List.set_cons_zero, List.set_cons_succ]
    refine wpAnyH_take (i := 12) rfl (by kernel_rfl) (by kernel_rfl) (by kernel_rfl) (fun _ _ _ h => h) (Or.inl ⟨by kernel_rfl, fun w hSw => by (try dsimp only at hSw); (try obtain ⟨s0, s1, s2, s3, s4, s5⟩ := hSw); go_simp; (try with_reducible rfl)⟩) hHeld ?_
    try simp only [List.getElem_toArray, List.getElem_cons_zero, List.getElem_cons_succ, Act.put, List.setIfInBounds_toArray, List.set_cons_zero, List.set_cons_succ]
    refine wpAnyH_take (i := 13) rfl (by kernel_rfl) (by kernel_rfl) (by kernel_rfl) (fun _ _ _ h => h) (Or.inl ⟨by kernel_rfl, fun w hSw => by (try dsimp only at hSw); (try obtain ⟨s0, s1, s2, s3, s4, s5⟩ := hSw); go_simp; (try with_reducible rfl)⟩) hHeld ?_
    try simp only [List.getElem_toArray, List.getElem_cons_zero, List.getElem_cons_succ, Act.put, List.setIfInBounds_toArray, List.set_cons_zero, List.set_cons_succ]
    refine wpAnyH_take (i := 14) rfl (by kernel_rfl) (by kernel_rfl) (by kernel_rfl) (fun _ _ _ h => h) (Or.inl ⟨by kernel_rfl, fun w hSw => by (try dsimp only at hSw); (try obtain ⟨s0, s1, s2, s3, s4, s5⟩ := hSw); go_simp; (try with_reducible rfl)⟩) hHeld ?_
    try simp only [List.getElem_toArray, List.getElem_cons_zero, List.getElem_cons_succ, Act.put, List.setIfInBounds_toArray, List.set_cons_zero, List.set_cons_succ]
    refine wpAnyH_take (i := 15) rfl (by kernel_rfl) (by kernel_rfl) (by kernel_rfl) (fun _ _ _ h => h) (Or.inl ⟨by kernel_rfl, fun w hSw => by (try dsimp only at hSw); (try obtain ⟨s0, s1, s2, s3, s4, s5⟩ := hSw); go_simp; (try with_reducible rfl)⟩) hHeld ?_
    try simp only [List.getElem_toArray, List.getElem_cons_zero, List.getElem_cons_succ, Act.put, List.setIfInBounds_toArray, List.set_cons_zero, List.set_cons_succ]
    refine wpAnyH_take (i := 16) rfl (by kernel_rfl) (by kernel_rfl) (by kernel_rfl) (fun _ _ _ h => h) (Or.inl ⟨by kernel_rfl, fun w hSw => by (try dsimp only at hSw); (try obtain ⟨s0, s1, s2, s3, s4, s5⟩ := hSw); go_simp; (try with_reducible rfl)⟩) hHeld ?_
    try simp only [List.getElem_toArray, List.getElem_cons_zero, List.getElem_cons_succ, Act.put, List.setIfInBounds_toArray, List.set_cons_zero, List.set_cons_succ]
    refine wpAnyH_ready (rs := [17, 18]) (by kernel_rfl) (by simp) ?_
    refine AllReadyH.cons rfl (fun KK hK => ?_) (AllReadyH.cons rfl (fun KK hK => ?_) AllReadyH.nil)
    · go_simp
      refine hK.out _ _ ?_ (fun hH2 => ?_)
      · exact keepW5 K.out (by repeat (first | exact Below.refl _ _ | refine bel_drew ?_ | refine Below.setCell ?_ (by first | (simp; done) | omega | (simp; omega)) _ | refine Below.alloc ?_ (by first | (simp; done) | omega | (simp; omega)) _))
      clear hK KK hHeld
      try simp only [List.getElem_toArray, List.getElem_cons_zero, List.getElem_cons_succ, Act.put, List.setIfInBounds_toArray, List.set_cons_zero, List.set_cons_succ]
      refine wpAnyH_ready (rs := [18]) (by kernel_rfl) (by simp) ?_
      refine AllReadyH.cons rfl (fun KK hK => ?_) AllReadyH.nil
      go_simp
      refine hK.out _ _ ?_ (fun hH3 => ?_)
      · exact keepW5 K.out (by repeat (first | exact Below.refl _ _ | refine bel_drew ?_ | refine Below.setCell ?_ (by first | (simp; done) | omega | (simp; omega)) _ | refine Below.alloc ?_ (by first | (simp; done) | omega | (simp; omega)) _))
      clear hK KK hH2
      try simp only [List.getElem_toArray, List.getElem_cons_zero, List.getElem_cons_succ, Act.put, List.setIfInBounds_toArray, List.set_cons_zero, List.set_cons_succ]
      refine wpAnyH_ready (rs := [19]) (by kernel_rfl) (by simp) ?_
      refine AllReadyH.cons rfl (fun KK hK => ?_) AllReadyH.nil
      go_simp
      refine hK.out _ _ ?_ (fun hH4 => ?_)
      · exact keepW5 K.out (by repeat (first | exact Below.refl _ _ | refine bel_drew ?_ | refine Below.setCell ?_ (by first | (simp; done) | omega | (simp; omega)) _ | refine Below.alloc ?_ (by first | (simp; done) | omega | (simp; omega)) _))
      clear hK KK hH3
      try simp only [List.getElem_toArray, List.getElem_cons_zero, List.getElem_cons_succ, Act.put, List.setIfInBounds_toArray, List.set_cons_zero, List.set_cons_succ]
      refine wpAnyH_ready (rs := [20]) (by kernel_rfl) (by simp) ?_
      refine AllReadyH.cons rfl (fun KK hK => ?_) AllReadyH.nil
      go_simp
      refine hK.out _ _ ?_ (fun hH5 => ?_)
      · exact keepW5 K.out (by repeat (first | exact Below.refl _ _ | refine bel_drew ?_ | refine Below.setCell ?_ (by first | (simp; done) | omega | (simp; omega)) _ | refine Below.alloc ?_ (by first | (simp; done) | omega | (simp; omega)) _))
      clear hK KK hH4
      try simp only [List.getElem_toArray, List.getElem_cons_zero, List.getElem_cons_succ, Act.put, List.setIfInBounds_toArray, List.set_cons_zero, List.set_cons_succ]
      refine wpAnyH_done (by kernel_rfl) ?_ _
      obtain ⟨_, _, _, _, _, hB⟩ := hH5
      have HB5 := Lib.hid hB
      clear K hB
      go_wp2_with fail
      refine (BL.out _).mono ?_
      rintro e w2 ⟨rfl, hb2⟩
      have HB2 := Lib.hid (HB5.out.trans (hb2.mono HB5.out.size))
      clear hb2
      go_wp2_with fail
      go_ret
      exact ⟨rfl, HB2.out⟩
    · go_simp
      refine hK.out _ _ ?_ (fun hH2 => ?_)
      · exact keepW5 K.out (by repeat (first | exact Below.refl _ _ | refine bel_drew ?_ | refine Below.setCell ?_ (by first | (simp; done) | omega | (simp; omega)) _ | refine Below.alloc ?_ (by first | (simp; done) | omega | (simp; omega)) _))
      clear hK KK hHeld
      try simp only [List.getElem_toArray, List.getElem_cons_zero, List.getElem_cons_succ, Act.put, List.setIfInBounds_toArray, List.set_cons_zero, List.set_cons_succ]
      refine wpAnyH_ready (rs := [17]) (by kernel_rfl) (by simp) ?_
      refine AllReadyH.cons rfl (fun KK hK => ?_) AllReadyH.nil
      go_simp
      refine hK.out _ _ ?_ (fun hH3 => ?_)
      · exact keepW5 K.out (by repeat (first | exact Below.refl _ _ | refine bel_drew ?_ | refine Below.setCell ?_ (by first | (simp; done) | omega | (simp; omega)) _ | refine Below.alloc ?_ (by first | (simp; done) | omega | (simp; omega)) _))
      clear hK KK hH2
      try simp only [List.getElem_toArray, List.getElem_cons_zero, List.getElem_cons_succ, Act.put, List.setIfInBounds_toArray, List.set_cons_zero, List.set_cons_succ]
      refine wpAnyH_ready (rs := [19]) (by kernel_rfl) (by simp) ?_
      refine AllReadyH.cons rfl (fun KK hK => ?_) AllReadyH.nil
      go_simp
      refine hK.out _ _ ?_ (fun hH4 => ?_)
      · exact keepW5 K.out (by repeat (first | exact Below.refl _ _ | refine bel_drew ?_ | refine Below.setCell ?_ (by first | (simp; done) | omega | (simp; omega)) _ | refine Below.alloc ?_ (by first | (simp; done) | omega | (simp; omega)) _))
      clear hK KK hH3
      try simp only [List.getElem_toArray, List.getElem_cons_zero, List.getElem_cons_succ, Act.put, List.setIfInBounds_toArray, List.set_cons_zero, List.set_cons_succ]
      refine wpAnyH_ready (rs := [20]) (by kernel_rfl) (by simp) ?_
      refine AllReadyH.cons rfl (fun KK hK => ?_) AllReadyH.nil
      go_simp
      refine hK.out _ _ ?_ (fun hH5 => ?_)
      · exact keepW5 K.out (by repeat (first | exact Below.refl _ _ | refine bel_drew ?_ | refine Below.setCell ?_ (by first | (simp; done) | omega | (simp; omega)) _ | refine Below.alloc ?_ (by first | (simp; done) | omega | (simp; omega)) _))
      clear hK KK hH4
      try simp only [List.getElem_toArray, List.getElem_cons_zero, List.getElem_cons_succ, Act.put, List.setIfInBounds_toArray, List.set_cons_zero, List.set_cons_succ]
      refine wpAnyH_done (by kernel_rfl) ?_ _
      obtain ⟨_, _, _, _, _, hB⟩ := hH5
      have HB5 := Lib.hid hB
      clear K hB
      go_wp2_with fail
      refine (BL.out _).mono ?_
      rintro e w2 ⟨rfl, hb2⟩
      have HB2 := Lib.hid (HB5.out.trans (hb2.mono HB5.out.size))
      clear hb2
      go_wp2_with fail
      go_ret
      exact ⟨rfl, HB2.out⟩
  · by_cases hz : a = zs.length
    · subst hz
      obtain ⟨m, hm⟩ : ∃ m : Nat, m = zs.length - 1 := ⟨_, rfl⟩
      have hmin : min zs.length (zs.length - 1) = m := by omega
      rw [hmin] at q0 q1
      rw [← hm] at p0 p1 hblg
      have e2 : (zs.length : Int) - 1 = (m : Int) := by omega
      have e3 : ((zs.length - 1 : Nat) : Int) = (m : Int) := by omega
      have m0 : (0 : Int) ≤ (m : Int) := by omega
      have m1 : (m : Int) < (zs.length : Int) := by omega
      have m2 : m < zs.length := by omega
      have m4 : (if (m : Int) < 0 then (0 : Int) else (m : Int)) = (m : Int) := if_neg (by omega)
      have m5 : (if (m : Int) < (zs.length : Int) then (m : Int) else (zs.length : Int)) = (m : Int) := if_pos (by omega)
      have wkm : IntKind.i64.wrap (m : Int) = (m : Int) := IntWalk.i64_in _ (by omega)
      clear hm hmin ha
      have ex : x0 = x1 := by
        have h := p0.symm.trans q0
        injection h with h
        injection h with _ h
      have ey : y0 = y1 := by
        have h := p1.symm.trans q1
        injection h with h
        injection h with _ h
      subst ex ey
      have K : Hid (w1.cell? ⟨w.heap.size, 1, none⟩ = some (.slice (some ⟨g, 0, none⟩) zs.length cap) ∧ w1.cell? ⟨g, m * 2, none⟩ = some (.int .i64 x0) ∧ w1.cell? ⟨g, m * 2 + 1, none⟩ = some (.int .i64 y0) ∧ w1.cell? ⟨g, m * 2, none⟩ = some (.int .i64 x0) ∧ w1.cell? ⟨g, m * 2 + 1, none⟩ = some (.int .i64 y0) ∧ Below w.heap.size w w1) := Lib.hid ⟨c0, p0, p1, q0, q1, HB1.out⟩
      have hg1 := HB1.out.size
      clear p0 p1 q0 q1
      go_wp2_with fail
      clear c0
      refine wp_region_held_drew (S := fun W => W.cell? ⟨w.heap.size, 1, none⟩ = some (.slice (some ⟨g, 0, none⟩) zs.length cap) ∧ W.cell? ⟨g, m * 2, none⟩ = some (.int .i64 x0) ∧ W.cell? ⟨g, m * 2 + 1, none⟩ = some (.int .i64 y0) ∧ W.cell? ⟨g, m * 2, none⟩ = some (.int .i64 x0) ∧ W.cell? ⟨g, m * 2 + 1, none⟩ = some (.int .i64 y0) ∧ Below w.heap.size w W) (by kernel_rfl) ?_ (fun hHeld => ?_)
      · exact keepW5 K.out (drewG w1)
      refine wpAnyH_take (i := 0) rfl (by kernel_rfl) (by kernel_rfl) (by kernel_rfl) (fun _ _ _ h => h) (Or.inl ⟨by kernel_rfl, fun w hSw => by (try dsimp only at hSw); (try obtain ⟨s0, s1, s2, s3, s4, s5⟩ := hSw); go_simp; (try with_reducible rfl)⟩) hHeld ?_
      try simp only [List.getElem_toArray, List.getElem_cons_zero, List.getElem_cons_succ, Act.put, List.setIfInBounds_toArray, List.set_cons_zero, List.set_cons_succ]
      refine wpAnyH_take (i := 1) rfl (by kernel_rfl) (by kernel_rfl) (by kernel_rfl) (fun _ _ _ h => h) (Or.inl ⟨by kernel_rfl, fun w hSw => by (try dsimp only at hSw); (try obtain ⟨s0, s1, s2, s3, s4, s5⟩ := hSw); go_simp; (try with_reducible rfl)⟩) hHeld ?_
      try simp only [List.getElem_toArray, List.getElem_cons_zero, List.getElem_cons_succ, Act.put, List.setIfInBounds_toArray, List.set_cons_zero, List.set_cons_succ]
      refine wpAnyH_take (i := 2) rfl (by kernel_rfl) (by kernel_rfl) (by kernel_rfl) (fun _ _ _ h => h) (Or.inl ⟨by kernel_rfl, fun w hSw => by (try dsimp only at hSw); (try obtain ⟨s0, s1, s2, s3, s4, s5⟩ := hSw); go_simp; (try with_reducible rfl)⟩) hHeld ?_
      try simp only [List.getElem_toArray, List.getElem_cons_zero, List.getElem_cons_succ, Act.put, List.setIfInBounds_toArray, List.set_cons_zero, List.set_cons_succ]
      refine wpAnyH_take (i := 3) rfl (by kernel_rfl) (by kernel_rfl) (by kernel_rfl) (fun _ _ _ h => h) (Or.inl ⟨by kernel_rfl, fun w hSw => by (try dsimp only at hSw); (try obtain ⟨s0, s1, s2, s3, s4, s5⟩ := hSw); go_simp; (try with_reducible rfl)⟩) hHeld ?_
      try simp only [List.getElem_toArray, List.getElem_cons_zero, List.getElem_cons_succ, Act.put, List.setIfInBounds_toArray, List.set_cons_zero, List.set_cons_succ]
      refine wpAnyH_take (i := 4) rfl (by kernel_rfl) (by kernel_rfl) (by kernel_rfl) (fun _ _ _ h => h) (Or.inl ⟨by kernel_rfl, fun w hSw => by (try dsimp only at hSw); (try obtain ⟨s0, s1, s2, s3, s4, s5⟩ := hSw); go_simp; (try with_reducible rfl)⟩) hHeld ?_
      try simp only [List.getElem_toArray, List.getElem_cons_zero, List.getElem_cons_succ, Act.put, List.setIfInBounds_toArray, List.set_cons_zero, List.set_cons_succ]
      refine wpAnyH_take (i := 5) rfl (by kernel_rfl) (by kernel_rfl) (by kernel_rfl) (fun _ _ _ h => h) (Or.inl ⟨by kernel_rfl, fun w hSw => by (try dsimp only at hSw); (try obtain ⟨s0, s1, s2, s3, s4, s5⟩ := hSw); go_simp; (try with_reducible rfl)⟩) hHeld ?_
      try simp only [List.getElem_toArray, List.getElem_cons_zero, List.getElem_cons_succ, Act.put, List.setIfInBounds_toArray, List.set_cons_zero, List.set_cons_succ]
      refine wpAnyH_take (i := 6) rfl (by kernel_rfl) (by kernel_rfl) (by kernel_rfl) (fun _ _ _ h => h) (Or.inl ⟨by kernel_rfl, fun w hSw => by (try dsimp only at hSw); (try obtain ⟨s0, s1, s2, s3, s4, s5⟩ := hSw); go_simp; (try with_reducible rfl)⟩) hHeld ?_
      try simp only [List.getElem_toArray, List.getElem_cons_zero, List.getElem_cons_succ, Act.put, List.setIfInBounds_toArray, List.set_cons_zero, List.set_cons_succ]
      refine wpAnyH_take (i := 7) rfl (by kernel_rfl) (by kernel_rfl) (by kernel_rfl) (fun _ _ _ h => h) (Or.inl ⟨by kernel_rfl, fun w hSw => by (try dsimp only at hSw); (try obtain ⟨s0, s1, s2, s3, s4, s5⟩ := hSw); go_simp; (try with_reducible rfl)⟩) hHeld ?_
      try simp only [List.getElem_toArray, List.getElem_cons_zero, List.getElem_cons_succ, Act.put, List.setIfInBounds_toArray, List.set_cons_zero, List.set_cons_succ]
      refine wpAnyH_take (i := 8) rfl (by kernel_rfl) (by kernel_rfl) (by kernel_rfl) (fun _ _ _ h => h) (Or.inl ⟨by kernel_rfl, fun w hSw => by (try dsimp only at hSw); (try obtain ⟨s0, s1, s2, s3, s4, s5⟩ := hSw); go_simp; (try with_reducible rfl)⟩) hHeld ?_
      try simp only [List.getElem_toArray, List.getElem_cons_zero, List.getElem_cons_succ, Act.put, List.setIfInBounds_toArray, List.set_cons_zero, List.set_cons_succ]
      refine wpAnyH_take (i := 9) rfl (by kernel_rfl) (by kernel_rfl) (by kernel_rfl) (fun _ _ _ h => h) (Or.inl ⟨by kernel_rfl, fun w hSw => by (try dsimp only at hSw); (try obtain ⟨s0, s1, s2, s3, s4, s5⟩ := hSw); go_simp; (try with_reducible rfl)⟩) hHeld ?_
      try simp only [List.getElem_toArray, List.getElem_cons_zero, List.getElem_cons_succ, Act.put, List.setIfInBounds_toArray, List.set_cons_zero, List.set_cons_succ]
      refine wpAnyH_take (i := 10) rfl (by kernel_rfl) (by kernel_rfl) (by kernel_rfl) (fun _ _ _ h => h) (Or.inl ⟨by kernel_rfl, fun w hSw => by (try dsimp only at hSw); (try obtain ⟨s0, s1, s2, s3, s4, s5⟩ := hSw); go_simp; (try with_reducible rfl)⟩) hHeld ?_
      try simp only [List.getElem_toArray, List.getElem_cons_zero, List.getElem_cons_succ, Act.put, List.setIfInBounds_toArray, List.set_cons_zero, List.set_cons_succ]
      refine wpAnyH_take (i := 11) rfl (by kernel_rfl) (by kernel_rfl) (by kernel_rfl) (fun _ _ _ h => h) (Or.inl ⟨by kernel_rfl, fun w hSw => by (try dsimp only at hSw); (try obtain ⟨s0, s1, s2, s3, s4, s5⟩ := hSw); go_simp; (try with_reducible rfl)⟩) hHeld ?_
      try simp only [List.getElem_toArray, List.getElem_cons_zero, List.getElem_cons_succ, Act.put, List.setIfInBounds_toArray, List.set_cons_zero, List.set_cons_succ]
      refine wpAnyH_take (i := 12) rfl (by kernel_rfl) (by kernel_rfl) (by kernel_rfl) (fun _ _ _ h => h) (Or.inl ⟨by kernel_rfl, fun w hSw => by (try dsimp only at hSw); (try obtain ⟨s0, s1, s2, s3, s4, s5⟩ := hSw); go_simp; (try with_reducible rfl)⟩) hHeld ?_
      try simp only [List.getElem_toArray, List.getElem_cons_zero, List.getElem_cons_succ, Act.put, List.setIfInBounds_toArray, List.set_cons_zero, List.set_cons_succ]
      refine wpAnyH_take (i := 13) rfl (by kernel_rfl) (by kernel_rfl) (by kernel_rfl) (fun _ _ _ h => h) (Or.inl ⟨by kernel_rfl, fun w hSw => by (try dsimp only at hSw); (try obtain ⟨s0, s1, s2, s3, s4, s5⟩ := hSw); go_simp; (try with_reducible rfl)⟩) hHeld ?_
      try simp only [List.getElem_toArray, List.getElem_cons_zero, List.getElem_cons_succ, Act.put, List.setIfInBounds_toArray, List.set_cons_zero, List.set_cons_succ]
      refine wpAnyH_take (i := 14) rfl (by kernel_rfl) (by kernel_rfl) (by kernel_rfl) (fun _ _ _ h => h) (Or.inl ⟨by kernel_rfl, fun w hSw => by (try dsimp only at hSw); (try obtain ⟨s0, s1, s2, s3, s4, s5⟩ := hSw); go_simp; (try with_reducible rfl)⟩) hHeld ?_
      try simp only [List.getElem_toArray, List.getElem_cons_zero, List.getElem_cons_succ, Act.put, List.setIfInBounds_toArray, List.set_cons_zero, List.set_cons_succ]
      refine wpAnyH_take (i := 15) rfl (by kernel_rfl) (by kernel_rfl) (by kernel_rfl) (fun _ _ _ h => h) (Or.inl ⟨by kernel_rfl, fun w hSw => by (try dsimp only at hSw); (try obtain ⟨s0, s1, s2, s3, s4, s5⟩ := hSw); go_simp; (try with_reducible rfl)⟩) hHeld ?_
      try simp only [List.getElem_toArray, List.getElem_cons_zero, List.getElem_cons_succ, Act.put, List.setIfInBounds_toArray, List.set_cons_zero, List.set_cons_succ]
      refine wpAnyH_take (i := 16) rfl (by kernel_rfl) (by kernel_rfl) (by kernel_rfl) (fun _ _ _ h => h) (Or.inl ⟨by kernel_rfl, fun w hSw => by (try dsimp only at hSw); (try obtain ⟨s0, s1, s2, s3, s4, s5⟩ := hSw); go_simp; (try with_reducible rfl)⟩) hHeld ?_
      try simp only [List.getElem_toArray, List.getElem_cons_zero, List.getElem_cons_succ, Act.put, List.setIfInBounds_toArray, List.set_cons_zero, List.set_cons_succ]
      refine wpAnyH_ready (rs := [17, 18]) (by kernel_rfl) (by simp) ?_
      refine AllReadyH.cons rfl (fun KK hK => ?_) (AllReadyH.cons rfl (fun KK hK => ?_) AllReadyH.nil)
      · go_simp
        refine hK.out _ _ ?_ (fun hH2 => ?_)
        · exact keepW5 K.out (by repeat (first | exact Below.refl _ _ | refine bel_drew ?_ | refine Below.setCell ?_ (by first | (simp; done) | omega | (simp; omega)) _ | refine Below.alloc ?_ (by first | (simp; done) | omega | (simp; omega)) _))
        clear hK KK hHeld
        try simp only [List.getElem_toArray, List.getElem_cons_zero, List.getElem_cons_succ, Act.put, List.setIfInBounds_toArray, List.set_cons_zero, List.set_cons_succ]
        refine wpAnyH_ready (rs := [18]) (by kernel_rfl) (by simp) ?_
        refine AllReadyH.cons rfl (fun KK hK => ?_) AllReadyH.nil
        go_simp
        refine hK.out _ _ ?_ (fun hH3 => ?_)
        · exact keepW5 K.out (by repeat (first | exact Below.refl _ _ | refine bel_drew ?_ | refine Below.setCell ?_ (by first | (simp; done) | omega | (simp; omega)) _ | refine Below.alloc ?_ (by first | (simp; done) | omega | (simp; omega)) _))
        clear hK KK hH2
        try simp only [List.getElem_toArray, List.getElem_cons_zero, List.getElem_cons_succ, Act.put, List.setIfInBounds_toArray, List.set_cons_zero, List.set_cons_succ]
        refine wpAnyH_ready (rs := [19]) (by kernel_rfl) (by simp) ?_
        refine AllReadyH.cons rfl (fun KK hK => ?_) AllReadyH.nil
        go_simp
        refine hK.out _ _ ?_ (fun hH4 => ?_)
        · exact keepW5 K.out (by repeat (first | exact Below.refl _ _ | refine bel_drew ?_ | refine Below.setCell ?_ (by first | (simp; done) | omega | (simp; omega)) _ | refine Below.alloc ?_ (by first | (simp; done) | omega | (simp; omega)) _))
        clear hK KK hH3
        try simp only [List.getElem_toArray, List.getElem_cons_zero, List.getElem_cons_succ, Act.put, List.setIfInBounds_toArray, List.set_cons_zero, List.set_cons_succ]
        refine wpAnyH_ready (rs := [20]) (by kernel_rfl) (by simp) ?_
        refine AllReadyH.cons rfl (fun KK hK => ?_) AllReadyH.nil
        go_simp
        refine hK.out _ _ ?_ (fun hH5 => ?_)
        · exact keepW5 K.out (by repeat (first | exact Below.refl _ _ | refine bel_drew ?_ | refine Below.setCell ?_ (by first | (simp; done) | omega | (simp; omega)) _ | refine Below.alloc ?_ (by first | (simp; done) | omega | (simp; omega)) _))
        clear hK KK hH4
        try simp only [List.getElem_toArray, List.getElem_cons_zero, List.getElem_cons_succ, Act.put, List.setIfInBounds_toArray, List.set_cons_zero, List.set_cons_succ]
        refine wpAnyH_done (by kernel_rfl) ?_ _
        obtain ⟨_, _, _, _, _, hB⟩ := hH5
        have HB5 := Lib.hid hB
        clear K hB
        go_wp2_with fail
        refine (BL.out _).mono ?_
        rintro e w2 ⟨rfl, hb2⟩
        have HB2 := Lib.hid (HB5.out.trans (hb2.mono HB5.out.size))
        clear hb2
        go_wp2_with fail
        go_ret
        exact ⟨rfl, HB2.out⟩
      · go_simp
        refine hK.out _ _ ?_ (fun hH2 => ?_)
        · exact keepW5 K.out (by repeat (first | exact Below.refl _ _ | refine bel_drew ?_ | refine Below.setCell ?_ (by first | (simp; done) | omega | (simp; omega)) _ | refine Below.alloc ?_ (by first | (simp; done) | omega | (simp; omega)) _))
        clear hK KK hHeld
        try simp only [List.getElem_toArray, List.getElem_cons_zero, List.getElem_cons_succ, Act.put, List.setIfInBounds_toArray, List.set_cons_zero, List.set_cons_succ]
        refine wpAnyH_ready (rs := [17]) (by kernel_rfl) (by simp) ?_
        refine AllReadyH.cons rfl (fun KK hK => ?_) AllReadyH.nil
        go_simp
        refine hK.out _ _ ?_ (fun hH3 => ?_)
        · exact keepW5 K.out (by repeat (first | exact Below.refl _ _ | refine bel_drew ?_ | refine Below.setCell ?_ (by first | (simp; done) | omega | (simp; omega)) _ | refine Below.alloc ?_ (by first | (simp; done) | omega | (simp; omega)) _))
        clear hK KK hH2
        try simp only [List.getElem_toArray, List.getElem_cons_zero, List.getElem_cons_succ, Act.put, List.setIfInBounds_toArray, List.set_cons_zero, List.set_cons_succ]
        refine wpAnyH_ready (rs := [19]) (by kernel_rfl) (by simp) ?_
        refine AllReadyH.cons rfl (fun KK hK => ?_) AllReadyH.nil
        go_simp
        refine hK.out _ _ ?_ (fun hH4 => ?_)
        · exact keepW5 K.out (by repeat (first | exact Below.refl _ _ | refine bel_drew ?_ | refine Below.setCell ?_ (by first | (simp; done) | omega | (simp; omega)) _ | refine Below.alloc ?_ (by first | (simp; done) | omega | (simp; omega)) _))
        clear hK KK hH3
        try simp only [List.getElem_toArray, List.getElem_cons_zero, List.getElem_cons_succ, Act.put, List.setIfInBounds_toArray, List.set_cons_zero, List.set_cons_succ]
        refine wpAnyH_ready (rs := [20]) (by kernel_rfl) (by simp) ?_
        refine AllReadyH.cons rfl (fun KK hK => ?_) AllReadyH.nil
        go_simp
        refine hK.out _ _ ?_ (fun hH5 => ?_)
        · exact keepW5 K.out (by repeat (first | exact Below.refl _ _ | refine bel_drew ?_ | refine Below.setCell ?_ (by first | (simp; done) | omega | (simp; omega)) _ | refine Below.alloc ?_ (by first | (simp; done) | omega | (simp; omega)) _))
        clear hK KK hH4
        try simp only [List.getElem_toArray, List.getElem_cons_zero, List.getElem_cons_succ, Act.put, List.setIfInBounds_toArray, List.set_cons_zero, List.set_cons_succ]
        refine wpAnyH_done (by kernel_rfl) ?_ _
        obtain ⟨_, _, _, _, _, hB⟩ := hH5
        have HB5 := Lib.hid hB
        clear K hB
        go_wp2_with fail
        refine (BL.out _).mono ?_
        rintro e w2 ⟨rfl, hb2⟩
        have HB2 := Lib.hid (HB5.out.trans (hb2.mono HB5.out.size))
        clear hb2
        go_wp2_with fail
        go_ret
        exact ⟨rfl, HB2.out⟩
    · obtain ⟨m, rfl⟩ : ∃ m : Nat, a = m + 1 := ⟨a - 1, by omega⟩
      obtain ⟨n, hn⟩ : ∃ n : Nat, n = zs.length - 1 := ⟨_, rfl⟩
      have hmin : min (m + 1) (zs.length - 1) = m + 1 := by omega
      rw [hmin] at q0 q1
      rw [show m + 1 - 1 = m by omega] at p0 p1 hblg
      have e1 : ((m + 1 : Nat) : Int) - 1 = (m : Int) := by omega
      have e2 : (zs.length : Int) - 1 = (n : Int) := by omega
      have m0 : (0 : Int) ≤ (m : Int) := by omega
      have m1 : (m : Int) < (zs.length : Int) := by omega
      have m2 : m < zs.length := by omega
      have e3 : ((zs.length - 1 : Nat) : Int) = (n : Int) := by omega
      have m3 : (if (m : Int) < 0 then (0 : Int) else (m : Int)) = (m : Int) := if_neg (by omega)
      have l3 : (0 : Int) ≤ ((m + 1 : Nat) : Int) := by omega
      have l3' : (0 : Int) ≤ (m : Int) + 1 := by omega
      have l4 : ((m + 1 : Nat) : Int) < (zs.length : Int) := by omega
      have l4' : (m : Int) + 1 < (zs.length : Int) := by omega
      have l5 : m + 1 < zs.length := by omega
      have m4 : (if (n : Int) < ((m + 1 : Nat) : Int) then (n : Int) else ((m + 1 : Nat) : Int)) = ((m + 1 : Nat) : Int) := if_neg (by omega)
      have m4' : (if (n : Int) < (m : Int) + 1 then (n : Int) else (m : Int) + 1) = (m : Int) + 1 := if_neg (by omega)
      have wkm : IntKind.i64.wrap (m : Int) = (m : Int) := IntWalk.i64_in _ (by omega)
      have wkn : IntKind.i64.wrap (n : Int) = (n : Int) := IntWalk.i64_in _ (by omega)
      clear hmin hz ha hn
      have K : Hid (w1.cell? ⟨w.heap.size, 1, none⟩ = some (.slice (some ⟨g, 0, none⟩) zs.length cap) ∧ w1.cell? ⟨g, m * 2, none⟩ = some (.int .i64 x0) ∧ w1.cell? ⟨g, m * 2 + 1, none⟩ = some (.int .i64 y0) ∧ w1.cell? ⟨g, (m + 1) * 2, none⟩ = some (.int .i64 x1) ∧ w1.cell? ⟨g, (m + 1) * 2 + 1, none⟩ = some (.int .i64 y1) ∧ Below w.heap.size w w1) := Lib.hid ⟨c0, p0, p1, q0, q1, HB1.out⟩
      have hg1 := HB1.out.size
      clear p0 p1 q0 q1
      go_wp2_with fail
      clear c0
      refine wp_region_held_drew (S := fun W => W.cell? ⟨w.heap.size, 1, none⟩ = some (.slice (some ⟨g, 0, none⟩) zs.length cap) ∧ W.cell? ⟨g, m * 2, none⟩ = some (.int .i64 x0) ∧ W.cell? ⟨g, m * 2 + 1, none⟩ = some (.int .i64 y0) ∧ W.cell? ⟨g, (m + 1) * 2, none⟩ = some (.int .i64 x1) ∧ W.cell? ⟨g, (m + 1) * 2 + 1, none⟩ = some (.int .i64 y1) ∧ Below w.heap.size w W) (by kernel_rfl) ?_ (fun hHeld => ?_)
      · exact keepW5 K.out (drewG w1)
      refine wpAnyH_take (i := 0) rfl (by kernel_rfl) (by kernel_rfl) (by kernel_rfl) (fun _ _ _ h => h) (Or.inl ⟨by kernel_rfl, fun w hSw => by (try dsimp only at hSw); (try obtain ⟨s0, s1, s2, s3, s4, s5⟩ := hSw); go_simp; (try with_reducible rfl)⟩) hHeld ?_
      try simp only [List.getElem_toArray, List.getElem_cons_zero, List.getElem_cons_succ, Act.put, List.setIfInBounds_toArray, List.set_cons_zero, List.set_cons_succ]
      refine wpAnyH_take (i := 1) rfl (by kernel_rfl) (by kernel_rfl) (by kernel_rfl) (fun _ _ _ h => h) (Or.inl ⟨by kernel_rfl, fun w hSw => by (try dsimp only at hSw); (try obtain ⟨s0, s1, s2, s3, s4, s5⟩ := hSw); go_simp; (try with_reducible rfl)⟩) hHeld ?_
      try simp only [List.getElem_toArray, List.getElem_cons_zero, List.getElem_cons_succ, Act.put, List.setIfInBounds_toArray, List.set_cons_zero, List.set_cons_succ]
      refine wpAnyH_take (i := 2) rfl (by kernel_rfl) (by kernel_rfl) (by kernel_rfl) (fun _ _ _ h => h) (Or.inl ⟨by kernel_rfl, fun w hSw => by (try dsimp only at hSw); (try obtain ⟨s0, s1, s2, s3, s4, s5⟩ := hSw); go_simp; (try with_reducible rfl)⟩) hHeld ?_
      try simp only [List.getElem_toArray, List.getElem_cons_zero, List.getElem_cons_succ, Act.put, List.setIfInBounds_toArray, List.set_cons_zero, List.set_cons_succ]
      refine wpAnyH_take (i := 3) rfl (by kernel_rfl) (by kernel_rfl) (by kernel_rfl) (fun _ _ _ h => h) (Or.inl ⟨by kernel_rfl, fun w hSw => by (try dsimp only at hSw); (try obtain ⟨s0, s1, s2, s3, s4, s5⟩ := hSw); go_simp; (try with_reducible rfl)⟩) hHeld ?_
      try simp only [List.getElem_toArray, List.getElem_cons_zero, List.getElem_cons_succ, Act.put, List.setIfInBounds_toArray, List.set_cons_zero, List.set_cons_succ]
      refine wpAnyH_take (i := 4) rfl (by kernel_rfl) (by kernel_rfl) (by kernel_rfl) (fun _ _ _ h => h) (Or.inl ⟨by kernel_rfl, fun w hSw => by (try dsimp only at hSw); (try obtain ⟨s0, s1, s2, s3, s4, s5⟩ := hSw); go_simp; (try with_reducible rfl)⟩) hHeld ?_
      try simp only [List.getElem_toArray, List.getElem_cons_zero, List.getElem_cons_succ, Act.put, List.setIfInBounds_toArray, List.set_cons_zero, List.set_cons_succ]
      refine wpAnyH_take (i := 5) rfl (by kernel_rfl) (by kernel_rfl) (by kernel_rfl) (fun _ _ _ h => h) (Or.inl ⟨by kernel_rfl, fun w hSw => by (try dsimp only at hSw); (try obtain ⟨s0, s1, s2, s3, s4, s5⟩ := hSw); go_simp; (try with_reducible rfl)⟩) hHeld ?_
      try simp only [List.getElem_toArray, List.getElem_cons_zero, List.getElem_cons_succ, Act.put, List.setIfInBounds_toArray, List.set_cons_zero, List.set_cons_succ]
      refine wpAnyH_take (i := 6) rfl (by kernel_rfl) (by kernel_rfl) (by kernel_rfl) (fun _ _ _ h => h) (Or.inl ⟨by kernel_rfl, fun w hSw => by (try dsimp only at hSw); (try obtain ⟨s0, s1, s2, s3, s4, s5⟩ := hSw); go_simp; (try with_reducible rfl)⟩) hHeld ?_
      try simp only [List.getElem_toArray, List.getElem_cons_zero, List.getElem_cons_succ, Act.put, List.setIfInBounds_toArray, List.set_cons_zero, List.set_cons_succ]
      refine wpAnyH_take (i := 7) rfl (by kernel_rfl) (by kernel_rfl) (by kernel_rfl) (fun _ _ _ h => h) (Or.inl ⟨by kernel_rfl, fun w hSw => by (try dsimp only at hSw); (try obtain ⟨s0, s1, s2, s3, s4, s5⟩ := hSw); go_simp; (try with_reducible rfl)⟩) hHeld ?_
      try simp only [List.getElem_toArray, List.getElem_cons_zero, List.getElem_cons_succ, Act.put, List.setIfInBounds_toArray, List.set_cons_zero, List.set_cons_succ]
      refine wpAnyH_take (i := 8) rfl (by kernel_rfl) (by kernel_rfl) (by kernel_rfl) (fun _ _ _ h => h) (Or.inl ⟨by kernel_rfl, fun w hSw => by (try dsimp only at hSw); (try obtain ⟨s0, s1, s2, s3, s4, s5⟩ := hSw); go_simp; (try with_reducible rfl)⟩) hHeld ?_
      try simp only [List.getElem_toArray, List.getElem_cons_zero, List.getElem_cons_succ, Act.put, List.setIfInBounds_toArray, List.set_cons_zero, List.set_cons_succ]
      refine wpAnyH_take (i := 9) rfl (by kernel_rfl) (by kernel_rfl) (by kernel_rfl) (fun _ _ _ h => h) (Or.inl ⟨by kernel_rfl, fun w hSw => by (try dsimp only at hSw); (try obtain ⟨s0, s1, s2, s3, s4, s5⟩ := hSw); go_simp; (try with_reducible rfl)⟩) hHeld ?_
      try simp only [List.getElem_toArray, List.getElem_cons_zero, List.getElem_cons_succ, Act.put, List.setIfInBounds_toArray, List.set_cons_zero, List.set_cons_succ]
      refine wpAnyH_take (i := 10) rfl (by kernel_rfl) (by kernel_rfl) (by kernel_rfl) (fun _ _ _ h => h) (Or.inl ⟨by kernel_rfl, fun w hSw => by (try dsimp only at hSw); (try obtain ⟨s0, s1, s2, s3, s4, s5⟩ := hSw); go_simp; (try with_reducible rfl)⟩) hHeld ?_
      try simp only [List.getElem_toArray, List.getElem_cons_zero, List.getElem_cons_succ, Act.put, List.setIfInBounds_toArray, List.set_cons_zero, List.set_cons_succ]
      refine wpAnyH_take (i := 11) rfl (by kernel_rfl) (by kernel_rfl) (by kernel_rfl) (fun _ _ _ h => h) (Or.inl ⟨by kernel_rfl, fun w hSw => by (try dsimp only at hSw); (try obtain ⟨s0, s1, s2, s3, s4, s5⟩ := hSw); go_simp; (try with_reducible rfl)⟩) hHeld ?_
      try simp only [List.getElem_toArray, List.getElem_cons_zero, List.getElem_cons_succ, Act.put, List.setIfInBounds_toArray, List.set_cons_zero, List.set_cons_succ]
      refine wpAnyH_take (i := 12) rfl (by kernel_rfl) (by kernel_rfl) (by kernel_rfl) (fun _ _ _ h => h) (Or.inl ⟨by kernel_rfl, fun w hSw => by (try dsimp only at hSw); (try obtain ⟨s0, s1, s2, s3, s4, s5⟩ := hSw); go_simp; (try with_reducible rfl)⟩) hHeld ?_
      try simp only [List.getElem_toArray, List.getElem_cons_zero, List.getElem_cons_succ, Act.put, List.setIfInBounds_toArray, List.set_cons_zero, List.set_cons_succ]
      refine wpAnyH_take (i := 13) rfl (by kernel_rfl) (by kernel_rfl) (by kernel_rfl) (fun _ _ _ h => h) (Or.inl ⟨by kernel_rfl, fun w hSw => by (try dsimp only at hSw); (try obtain ⟨s0, s1, s2, s3, s4, s5⟩ := hSw); go_simp; (try with_reducible rfl)⟩) hHeld ?_
      try simp only [List.getElem_toArray, List.getElem_cons_zero, List.getElem_cons_succ, Act.put, List.setIfInBounds_toArray, List.set_cons_zero, List.set_cons_succ]
      refine wpAnyH_take (i := 14) rfl (by kernel_rfl) (by kernel_rfl) (by kernel_rfl) (fun _ _ _ h => h) (Or.inl ⟨by kernel_rfl, fun w hSw => by (try dsimp only at hSw); (try obtain ⟨s0, s1, s2, s3, s4, s5⟩ := hSw); go_simp; (try with_reducible rfl)⟩) hHeld ?_
      try simp only [List.getElem_toArray, List.getElem_cons_zero, List.getElem_cons_succ, Act.put, List.setIfInBounds_toArray, List.set_cons_zero, List.set_cons_succ]
      refine wpAnyH_take (i := 15) rfl (by kernel_rfl) (by kernel_rfl) (by kernel_rfl) (fun _ _ _ h => h) (Or.inl ⟨by kernel_rfl, fun w hSw => by (try dsimp only at hSw); (try obtain ⟨s0, s1, s2, s3, s4, s5⟩ := hSw); go_simp; (try with_reducible rfl)⟩) hHeld ?_
      try simp only [List.getElem_toArray, List.getElem_cons_zero, List.getElem_cons_succ, Act.put, List.setIfInBounds_toArray, List.set_cons_zero, List.set_cons_succ]
      refine wpAnyH_take (i := 16) rfl (by kernel_rfl) (by kernel_rfl) (by kernel_rfl) (fun _ _ _ h => h) (Or.inl ⟨by kernel_rfl, fun w hSw => by (try dsimp only at hSw); (try obtain ⟨s0, s1, s2, s3, s4, s5⟩ := hSw); go_simp; (try with_reducible rfl)⟩) hHeld ?_
      try simp only [List.getElem_toArray, List.getElem_cons_zero, List.getElem_cons_succ, Act.put, List.setIfInBounds_toArray, List.set_cons_zero, List.set_cons_succ]
      refine wpAnyH_ready (rs := [17, 18]) (by kernel_rfl) (by simp) ?_
      refine AllReadyH.cons rfl (fun KK hK => ?_) (AllReadyH.cons rfl (fun KK hK => ?_) AllReadyH.nil)
      · go_simp
        refine hK.out _ _ ?_ (fun hH2 => ?_)
        · exact keepW5 K.out (by repeat (first | exact Below.refl _ _ | refine bel_drew ?_ | refine Below.setCell ?_ (by first | (simp; done) | omega | (simp; omega)) _ | refine Below.alloc ?_ (by first | (simp; done) | omega | (simp; omega)) _))
        clear hK KK hHeld
        try simp only [List.getElem_toArray, List.getElem_cons_zero, List.getElem_cons_succ, Act.put, List.setIfInBounds_toArray, List.set_cons_zero, List.set_cons_succ]
        refine wpAnyH_ready (rs := [18]) (by kernel_rfl) (by simp) ?_
        refine AllReadyH.cons rfl (fun KK hK => ?_) AllReadyH.nil
        go_simp
        refine hK.out _ _ ?_ (fun hH3 => ?_)
        · exact keepW5 K.out (by repeat (first | exact Below.refl _ _ | refine bel_drew ?_ | refine Below.setCell ?_ (by first | (simp; done) | omega | (simp; omega)) _ | refine Below.alloc ?_ (by first | (simp; done) | omega | (simp; omega)) _))
        clear hK KK hH2
        try simp only [List.getElem_toArray, List.getElem_cons_zero, List.getElem_cons_succ, Act.put, List.setIfInBounds_toArray, List.set_cons_zero, List.set_cons_succ]
        refine wpAnyH_ready (rs := [19]) (by kernel_rfl) (by simp) ?_
        refine AllReadyH.cons rfl (fun KK hK => ?_) AllReadyH.nil
        go_simp
        refine hK.out _ _ ?_ (fun hH4 => ?_)
        · exact keepW5 K.out (by repeat (first | exact Below.refl _ _ | refine bel_drew ?_ | refine Below.setCell ?_ (by first | (simp; done) | omega | (simp; omega)) _ | refine Below.alloc ?_ (by first | (simp; done) | omega | (simp; omega)) _))
        clear hK KK hH3
        try simp only [List.getElem_toArray, List.getElem_cons_zero, List.getElem_cons_succ, Act.put, List.setIfInBounds_toArray, List.set_cons_zero, List.set_cons_succ]
        refine wpAnyH_ready (rs := [20]) (by kernel_rfl) (by simp) ?_
        refine AllReadyH.cons rfl (fun KK hK => ?_) AllReadyH.nil
        go_simp
        refine hK.out _ _ ?_ (fun hH5 => ?_)
        · exact keepW5 K.out (by repeat (first | exact Below.refl _ _ | refine bel_drew ?_ | refine Below.setCell ?_ (by first | (simp; done) | omega | (simp; omega)) _ | refine Below.alloc ?_ (by first | (simp; done) | omega | (simp; omega)) _))
        clear hK KK hH4
        try simp only [List.getElem_toArray, List.getElem_cons_zero, List.getElem_cons_succ, Act.put, List.setIfInBounds_toArray, List.set_cons_zero, List.set_cons_succ]
        refine wpAnyH_done (by kernel_rfl) ?_ _
        obtain ⟨_, _, _, _, _, hB⟩ := hH5
        have HB5 := Lib.hid hB
        clear K hB
        go_wp2_with fail
        refine (BL.out _).mono ?_
        rintro e w2 ⟨rfl, hb2⟩
        have HB2 := Lib.hid (HB5.out.trans (hb2.mono HB5.out.size))
        clear hb2
        go_wp2_with fail
        go_ret
        exact ⟨rfl, HB2.out⟩
      · go_simp
        refine hK.out _ _ ?_ (fun hH2 => ?_)
        · exact keepW5 K.out (by repeat (first | exact Below.refl _ _ | refine bel_drew ?_ | refine Below.setCell ?_ (by first | (simp; done) | omega | (simp; omega)) _ | refine Below.alloc ?_ (by first | (simp; done) | omega | (simp; omega)) _))
        clear hK KK hHeld
        try simp only [List.getElem_toArray, List.getElem_cons_zero, List.getElem_cons_succ, Act.put, List.setIfInBounds_toArray, List.set_cons_zero, List.set_cons_succ]
        refine wpAnyH_ready (rs := [17]) (by kernel_rfl) (by simp) ?_
        refine AllReadyH.cons rfl (fun KK hK => ?_) AllReadyH.nil
        go_simp
        refine hK.out _ _ ?_ (fun hH3 => ?_)
        · exact keepW5 K.out (by repeat (first | exact Below.refl _ _ | refine bel_drew ?_ | refine Below.setCell ?_ (by first | (simp; done) | omega | (simp; omega)) _ | refine Below.alloc ?_ (by first | (simp; done) | omega | (simp; omega)) _))
        clear hK KK hH2
        try simp only [List.getElem_toArray, List.getElem_cons_zero, List.getElem_cons_succ, Act.put, List.setIfInBounds_toArray, List.set_cons_zero, List.set_cons_succ]
        refine wpAnyH_ready (rs := [19]) (by kernel_rfl) (by simp) ?_
        refine AllReadyH.cons rfl (fun KK hK => ?_) AllReadyH.nil
        go_simp
        refine hK.out _ _ ?_ (fun hH4 => ?_)
        · exact keepW5 K.out (by repeat (first | exact Below.refl _ _ | refine bel_drew ?_ | refine Below.setCell ?_ (by first | (simp; done) | omega | (simp; omega)) _ | refine Below.alloc ?_ (by first | (simp; done) | omega | (simp; omega)) _))
        clear hK KK hH3
        try simp only [List.getElem_toArray, List.getElem_cons_zero, List.getElem_cons_succ, Act.put, List.setIfInBounds_toArray, List.set_cons_zero, List.set_cons_succ]
        refine wpAnyH_ready (rs := [20]) (by kernel_rfl) (by simp) ?_
        refine AllReadyH.cons rfl (fun KK hK => ?_) AllReadyH.nil
        go_simp
        refine hK.out _ _ ?_ (fun hH5 => ?_)
        · exact keepW5 K.out (by repeat (first | exact Below.refl _ _ | refine bel_drew ?_ | refine Below.setCell ?_ (by first | (simp; done) | omega | (simp; omega)) _ | refine Below.alloc ?_ (by first | (simp; done) | omega | (simp; omega)) _))
        clear hK KK hH4
        try simp only [List.getElem_toArray, List.getElem_cons_zero, List.getElem_cons_succ, Act.put, List.setIfInBounds_toArray, List.set_cons_zero, List.set_cons_succ]
        refine wpAnyH_done (by kernel_rfl) ?_ _
        obtain ⟨_, _, _, _, _, hB⟩ := hH5
        have HB5 := Lib.hid hB
        clear K hB
        go_wp2_with fail
        refine (BL.out _).mono ?_
        rintro e w2 ⟨rfl, hb2⟩
        have HB2 := Lib.hid (HB5.out.trans (hb2.mono HB5.out.size))
        clear hb2
        go_wp2_with fail
        go_ret
        exact ⟨rfl, HB2.out⟩
def NPost (r : Int × Int) (w : World) (e : Ending) (w' : World) : Prop := e = .returned (.tuple #[.int .i64 r.1, .int .i64 r.2]) ∧ Below w.heap.size w w'
set_option maxRecDepth 100000 in
set_option maxHeartbeats 2000000 in
theorem specAt_any (s : ByteArray) (hs : s.size ≤ maxLen) (g cap : Nat) (zs : List V) (x : Int) (w : World) (hb : zs.length ≤ 1048577) (h1 : Row w g zs) :
    Calls Try.prog 28 #[.agg #[.string s, .slice (some ⟨g, 0, none⟩) zs.length cap], .int .i64 x] w (NPost (valV s zs x) w) := by
  have V := Lib.hid (fun (W : World) (hB : Below w.heap.size w W) b h0 h1' => l14One_any b 0 g cap s zs W hb h0 h1' (h1.below hB))
  have L := Lib.hid (fun w => l14Time_any x w)
  have AT := Lib.hid (fun (W : World) (hB : Below w.heap.size w W) hc h0 h1' => l14At_any g cap zs x W (h1.below hB) hc h0 h1')
  obtain ⟨W0, hW0⟩ : ∃ W0, W0 = w.alloc (Obj.cells #[.string s, .slice (some ⟨g, 0, none⟩) zs.length cap] 29) := ⟨_, rfl⟩
  have hB0 : Below w.heap.size w W0 := by rw [hW0]; exact (Below.refl _ w).alloc (Nat.le_refl _) _
  have e0 : W0.cell? ⟨w.heap.size, 0, none⟩ = some (.string s) := by rw [hW0]; simp
  have e1 : W0.cell? ⟨w.heap.size, 1, none⟩ = some (.slice (some ⟨g, 0, none⟩) zs.length cap) := by rw [hW0]; simp
  have V0 := Lib.hid (V.out W0 hB0 w.heap.size e0 e1)
  have HW := Lib.hid hW0
  have HB0 := Lib.hid hB0
  clear h1 hs V hW0 hB0
  unfold valV
  cases ho : trackB s zs with
  | false =>
    rw [if_neg (by simp)]
    rw [ho] at V0
    clear ho
    go_enter Try.func28, Try.ntmps28
    go_wp2_with fail
    rw [← HW.out]
    refine V0.out.mono ?_
    rintro e w1 ⟨rfl, m, rfl⟩
    go_wp2_with fail
    go_ret2
    exact ⟨rfl, bel_dT HB0.out _⟩
  | true =>
    rw [if_pos rfl]
    rw [ho] at V0
    have AT2 := Lib.hid (fun (W : World) (hB : Below w.heap.size w W) => AT.out W hB (trk_of ho))
    clear AT ho
    cases hx : inR 0 7200000 [x] with
    | false =>
      rw [hx] at L
      rw [if_neg (by simp)]
      clear hx
      go_enter Try.func28, Try.ntmps28
      go_wp2_with fail
      rw [← HW.out]
      refine V0.out.mono ?_
      rintro e w1 ⟨rfl, m, rfl⟩
      go_wp2_with fail
      refine (L.out _).mono ?_
      rintro e w' ⟨rfl, rfl⟩
      go_wp2_with fail
      go_ret2
      exact ⟨rfl, bel_dT HB0.out _⟩
    | true =>
      rw [hx] at L
      rw [if_pos rfl]
      obtain ⟨b0, b1⟩ := (inR_1 _ _ _).1 hx
      clear hx
      generalize valI zs x = r at *
      go_enter Try.func28, Try.ntmps28
      go_wp2_with fail
      rw [← HW.out]
      refine V0.out.mono ?_
      rintro e w1 ⟨rfl, m, rfl⟩
      have e2 : (W0.drewN m).cell? ⟨w.heap.size, 1, none⟩ = some (.slice (some ⟨g, 0, none⟩) zs.length cap) := e1
      go_wp2_with fail
      refine (L.out _).mono ?_
      rintro e w' ⟨rfl, rfl⟩
      go_wp2_with fail
      refine (AT2.out _ (bel_dT HB0.out _) b0 b1).mono ?_
      rintro e w2 ⟨rfl, hb2⟩
      have HB2 := Lib.hid ((bel_dT HB0.out _).trans (hb2.mono (bel_dT HB0.out _).size))
      clear hb2
      go_wp2_with fail
      go_ret2
      exact ⟨rfl, HB2.out⟩
set_option maxRecDepth 100000 in
set_option maxHeartbeats 2000000 in
theorem implAt_any (s : ByteArray) (hs : s.size ≤ maxLen) (g cap : Nat) (zs : List V) (x : Int) (w : World) (hb : zs.length ≤ 1048577) (h1 : Row w g zs) :
    Calls Try.prog 29 #[.agg #[.string s, .slice (some ⟨g, 0, none⟩) zs.length cap], .int .i64 x] w (NPost (valV s zs x) w) := by
  have V := Lib.hid (fun (W : World) (hB : Below w.heap.size w W) => implValid_any s hs g cap zs W hb (h1.below hB))
  have L := Lib.hid (fun b cap w hc => Ky.areTimes1 x b cap w hc)
  have AT := Lib.hid (fun (W : World) (hB : Below w.heap.size w W) hc => valueAt_any s g cap zs x W (h1.below hB) hc)
  obtain ⟨W0, hW0⟩ : ∃ W0, W0 = w.alloc (Obj.cells #[.string s, .slice (some ⟨g, 0, none⟩) zs.length cap] 29) := ⟨_, rfl⟩
  have hB0 : Below w.heap.size w W0 := by rw [hW0]; exact (Below.refl _ w).alloc (Nat.le_refl _) _
  have T0 : TAt W0 w.heap.size s (.slice (some ⟨g, 0, none⟩) zs.length cap) := by rw [hW0]; exact TAt.new _ _ _ _
  have HT := Lib.hid T0
  obtain ⟨e0, e1⟩ := T0
  have V0 := Lib.hid (V.out W0 hB0)
  have HW := Lib.hid hW0
  have HB0 := Lib.hid hB0
  clear h1 hs V hW0 hB0
  unfold valV
  cases ho : trackB s zs with
  | false =>
    rw [if_neg (by simp)]
    rw [ho] at V0
    clear ho
    go_enter Try.func29, Try.ntmps29
    go_wp2_with fail
    rw [← HW.out]
    refine V0.out.mono ?_
    rintro e w1 ⟨rfl, hb1⟩
    have HB1 := Lib.hid (HB0.out.trans (hb1.mono HB0.out.size))
    clear hb1
    go_wp2_with fail
    go_ret2
    exact ⟨rfl, HB1.out⟩
  | true =>
    rw [if_pos rfl]
    rw [ho] at V0
    have AT2 := Lib.hid (fun (W : World) (hB : Below w.heap.size w W) => AT.out W hB (trk_of ho))
    clear AT ho
    cases hx : inR 0 7200000 [x] with
    | false =>
      rw [hx] at L
      rw [if_neg (by simp)]
      clear hx
      go_enter Try.func29, Try.ntmps29
      go_wp2_with fail
      rw [← HW.out]
      refine V0.out.mono ?_
      rintro e w1 ⟨rfl, hb1⟩
      have HB1 := Lib.hid (HB0.out.trans (hb1.mono HB0.out.size))
      clear hb1
      go_wp2_with fail
      refine (L.out _ _ _ (by simp)).mono ?_
      rintro e w' ⟨rfl, rfl⟩
      go_wp2_with fail
      go_ret2
      exact ⟨rfl, HB1.out.alloc HB1.out.size _⟩
    | true =>
      rw [hx] at L
      rw [if_pos rfl]
      clear hx
      generalize valI zs x = r at *
      go_enter Try.func29, Try.ntmps29
      go_wp2_with fail
      rw [← HW.out]
      refine V0.out.mono ?_
      rintro e w1 ⟨rfl, hb1⟩
      have HB1 := Lib.hid (HB0.out.trans (hb1.mono HB0.out.size))
      have HB2 : Hid (Below w.heap.size w (w1.alloc (Obj.cells #[.int .i64 x] 2))) := Lib.hid (HB1.out.alloc HB1.out.size _)
      obtain ⟨f0, f1⟩ := (HT.out.below hb1).below ((Below.refl _ w1).alloc (Nat.le_refl _) (Obj.cells #[.int .i64 x] 2))
      clear hb1 e0 e1
      go_wp2_with fail
      refine (L.out _ _ _ (by simp)).mono ?_
      rintro e w' ⟨rfl, rfl⟩
      go_wp2_with fail
      refine (AT2.out _ HB2.out).mono ?_
      rintro e w2 ⟨rfl, hb2⟩
      have HB3 := Lib.hid (HB2.out.trans (hb2.mono HB2.out.size))
      clear hb2
      go_wp2_with fail
      go_ret2
      exact ⟨rfl, HB3.out⟩
end Go.Proofs.Ytdbocpcijkngpaa.Tk
