/-
  CurveBack (both packages): a valid curve never falls.
-/
import Derived.Test.YtleaoemckdkndaaKnG
import Derived.Test.YtleaoemckdkndaaKnE
import Derived.Handy
namespace Go.Proofs.Ytleaoemckdkndaa.Kn
open Go.RowKit
set_option linter.unusedVariables false

theorem near_mono {d b s t : Int} (hd : 0 ≤ d) (hb : 0 < b) (h0 : 0 ≤ s) (h : s ≤ t) : nearQ (d * s) b ≤ nearQ (d * t) b := by
  have h1 : 0 ≤ d * s := Int.mul_nonneg hd h0
  have h2 : d * s ≤ d * t := Int.mul_le_mul_of_nonneg_left h hd
  rw [nearQ_pp _ _ h1 hb, nearQ_pp _ _ (by omega) hb]
  exact Int.ediv_le_ediv (by omega) (by omega)
theorem near_top {d b s : Int} (hd : 0 ≤ d) (hb : 0 < b) (h0 : 0 ≤ s) (h : s ≤ b) : 0 ≤ nearQ (d * s) b ∧ nearQ (d * s) b ≤ d := by
  have h1 : 0 ≤ d * s := Int.mul_nonneg hd h0
  have h2 : d * s ≤ d * b := Int.mul_le_mul_of_nonneg_left h hd
  rw [nearQ_pp _ _ h1 hb]
  refine ⟨Int.ediv_nonneg (by omega) (by omega), ?_⟩
  have h3 : (2 * (d * s) + b) / (2 * b) < d + 1 := by
    apply Int.ediv_lt_of_lt_mul (by omega)
    rw [Int.add_mul, Int.one_mul, show d * (2 * b) = 2 * (d * b) by rw [Int.mul_left_comm]]
    omega
  omega
theorem line_bd {x0 y0 x1 y1 : Int} (hx : x0 < x1) (hy : y0 ≤ y1) (x : Int) : y0 ≤ lineI x0 y0 x1 y1 x ∧ lineI x0 y0 x1 y1 x ≤ y1 := by
  unfold lineI
  split
  · omega
  · split
    · omega
    · have := near_top (d := y1 - y0) (b := x1 - x0) (s := x - x0) (by omega) (by omega) (by omega) (by omega)
      omega
theorem line_mono {x0 y0 x1 y1 : Int} (hx : x0 < x1) (hy : y0 ≤ y1) {x y : Int} (h : x ≤ y) : lineI x0 y0 x1 y1 x ≤ lineI x0 y0 x1 y1 y := by
  by_cases c1 : x ≤ x0
  · have e : lineI x0 y0 x1 y1 x = y0 := by unfold lineI; rw [if_pos (by omega)]
    rw [e]
    exact (line_bd hx hy y).1
  · by_cases c2 : x1 ≤ y
    · have e : lineI x0 y0 x1 y1 y = y1 := by unfold lineI; rw [if_neg (by omega), if_pos (by omega)]
      rw [e]
      exact (line_bd hx hy x).2
    · unfold lineI
      rw [if_neg (by omega), if_neg (by omega), if_neg (by omega), if_neg (by omega)]
      have := near_mono (d := y1 - y0) (b := x1 - x0) (s := x - x0) (t := y - x0) (by omega) (by omega) (by omega) (by omega)
      omega
theorem atK_mono {zs : List V} (h : Cur zs) {x y : Int} (hxy : x ≤ y) : atK zs x ≤ atK zs y := by
  by_cases c : atK zs x ≤ atK zs y
  · exact c
  · exfalso
    have h1 := atK_le zs x
    have h2 := (atK_iff h y (atK zs y) (by omega)).2 (Nat.le_refl _)
    unfold metB at h2
    rw [decide_eq_true_eq] at h2
    have h3 := (atK_iff h x (atK zs y) (by omega)).1 (by unfold metB; rw [decide_eq_true_eq]; omega)
    exact c h3
theorem levI_mono {zs : List V} (h : Cur zs) {x y : Int} (hxy : x ≤ y) : levI zs x ≤ levI zs y := by
  have hm := atK_mono h hxy
  have n2 := h.n2
  have l1 := atK_le zs x
  have l2 := atK_le zs y
  rw [levI_at h x _ rfl, levI_at h y _ rfl]
  have sx := h.s (atK zs x - 1) (by omega)
  have sy := h.s (atK zs y - 1) (by omega)
  by_cases c : atK zs x - 1 = atK zs y - 1
  · rw [c] at sx ⊢
    exact line_mono sx.1 sx.2 hxy
  · have h1 := (line_bd sx.1 sx.2 x).2
    have h2 := (line_bd sy.1 sy.2 y).1
    have h3 := (h.mono (atK zs y - 1) (atK zs x - 1 + 1) (by omega) (by omega)).2
    omega
theorem levI_bd {zs : List V} (h : Cur zs) (x : Int) : 0 ≤ levI zs x ∧ levI zs x ≤ 1000 := by
  have n2 := h.n2
  have l1 := atK_le zs x
  rw [levI_at h x _ rfl]
  have sx := h.s (atK zs x - 1) (by omega)
  have b := line_bd sx.1 sx.2 x
  have i1 := h.i (atK zs x - 1) (by omega)
  have i2 := h.i (atK zs x - 1 + 1) (by omega)
  omega

def bckB (zs : List V) (y : Int) (i : Nat) : Bool := decide (y ≤ levI zs (i : Int))
def bckN (zs : List V) (y : Int) : Nat := cnt 1001 (bckB zs y)
theorem bckB_mono {zs : List V} (h : Cur zs) (y : Int) (a b : Nat) (hab : a ≤ b) (hb : b < 1001) (ha : bckB zs y a = true) : bckB zs y b = true := by
  unfold bckB at *
  rw [decide_eq_true_eq] at *
  have := levI_mono h (x := (a : Int)) (y := (b : Int)) (by omega)
  omega
theorem bckN_iff {zs : List V} (h : Cur zs) (y : Int) (i : Nat) (hi : i < 1001) : y ≤ levI zs (i : Int) ↔ bckN zs y ≤ i := by
  have := cnt_iff 1001 (bckB zs y) (bckB_mono h y) i hi
  unfold bckB at this
  rwa [decide_eq_true_eq] at this
theorem bckN_le (zs : List V) (y : Int) : bckN zs y ≤ 1001 := cnt_le _ _
def backV (zs : List V) (y : Int) : Int × Int := if curveB zs = true then (if inR 0 1000 [y] = true then (if bckN zs y ≤ 1000 then ((bckN zs y : Int), 0) else (0, 3)) else (0, 2)) else (0, 1)

theorem specLevB_any (g cap : Nat) (zs : List V) (x : Int) (w : World) (h1 : Row w g zs) (hc : Cur zs) :
    Calls Try.prog 85 #[.slice (some ⟨g, 0, none⟩) zs.length cap, .int .i64 x] w fun e w' => e = .returned (.int .i64 (levI zs x)) ∧ Below w.heap.size w w' :=
  (l12At_any g cap zs x w h1 hc).mono fun e w' ⟨he, m, hm⟩ => ⟨he, by rw [hm]; exact bel_dK (Below.refl _ _) _⟩
set_option maxRecDepth 100000 in
set_option maxHeartbeats 2000000 in
theorem specBack_any (g cap : Nat) (zs : List V) (y : Int) (w : World) (hb : zs.length ≤ 1048577) (h1 : Row w g zs) :
    Calls Try.prog 33 #[.slice (some ⟨g, 0, none⟩) zs.length cap, .int .i64 y] w (NPost (backV zs y) w) := by
  have V := Lib.hid (l12Ok_any g cap zs w hb h1)
  have L := Lib.hid (fun w => l12Level_any y w)
  have AT := Lib.hid (fun (W : World) (hB : Below w.heap.size w W) x hc => specLevB_any g cap zs x W (h1.below hB) hc)
  clear h1
  unfold backV
  cases ho : curveB zs with
  | false =>
    rw [if_neg (by simp)]
    rw [ho] at V
    clear ho
    go_enter Try.func33, Try.ntmps33
    go_wp2_with fail
    refine V.out.mono ?_
    rintro e w1 ⟨rfl, hb1⟩
    go_wp2_with fail
    go_ret2
    exact ⟨rfl, hb1⟩
  | true =>
    rw [if_pos rfl]
    rw [ho] at V
    have hc := cur_of ho
    have AT2 := Lib.hid (fun (W : World) (hB : Below w.heap.size w W) x => AT.out W hB x hc)
    have BI := Lib.hid (fun i hi => bckN_iff hc y i hi)
    have BL := bckN_le zs y
    clear AT ho hc
    cases hx : inR 0 1000 [y] with
    | false =>
      rw [hx] at L
      rw [if_neg (by simp)]
      clear hx
      go_enter Try.func33, Try.ntmps33
      go_wp2_with fail
      refine V.out.mono ?_
      rintro e w1 ⟨rfl, hb1⟩
      have HB1 := Lib.hid hb1
      clear hb1
      go_wp2_with fail
      refine (L.out _).mono ?_
      rintro e w' ⟨rfl, rfl⟩
      go_wp2_with fail
      go_ret2
      exact ⟨rfl, HB1.out⟩
    | true =>
      rw [hx] at L
      rw [if_pos rfl]
      clear hx
      obtain ⟨R, hR⟩ : ∃ R, R = (if bckN zs y ≤ 1000 then ((bckN zs y : Int), (0 : Int)) else (0, 3)) := ⟨_, rfl⟩
      rw [← hR]
      have HR := Lib.hid hR
      clear hR
      generalize bckN zs y = c at *
      generalize levI zs = f at *
      go_enter Try.func33, Try.ntmps33
      go_wp2_with fail
      refine V.out.mono ?_
      rintro e w1 ⟨rfl, hb1⟩
      have HB1 := Lib.hid hb1
      clear hb1
      go_wp2_with fail
      refine (L.out _).mono ?_
      rintro e w' ⟨rfl, rfl⟩
      go_wp2_with fail
      go_loopg [6] 1002 (fun kx s6 wr => ∃ j : Nat, s6 = .int .i64 (j : Int) ∧ j ≤ c ∧ j ≤ 1001 ∧ kx = 1002 - j ∧ Hid (Below w.heap.size w wr))
      case atStart => exact ⟨0, rfl, Nat.zero_le _, by omega, rfl, HB1⟩
      case round =>
        obtain ⟨j, rfl, hjc, hj, rfl, HB⟩ := hrel
        by_cases hlt : j ≤ 1000
        · have A := Lib.hid (fun (W : World) hB => AT2.out W hB (j : Int))
          have bi := BI.out j (by omega)
          generalize f (j : Int) = v at *
          by_cases hv : y ≤ v
          · have hcj := bi.1 hv
            obtain rfl : j = c := by omega
            have hr := HR.out
            rw [if_pos hlt] at hr
            subst hr
            clear bi
            go_wp2_with fail
            refine (A.out _ HB.out).mono ?_
            rintro e w2 ⟨rfl, hb2⟩
            have HB2 := Lib.hid (HB.out.trans (hb2.mono HB.out.size))
            clear hb2
            go_wp2_with fail
            go_ret2
            exact ⟨rfl, HB2.out⟩
          · have hcj : ¬ c ≤ j := fun h => hv (bi.2 h)
            clear bi
            go_wp2_with fail
            refine (A.out _ HB.out).mono ?_
            rintro e w2 ⟨rfl, hb2⟩
            have HB2 := Lib.hid (HB.out.trans (hb2.mono HB.out.size))
            clear hb2
            go_wp2_with fail
            go_roundg (1002 - (j + 1))
            case measure => omega
            case rel => exact ⟨j + 1, by go_num, by omega, by omega, by omega, HB2⟩
        · obtain rfl : j = 1001 := by omega
          have hr := HR.out
          rw [if_neg (by omega)] at hr
          subst hr
          go_wp2_with fail
          go_ret2
          exact ⟨rfl, HB.out⟩

set_option maxRecDepth 100000 in
set_option maxHeartbeats 2000000 in
theorem bck_any (g cap b1 b2 : Nat) (zs : List V) (y : Int) (i : Nat) (W : World) (h1 : Row W g zs) (hc : Cur zs) (e1 : W.cell? ⟨b1, 0, none⟩ = some (.slice (some ⟨g, 0, none⟩) zs.length cap)) (e2 : W.cell? ⟨b2, 0, none⟩ = some (.int .i64 y)) :
    Calls Try.prog 88 #[.int .i64 (i : Int), .pointer (some ⟨b1, 0, none⟩), .pointer (some ⟨b2, 0, none⟩)] W fun e w' => e = .returned (.bool (bckB zs y i)) ∧ Below W.heap.size W w' := by
  have A := Lib.hid (fun (X : World) (hB : Below W.heap.size W X) => levelAt_any g cap zs (i : Int) X (h1.below hB) hc)
  unfold bckB
  generalize levI zs (i : Int) = v at *
  have K : Hid (W.cell? ⟨b1, 0, none⟩ = some (.slice (some ⟨g, 0, none⟩) zs.length cap) ∧ W.cell? ⟨b2, 0, none⟩ = some (.int .i64 y) ∧ Below W.heap.size W W) := Lib.hid ⟨e1, e2, Below.refl _ _⟩
  clear h1 hc e1 e2
  go_enter Try.func88, Try.ntmps88
  go_wp2_with fail
  go_region_held3 (fun X => X.cell? ⟨b1, 0, none⟩ = some (.slice (some ⟨g, 0, none⟩) zs.length cap) ∧ X.cell? ⟨b2, 0, none⟩ = some (.int .i64 y) ∧ Below W.heap.size W X) (first | (exact keepW2 K.out (drewG W)) | (exact keepW2 K.out y1) | go_keep) ((first
    | (go_at_call 86; (with_reducible refine (A.out _ (drewG W)).mono ?_); rintro e x1 ⟨rfl, hx1⟩; have y1 := undrewG hx1)))
  all_goals
    rename_i held
    have HH := Lib.hid held.2.2
    clear held K
    go_wp2_with fail
    go_ret
    exact ⟨rfl, HH.out⟩
set_option maxRecDepth 100000 in
set_option maxHeartbeats 4000000 in
theorem implBack_any (g cap : Nat) (zs : List V) (y : Int) (w : World) (hb : zs.length ≤ 1048577) (h1 : Row w g zs) :
    Calls Try.prog 34 #[.slice (some ⟨g, 0, none⟩) zs.length cap, .int .i64 y] w (NPost (backV zs y) w) := by
  obtain ⟨W0, hW0⟩ : ∃ W0, W0 = (w.alloc (Obj.cells #[.slice (some ⟨g, 0, none⟩) zs.length cap] 41)).alloc (Obj.cells #[.int .i64 y] 2) := ⟨_, rfl⟩
  have hB0 : Below w.heap.size w W0 := by rw [hW0]; exact ((Below.refl _ w).alloc (Nat.le_refl _) _).alloc (by simp) _
  have e0 : W0.cell? ⟨w.heap.size, 0, none⟩ = some (.slice (some ⟨g, 0, none⟩) zs.length cap) := by rw [hW0, World.cell?_alloc_lt _ _ _ (by simp)]; simp
  have e1 : W0.cell? ⟨w.heap.size + 1, 0, none⟩ = some (.int .i64 y) := by rw [hW0]; first | (simp; done) | (rw [show w.heap.size + 1 = (w.alloc (Obj.cells #[.slice (some ⟨g, 0, none⟩) zs.length cap] 41)).heap.size by simp, World.cell?_alloc_at]; rfl)
  have hl0 := World.block_lt_of_cell? W0 ⟨w.heap.size, 0, none⟩ e0
  have hl1 := World.block_lt_of_cell? W0 ⟨w.heap.size + 1, 0, none⟩ e1
  have V := Lib.hid (fun (W : World) (hB : Below W0.heap.size W0 W) => implCurve_any g cap zs W hb ((h1.below hB0).below hB))
  have L := Lib.hid (fun b cap w hc => areLevels1_any y b cap w hc)
  have C0 := Lib.hid (fun (W : World) (hB : Below W0.heap.size W0 W) => (hB.cell (p := ⟨w.heap.size, 0, none⟩) hl0).trans e0)
  have C1 := Lib.hid (fun (W : World) (hB : Below W0.heap.size W0 W) => (hB.cell (p := ⟨w.heap.size + 1, 0, none⟩) hl1).trans e1)
  have SE := Lib.hid (fun (W : World) (hB : Below W0.heap.size W0 W) (hc : Cur zs) => search_any 88 #[.pointer (some ⟨w.heap.size, 0, none⟩), .pointer (some ⟨w.heap.size + 1, 0, none⟩)] 1001 (bckB zs y) W (enters_of Try.func88 (by kernel_rfl) rfl) (by omega)
    (fun X i hX hi => bck_any g cap w.heap.size (w.heap.size + 1) zs y i X (((h1.below hB0).below hB).below hX) hc ((hX.cell (p := ⟨w.heap.size, 0, none⟩) (Nat.lt_of_lt_of_le hl0 hB.size)).trans (C0.out W hB)) ((hX.cell (p := ⟨w.heap.size + 1, 0, none⟩) (Nat.lt_of_lt_of_le hl1 hB.size)).trans (C1.out W hB)))
    (bckB_mono hc y))
  have hcn : cnt 1001 (bckB zs y) = bckN zs y := rfl
  rw [hcn] at SE
  clear hcn h1
  have HW := Lib.hid hW0
  have HB0 := Lib.hid hB0
  clear hW0 hB0 hl0 hl1
  unfold backV
  cases ho : curveB zs with
  | false =>
    rw [if_neg (by simp)]
    rw [ho] at V
    clear ho
    go_enter Try.func34, Try.ntmps34
    go_wp2_with fail
    rw [← HW.out]
    clear HW
    go_wp2_with fail
    refine (V.out _ (Below.refl _ _)).mono ?_
    rintro e w1 ⟨rfl, hb1⟩
    have HB1 := Lib.hid (HB0.out.trans (hb1.mono HB0.out.size))
    go_wp2_with fail
    go_ret2
    exact ⟨rfl, HB1.out⟩
  | true =>
    rw [if_pos rfl]
    rw [ho] at V
    have hc := cur_of ho
    have SE2 := Lib.hid (fun (W : World) (hB : Below W0.heap.size W0 W) => SE.out W hB hc)
    have BL := bckN_le zs y
    clear SE ho hc
    cases hx : inR 0 1000 [y] with
    | false =>
      rw [hx] at L
      rw [if_neg (by simp)]
      clear hx
      go_enter Try.func34, Try.ntmps34
      go_wp2_with fail
      rw [← HW.out]
      clear HW
      go_wp2_with fail
      refine (V.out _ (Below.refl _ _)).mono ?_
      rintro e w1 ⟨rfl, hb1⟩
      have d1 := C1.out w1 hb1
      have HB1 := Lib.hid (HB0.out.trans (hb1.mono HB0.out.size))
      clear hb1 e0 e1
      go_wp2_with fail
      refine (L.out _ _ _ (by simp)).mono ?_
      rintro e w' ⟨rfl, rfl⟩
      go_wp2_with fail
      go_ret2
      exact ⟨rfl, HB1.out.alloc HB1.out.size _⟩
    | true =>
      rw [hx] at L
      rw [if_pos rfl]
      clear hx
      obtain ⟨R, hR⟩ : ∃ R, R = (if bckN zs y ≤ 1000 then ((bckN zs y : Int), (0 : Int)) else (0, 3)) := ⟨_, rfl⟩
      rw [← hR]
      generalize bckN zs y = c at *
      by_cases hc : c ≤ 1000
      · rw [if_pos hc] at hR
        subst hR
        have hc2 : ¬ (1000 : Int) < (c : Int) := by omega
        have hc3 : ¬ 1000 < c := by omega
        go_enter Try.func34, Try.ntmps34
        go_wp2_with fail
        rw [← HW.out]
        clear HW
        go_wp2_with fail
        refine (V.out _ (Below.refl _ _)).mono ?_
        rintro e w1 ⟨rfl, hb1⟩
        have d1 := C1.out w1 hb1
        have HB1 := Lib.hid hb1
        clear hb1 e0 e1
        go_wp2_with fail
        refine (L.out _ _ _ (by simp)).mono ?_
        rintro e w' ⟨rfl, rfl⟩
        have HB2 := Lib.hid (HB1.out.alloc HB1.out.size (Obj.cells #[.int .i64 y] 2))
        go_wp2_with fail
        refine (SE2.out _ HB2.out).mono ?_
        rintro e w3 ⟨rfl, hb3⟩
        have HB3 := Lib.hid (HB0.out.trans ((HB2.out.trans (hb3.mono HB2.out.size)).mono HB0.out.size))
        clear hb3
        go_wp2_with fail
        go_ret2
        exact ⟨rfl, HB3.out⟩
      · rw [if_neg hc] at hR
        subst hR
        have hc2 : (1000 : Int) < (c : Int) := by omega
        go_enter Try.func34, Try.ntmps34
        go_wp2_with fail
        rw [← HW.out]
        clear HW
        go_wp2_with fail
        refine (V.out _ (Below.refl _ _)).mono ?_
        rintro e w1 ⟨rfl, hb1⟩
        have d1 := C1.out w1 hb1
        have HB1 := Lib.hid hb1
        clear hb1 e0 e1
        go_wp2_with fail
        refine (L.out _ _ _ (by simp)).mono ?_
        rintro e w' ⟨rfl, rfl⟩
        have HB2 := Lib.hid (HB1.out.alloc HB1.out.size (Obj.cells #[.int .i64 y] 2))
        go_wp2_with fail
        refine (SE2.out _ HB2.out).mono ?_
        rintro e w3 ⟨rfl, hb3⟩
        have HB3 := Lib.hid (HB0.out.trans ((HB2.out.trans (hb3.mono HB2.out.size)).mono HB0.out.size))
        clear hb3
        go_wp2_with fail
        go_ret2
        exact ⟨rfl, HB3.out⟩
end Go.Proofs.Ytleaoemckdkndaa.Kn
