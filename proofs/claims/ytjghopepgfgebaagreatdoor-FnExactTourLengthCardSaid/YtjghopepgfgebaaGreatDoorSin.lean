/-
  Sines of package impl: the contracts of angle.quadrant, angle.firstSine, angle.sine, angle.cosine.
-/
import Derived.Test.YtjghopepgfgebaaGreatDoorNrm
import Derived.Test.YtjghopepgfgebaaGreatDoorQ2
import Derived.IntWalk
import Derived.StillTailTactics
namespace Go.Proofs.YtjghopepgfgebaaGreatDoor
open Go.RowKit
set_option linter.unusedVariables false

/-- The package variable holds the sines. -/
def SinesOK (w : World) : Prop := 0 < w.heap.size ∧ ∀ j, j < 91 → w.cell? ⟨0, j, none⟩ = some (.int .i64 (tab j))
theorem SinesOK.below {w w' : World} (h : SinesOK w) (hb : Below w.heap.size w w') : SinesOK w' :=
  ⟨by have := hb.size; have := h.1; omega, fun j hj => (hb.cell (p := ⟨0, j, none⟩) h.1).trans (h.2 j hj)⟩
theorem SinesOK.belowB {w w' : World} {B : Nat} (h : SinesOK w) (hB : w.heap.size ≤ B) (hb : Below B w w') : SinesOK w' := h.below (hb.mono hB)

/-- The line between two numbers of the table. -/
theorem qs_line (k r : Nat) (hr : r < 1000) (h : 1000 * k + r ≤ 90000) :
    blendI ((k : Int) * 1000) (tab k) (((if k + 1 < 90 then k + 1 else 90 : Nat) : Int) * 1000) (tab (if k + 1 < 90 then k + 1 else 90)) (1000 * (k : Int) + r) = qs (1000 * (k : Int) + r) := by
  have t0 := tab_bd k (by omega)
  have hm : (if k + 1 < 90 then k + 1 else 90) ≤ 90 := by split <;> omega
  have t1 := tab_bd (if k + 1 < 90 then k + 1 else 90) hm
  have hq : ((1000 * (k : Int) + r) / 1000).toNat = k := by omega
  have hr2 : (1000 * (k : Int) + r) % 1000 = r := by omega
  unfold blendI
  have hin : ∀ m : Nat, m ≤ 90 → (0 ≤ tab m ∧ tab m ≤ 1000000) → inR (-1000000) 1000000 [(k : Int) * 1000, tab k, (m : Int) * 1000, tab m] = true := by
    intro m hm t
    simp only [inR, List.all_cons, List.all_nil, Bool.and_true, Bool.and_eq_true, decide_eq_true_eq]
    omega
  rw [if_pos (hin _ hm t1)]
  unfold lineI qs
  rw [hq, hr2]
  by_cases c : r = 0
  · subst c
    rw [if_pos (by omega), show ((0 : Nat) : Int) = 0 from rfl, Int.mul_zero]
    omega
  · have hk : k < 90 := by omega
    have hs := tab_step k hk
    have e : (if k + 1 < 90 then k + 1 else 90) = k + 1 := by split <;> omega
    rw [e, if_neg (by omega), if_neg (by omega), show 1000 * (k : Int) + r - (k : Int) * 1000 = r by omega, show (((k + 1 : Nat) : Int) * 1000 - (k : Int) * 1000) = 1000 by omega,
      nearQ_pp _ _ (Int.mul_nonneg (by omega) (by omega)) (by omega)]
    rfl


set_option maxRecDepth 100000 in
set_option maxHeartbeats 400000 in
theorem firstSine_low (k k' : Nat) (n p q : Int) (w : World) (hd : n / 1000 = (k : Int)) (ek : (k : Int) + 1 = (k' : Int)) (lk : (k' : Int) < 90) (n0 : 0 ≤ n) (n1 : n ≤ 90000)
    (c1 : w.cell? ⟨0, k, none⟩ = some (.int .i64 p)) (c2 : w.cell? ⟨0, k', none⟩ = some (.int .i64 q)) :
    Calls Tryz.prog 183 #[.int .i64 n] w fun e w' => e = .returned (.int .i64 (blendI ((k : Int) * 1000) p ((k' : Int) * 1000) q n)) ∧ Below w.heap.size w w' := by
  have a0 : (0 : Int) ≤ (k : Int) := by omega
  have a1 : (k : Int) < 91 := by omega
  have b0 : (0 : Int) ≤ (k' : Int) := by omega
  have b1 : (k' : Int) < 91 := by omega
  have lk' : (k' : Int) ≤ 90 := by omega
  have m1 : IntKind.i64.wrap ((k : Int) * 1000) = (k : Int) * 1000 := IntWalk.i64_in _ (by omega)
  have m2 : IntKind.i64.wrap ((k' : Int) * 1000) = (k' : Int) * 1000 := IntWalk.i64_in _ (by omega)
  go_enter Tryz.func183, Tryz.ntmps183
  go_wp2_with fail
  refine wp_region_still_tail 11 (by kernel_rfl) (by kernel_rfl) ?_
  have d1 : w.drew.cell? ⟨0, k, none⟩ = some (.int .i64 p) := c1
  have d2 : w.drew.cell? ⟨0, k', none⟩ = some (.int .i64 q) := c2
  generalize w.drew = w2 at *
  simp only [List.take_succ_cons, List.take_zero, List.drop_succ_cons, List.drop_zero]
  repeat still_step
  refine wpStill_nil ?_
  clear d1 d2 c1 c2
  go_wp2_with fail
  refine (implBlend_any _ _ _ _ _ _).mono ?_
  rintro e w3 ⟨rfl, hb⟩
  go_wp2_with fail
  go_ret
  exact ⟨rfl, Below.trans (b := w.drew) ⟨rfl, rfl, rfl, Nat.le_refl _, fun _ _ => rfl⟩ hb⟩

set_option maxRecDepth 100000 in
set_option maxHeartbeats 400000 in
theorem firstSine_89 (n p q : Int) (w : World) (hd : n / 1000 = 89) (n0 : 0 ≤ n) (n1 : n ≤ 90000)
    (c1 : w.cell? ⟨0, 89, none⟩ = some (.int .i64 p)) (c2 : w.cell? ⟨0, 90, none⟩ = some (.int .i64 q)) :
    Calls Tryz.prog 183 #[.int .i64 n] w fun e w' => e = .returned (.int .i64 (blendI 89000 p 90000 q n)) ∧ Below w.heap.size w w' := by
  go_enter Tryz.func183, Tryz.ntmps183
  go_wp2_with fail
  refine wp_region_still_tail 11 (by kernel_rfl) (by kernel_rfl) ?_
  have d1 : w.drew.cell? ⟨0, 89, none⟩ = some (.int .i64 p) := c1
  have d2 : w.drew.cell? ⟨0, 90, none⟩ = some (.int .i64 q) := c2
  generalize w.drew = w2 at *
  simp only [List.take_succ_cons, List.take_zero, List.drop_succ_cons, List.drop_zero]
  repeat still_step
  refine wpStill_nil ?_
  clear d1 d2 c1 c2
  go_wp2_with fail
  refine (implBlend_any _ _ _ _ _ _).mono ?_
  rintro e w3 ⟨rfl, hb⟩
  go_wp2_with fail
  go_ret
  exact ⟨rfl, Below.trans (b := w.drew) ⟨rfl, rfl, rfl, Nat.le_refl _, fun _ _ => rfl⟩ hb⟩

set_option maxRecDepth 100000 in
set_option maxHeartbeats 400000 in
theorem firstSine_90 (n p : Int) (w : World) (hd : n / 1000 = 90) (n0 : 0 ≤ n) (n1 : n ≤ 90000)
    (c1 : w.cell? ⟨0, 90, none⟩ = some (.int .i64 p)) :
    Calls Tryz.prog 183 #[.int .i64 n] w fun e w' => e = .returned (.int .i64 (blendI 90000 p 90000 p n)) ∧ Below w.heap.size w w' := by
  go_enter Tryz.func183, Tryz.ntmps183
  go_wp2_with fail
  refine wp_region_still_tail 11 (by kernel_rfl) (by kernel_rfl) ?_
  have d1 : w.drew.cell? ⟨0, 90, none⟩ = some (.int .i64 p) := c1
  have d2 : w.drew.cell? ⟨0, 90, none⟩ = some (.int .i64 p) := c1
  generalize w.drew = w2 at *
  simp only [List.take_succ_cons, List.take_zero, List.drop_succ_cons, List.drop_zero]
  repeat still_step
  refine wpStill_nil ?_
  clear d1 d2 c1
  go_wp2_with fail
  refine (implBlend_any _ _ _ _ _ _).mono ?_
  rintro e w3 ⟨rfl, hb⟩
  go_wp2_with fail
  go_ret
  exact ⟨rfl, Below.trans (b := w.drew) ⟨rfl, rfl, rfl, Nat.le_refl _, fun _ _ => rfl⟩ hb⟩

theorem firstSine_any (n : Int) (h0 : 0 ≤ n) (h1 : n ≤ 90000) (w : World) (hs : SinesOK w) :
    Calls Tryz.prog 183 #[.int .i64 n] w fun e w' => e = .returned (.int .i64 (qs n)) ∧ Below w.heap.size w w' := by
  obtain ⟨k, hk⟩ := Int.eq_ofNat_of_zero_le (show 0 ≤ n / 1000 by omega)
  obtain ⟨r, hr⟩ := Int.eq_ofNat_of_zero_le (show 0 ≤ n % 1000 by omega)
  have hn : n = 1000 * (k : Int) + r := by omega
  have hq := qs_line k r (by omega) (by omega)
  rw [← hn] at hq
  rw [← hq]
  by_cases c : k + 1 < 90
  · rw [if_pos c]
    exact firstSine_low k (k + 1) n _ _ w hk (by omega) (by omega) h0 h1 (hs.2 k (by omega)) (hs.2 (k + 1) (by omega))
  · rw [if_neg c]
    by_cases d : k = 89
    · subst d
      exact firstSine_89 n _ _ w hk h0 h1 (hs.2 89 (by omega)) (hs.2 90 (by omega))
    · obtain rfl : k = 90 := by omega
      exact firstSine_90 n _ w hk h0 h1 (hs.2 90 (by omega))

set_option maxHeartbeats 400000 in
theorem quadrant_any (a q : Int) (h0 : 0 ≤ a) (h1 : a < 360000) (hq : a / 90000 = q) (w : World) :
    Calls Tryz.prog 182 #[.int .i64 a] w fun e w' => e = .returned (.int .i64 q) ∧ w = w' := by
  have F := Lib.hid (normal_any a w (by omega) (by omega))
  rw [nrm_of a h0 h1] at F
  subst hq
  go_enter Tryz.func182, Tryz.ntmps182
  go_wp2_with fail
  refine F.out.mono ?_
  rintro e w' ⟨rfl, rfl⟩
  go_wp2_with fail
  go_ret
  exact ⟨rfl, rfl⟩

set_option maxHeartbeats 400000 in
theorem sine_0 (a n z : Int) (h0 : -9223372036854775808 ≤ a) (h1 : a ≤ 9223372036854775807) (hn : nrm a = n) (l0 : 0 ≤ n) (l1 : n < 90000) (_z0 : 0 ≤ z) (_z1 : z ≤ 1000000) (w : World)
    (hz : Calls Tryz.prog 183 #[.int .i64 (n)] w fun e w' => e = .returned (.int .i64 z) ∧ Below w.heap.size w w') :
    Calls Tryz.prog 170 #[.int .i64 a] w fun e w' => e = .returned (.int .i64 (z)) ∧ Below w.heap.size w w' := by
  have F := Lib.hid (normal_any a w h0 h1)
  rw [hn] at F
  have Q := Lib.hid (quadrant_any n 0 (by omega) (by omega) (by omega) w)
  have Z := Lib.hid hz
  clear hz hn
  go_enter Tryz.func170, Tryz.ntmps170
  go_wp2_with fail
  refine F.out.mono ?_
  rintro e w' ⟨rfl, rfl⟩
  go_wp2_with fail
  refine Q.out.mono ?_
  rintro e w' ⟨rfl, rfl⟩
  go_wp2_with fail
  refine Z.out.mono ?_
  rintro e w' ⟨rfl, hb⟩
  go_wp2_with fail
  go_ret
  exact ⟨rfl, hb⟩

set_option maxHeartbeats 400000 in
theorem sine_1 (a n z : Int) (h0 : -9223372036854775808 ≤ a) (h1 : a ≤ 9223372036854775807) (hn : nrm a = n) (l0 : 90000 ≤ n) (l1 : n < 180000) (_z0 : 0 ≤ z) (_z1 : z ≤ 1000000) (w : World)
    (hz : Calls Tryz.prog 183 #[.int .i64 (180000 - n)] w fun e w' => e = .returned (.int .i64 z) ∧ Below w.heap.size w w') :
    Calls Tryz.prog 170 #[.int .i64 a] w fun e w' => e = .returned (.int .i64 (z)) ∧ Below w.heap.size w w' := by
  have F := Lib.hid (normal_any a w h0 h1)
  rw [hn] at F
  have Q := Lib.hid (quadrant_any n 1 (by omega) (by omega) (by omega) w)
  have Z := Lib.hid hz
  clear hz hn
  go_enter Tryz.func170, Tryz.ntmps170
  go_wp2_with fail
  refine F.out.mono ?_
  rintro e w' ⟨rfl, rfl⟩
  go_wp2_with fail
  refine Q.out.mono ?_
  rintro e w' ⟨rfl, rfl⟩
  go_wp2_with fail
  refine Z.out.mono ?_
  rintro e w' ⟨rfl, hb⟩
  go_wp2_with fail
  go_ret
  exact ⟨rfl, hb⟩

set_option maxHeartbeats 400000 in
theorem sine_2 (a n z : Int) (h0 : -9223372036854775808 ≤ a) (h1 : a ≤ 9223372036854775807) (hn : nrm a = n) (l0 : 180000 ≤ n) (l1 : n < 270000) (z0 : 0 ≤ z) (z1 : z ≤ 1000000) (w : World)
    (hz : Calls Tryz.prog 183 #[.int .i64 (n - 180000)] w fun e w' => e = .returned (.int .i64 z) ∧ Below w.heap.size w w') :
    Calls Tryz.prog 170 #[.int .i64 a] w fun e w' => e = .returned (.int .i64 (-z)) ∧ Below w.heap.size w w' := by
  have F := Lib.hid (normal_any a w h0 h1)
  rw [hn] at F
  have Q := Lib.hid (quadrant_any n 2 (by omega) (by omega) (by omega) w)
  have Z := Lib.hid hz
  clear hz hn
  go_enter Tryz.func170, Tryz.ntmps170
  go_wp2_with fail
  refine F.out.mono ?_
  rintro e w' ⟨rfl, rfl⟩
  go_wp2_with fail
  refine Q.out.mono ?_
  rintro e w' ⟨rfl, rfl⟩
  go_wp2_with fail
  refine Z.out.mono ?_
  rintro e w' ⟨rfl, hb⟩
  go_wp2_with fail
  go_ret
  exact ⟨rfl, hb⟩

set_option maxHeartbeats 400000 in
theorem sine_3 (a n z : Int) (h0 : -9223372036854775808 ≤ a) (h1 : a ≤ 9223372036854775807) (hn : nrm a = n) (l0 : 270000 ≤ n) (l1 : n < 360000) (z0 : 0 ≤ z) (z1 : z ≤ 1000000) (w : World)
    (hz : Calls Tryz.prog 183 #[.int .i64 (360000 - n)] w fun e w' => e = .returned (.int .i64 z) ∧ Below w.heap.size w w') :
    Calls Tryz.prog 170 #[.int .i64 a] w fun e w' => e = .returned (.int .i64 (-z)) ∧ Below w.heap.size w w' := by
  have F := Lib.hid (normal_any a w h0 h1)
  rw [hn] at F
  have Q := Lib.hid (quadrant_any n 3 (by omega) (by omega) (by omega) w)
  have Z := Lib.hid hz
  clear hz hn
  go_enter Tryz.func170, Tryz.ntmps170
  go_wp2_with fail
  refine F.out.mono ?_
  rintro e w' ⟨rfl, rfl⟩
  go_wp2_with fail
  refine Q.out.mono ?_
  rintro e w' ⟨rfl, rfl⟩
  go_wp2_with fail
  refine Z.out.mono ?_
  rintro e w' ⟨rfl, hb⟩
  go_wp2_with fail
  go_ret
  exact ⟨rfl, hb⟩

theorem sine_any (a : Int) (h0 : -9223372036854775808 ≤ a) (h1 : a ≤ 9223372036854775807) (w : World) (hs : SinesOK w) :
    Calls Tryz.prog 170 #[.int .i64 a] w fun e w' => e = .returned (.int .i64 (sinI a)) ∧ Below w.heap.size w w' := by
  obtain ⟨n0, n1⟩ := nrm_bd a
  rw [← sinI_nrm]
  generalize hn : nrm a = n at *
  by_cases c1 : n < 90000
  · have b := qs_bd n (by omega) (by omega)
    rw [sinI_q1 n (by omega) (by omega)]
    exact sine_0 a n _ h0 h1 hn n0 c1 b.1 b.2 w (firstSine_any n (by omega) (by omega) w hs)
  · by_cases c2 : n < 180000
    · have b := qs_bd (180000 - n) (by omega) (by omega)
      rw [sinI_q2 n (by omega) (by omega)]
      exact sine_1 a n _ h0 h1 hn (by omega) c2 b.1 b.2 w (firstSine_any _ (by omega) (by omega) w hs)
    · by_cases c3 : n < 270000
      · have b := qs_bd (n - 180000) (by omega) (by omega)
        rw [sinI_q3 n (by omega) (by omega)]
        exact sine_2 a n _ h0 h1 hn (by omega) c3 b.1 b.2 w (firstSine_any _ (by omega) (by omega) w hs)
      · have b := qs_bd (360000 - n) (by omega) (by omega)
        rw [sinI_q4 n (by omega) (by omega)]
        exact sine_3 a n _ h0 h1 hn (by omega) n1 b.1 b.2 w (firstSine_any _ (by omega) (by omega) w hs)

set_option maxHeartbeats 400000 in
theorem cosine_any (a : Int) (h0 : -9223372036854775808 ≤ a) (h1 : a ≤ 9223372036854775807) (w : World) (hs : SinesOK w) :
    Calls Tryz.prog 171 #[.int .i64 a] w fun e w' => e = .returned (.int .i64 (cosI a)) ∧ Below w.heap.size w w' := by
  obtain ⟨n0, n1⟩ := nrm_bd a
  have F := Lib.hid (normal_any a w h0 h1)
  have S := Lib.hid (sine_any (nrm a + 90000) (by omega) (by omega) w hs)
  unfold cosI
  clear hs
  go_enter Tryz.func171, Tryz.ntmps171
  go_wp2_with fail
  refine F.out.mono ?_
  rintro e w' ⟨rfl, rfl⟩
  go_wp2_with fail
  refine S.out.mono ?_
  rintro e w' ⟨rfl, hb⟩
  go_wp2_with fail
  go_ret
  exact ⟨rfl, hb⟩
end Go.Proofs.YtjghopepgfgebaaGreatDoor
